import PyProof.Rows.All
import Wide.All
import OpenK.AllK
import Wide.FinOn
import HandS.ForMost
import HandS.Wide
import HandS.Defaults
import HandS.Flow
import HandS.Style
import HandS.IsInst
import HandS.MakeKw
import HandS.Zip
import HandS.TupAny
import HandS.RaiseMore
import KE.GoesMore
import HandS.Walk
import KE.GoesEnum
import KE.KExcIs
import HandS.ForExc
import HandS.ExcInit
import HandS.ExcField
import PyProof.Rows.IntBool
import HandS.Replace
import KE.KMinKey
import HandS.SortKw
import PySem.Challenge.RW_tablebills_k06_whole_costs_bounded
set_option linter.all false
set_option maxRecDepth 100000
namespace K06
/-! ### words by the codes of their letters, and the word behind a word -/
def Lt (c : Nat) : Prop := 97 ≤ c ∧ c ≤ 122
/-- the next word of as many letters, written backwards -/
def incR : List Nat → List Nat
  | [] => []
  | [c] => [if c = 122 then 97 else c + 1]
  | c :: d :: r => if c = 122 then 97 :: incR (d :: r) else (c + 1) :: d :: r
def aft (cs : List Nat) : List Nat := if cs.length < 8 then cs ++ [97] else (incR cs.reverse).reverse
def valR : List Nat → Nat
  | [] => 0
  | c :: r => (c - 97) + 26 * valR r
theorem incR_len : ∀ l : List Nat, (incR l).length = l.length
  | [] => rfl
  | [c] => rfl
  | c :: d :: r => by
    unfold incR
    by_cases h : c = 122
    · rw [if_pos h, List.length_cons, incR_len (d :: r)]
      rfl
    · rw [if_neg h]
      rfl
theorem incR_lt : ∀ {l : List Nat}, (∀ c ∈ l, Lt c) → ∀ c ∈ incR l, Lt c
  | [], _, c, h => by cases h
  | [c], hl, x, hx => by
    unfold incR at hx
    have hc := hl c List.mem_cons_self
    unfold Lt at *
    rw [List.mem_singleton.mp hx]
    by_cases h : c = 122
    · rw [if_pos h]
      omega
    · rw [if_neg h]
      omega
  | c :: d :: r, hl, x, hx => by
    unfold incR at hx
    have hc := hl c List.mem_cons_self
    by_cases h : c = 122
    · rw [if_pos h] at hx
      rcases List.mem_cons.mp hx with rfl | hx
      · exact ⟨by omega, by omega⟩
      · exact incR_lt (fun y hy => hl y (List.mem_cons_of_mem _ hy)) x hx
    · rw [if_neg h] at hx
      rcases List.mem_cons.mp hx with rfl | hx
      · unfold Lt at *
        omega
      · exact hl x (List.mem_cons_of_mem _ hx)
theorem valR_lt : ∀ {l : List Nat}, (∀ c ∈ l, Lt c) → valR l < 26 ^ l.length
  | [], _ => by decide
  | c :: r, h => by
    have hc := h c List.mem_cons_self
    have hr := valR_lt fun y hy => h y (List.mem_cons_of_mem _ hy)
    unfold Lt at hc
    rw [List.length_cons, Nat.pow_succ]
    show c - 97 + 26 * valR r < _
    omega
/-- one more, or all the way round -/
theorem valR_inc : ∀ {l : List Nat}, l ≠ [] → (∀ c ∈ l, Lt c) → valR (incR l) = (valR l + 1) % 26 ^ l.length
  | [], h, _ => absurd rfl h
  | [c], _, h => by
    have hc := h c List.mem_cons_self
    unfold Lt at hc
    unfold incR
    by_cases z : c = 122
    · rw [if_pos z, z]
      rfl
    · rw [if_neg z]
      show c + 1 - 97 + 26 * 0 = (c - 97 + 26 * 0 + 1) % 26 ^ 1
      omega
  | c :: d :: r, _, h => by
    have hc := h c List.mem_cons_self
    have ht : ∀ y ∈ d :: r, Lt y := fun y hy => h y (List.mem_cons_of_mem _ hy)
    have vl := valR_lt ht
    unfold Lt at hc
    unfold incR
    have e : 26 ^ (c :: d :: r).length = 26 * 26 ^ (d :: r).length := by rw [List.length_cons, Nat.pow_succ, Nat.mul_comm]
    rw [e]
    by_cases z : c = 122
    · rw [if_pos z, z]
      show 97 - 97 + 26 * valR (incR (d :: r)) = (122 - 97 + 26 * valR (d :: r) + 1) % (26 * 26 ^ (d :: r).length)
      rw [valR_inc (by intro y; cases y) ht]
      have e2 : 122 - 97 + 26 * valR (d :: r) + 1 = 26 * (valR (d :: r) + 1) := by omega
      rw [e2, Nat.mul_mod_mul_left]
      omega
    · rw [if_neg z]
      show c + 1 - 97 + 26 * valR (d :: r) = (c - 97 + 26 * valR (d :: r) + 1) % (26 * 26 ^ (d :: r).length)
      generalize 26 ^ (d :: r).length = B at *
      rw [Nat.mod_eq_of_lt (by omega)]
      omega
/-- a word -/
structure Wd (cs : List Nat) : Prop where
  n0 : 0 < cs.length
  n1 : cs.length ≤ 8
  lt : ∀ c ∈ cs, Lt c
theorem Wd.aft {cs : List Nat} (h : Wd cs) : Wd (aft cs) := by
  unfold K06.aft
  by_cases c : cs.length < 8
  · rw [if_pos c]
    refine ⟨by rw [List.length_append]; exact Nat.lt_of_lt_of_le h.n0 (Nat.le_add_right _ _), by rw [List.length_append]; show _ + 1 ≤ 8; omega, fun x hx => ?_⟩
    rcases List.mem_append.mp hx with z | z
    · exact h.lt x z
    · rw [List.mem_singleton.mp z]
      exact ⟨by decide, by decide⟩
  · rw [if_neg c]
    refine ⟨by rw [List.length_reverse, incR_len, List.length_reverse]; exact h.n0, by rw [List.length_reverse, incR_len, List.length_reverse]; exact h.n1, fun x hx => ?_⟩
    exact incR_lt (fun y hy => h.lt y (List.mem_reverse.mp hy)) x (List.mem_reverse.mp hx)
def it (cs : List Nat) : Nat → List Nat
  | 0 => cs
  | k + 1 => aft (it cs k)
theorem Wd.it {cs : List Nat} (h : Wd cs) : ∀ k, Wd (it cs k)
  | 0 => h
  | k + 1 => (Wd.it h k).aft
theorem aft_len {cs : List Nat} (h : Wd cs) : (aft cs).length = min 8 (cs.length + 1) := by
  have := h.n1
  unfold aft
  by_cases c : cs.length < 8
  · rw [if_pos c, List.length_append]
    show _ + 1 = _
    omega
  · rw [if_neg c, List.length_reverse, incR_len, List.length_reverse]
    omega
theorem it_len {cs : List Nat} (h : Wd cs) : ∀ k, (it cs k).length = min 8 (cs.length + k)
  | 0 => by
    have := h.n1
    show cs.length = _
    omega
  | k + 1 => by
    show (aft (it cs k)).length = _
    rw [aft_len (h.it k), it_len h k]
    omega
theorem aft_val {cs : List Nat} (h : Wd cs) (h8 : cs.length = 8) : valR (aft cs).reverse = (valR cs.reverse + 1) % 26 ^ 8 := by
  unfold aft
  rw [if_neg (by omega), List.reverse_reverse, valR_inc (fun z => by
    have : cs.reverse.length = 0 := by rw [z]; rfl
    rw [List.length_reverse] at this
    omega) (fun y hy => h.lt y (List.mem_reverse.mp hy)), List.length_reverse, h8]
theorem it_val {cs : List Nat} (h : Wd cs) {i : Nat} (h8 : (it cs i).length = 8) : ∀ k, valR (it cs (i + k)).reverse = (valR (it cs i).reverse + k) % 26 ^ 8
  | 0 => by
    have := valR_lt (l := (it cs i).reverse) fun y hy => (h.it i).lt y (List.mem_reverse.mp hy)
    rw [List.length_reverse, h8] at this
    rw [Nat.add_zero, Nat.add_zero, Nat.mod_eq_of_lt this]
  | k + 1 => by
    have l8 : (it cs (i + k)).length = 8 := by
      rw [it_len h] at h8 ⊢
      omega
    show valR (aft (it cs (i + k))).reverse = _
    rw [aft_val (h.it _) l8, it_val h h8 k]
    omega
/-- of so few steps no two meet -/
theorem it_ne {cs : List Nat} (h : Wd cs) {i k : Nat} (hk : 0 < k) (h1 : k < 1000) : it cs i ≠ it cs (i + k) := fun e => by
  have hl := congrArg List.length e
  rw [it_len h, it_len h] at hl
  have l8 : (it cs i).length = 8 := by
    rw [it_len h]
    omega
  have v := it_val h l8 k
  rw [← e] at v
  have b := valR_lt (l := (it cs i).reverse) fun y hy => (h.it i).lt y (List.mem_reverse.mp hy)
  rw [List.length_reverse, l8] at b
  omega
theorem sub_len {α : Type} [DecidableEq α] : ∀ {l F : List α}, l.Nodup → (∀ x ∈ l, x ∈ F) → l.length ≤ F.length
  | [], _, _, _ => Nat.zero_le _
  | x :: l, F, nd, h => by
    have hx := h x List.mem_cons_self
    obtain ⟨n1, n2⟩ := List.nodup_cons.mp nd
    have := sub_len (F := F.erase x) n2 fun y hy => (List.mem_erase_of_ne (fun (z : y = x) => n1 (z ▸ hy))).mpr (h y (List.mem_cons_of_mem _ hy))
    rw [List.length_erase_of_mem hx] at this
    have : 0 < F.length := List.length_pos_of_mem hx
    rw [List.length_cons]
    omega
/-- not all of the first n are among fewer -/
theorem it_out {cs : List Nat} (h : Wd cs) {F : List (List Nat)} {n : Nat} (hn : F.length < n) (h1 : n < 1000) : ¬ ∀ k, k < n → it cs k ∈ F := fun all => by
  have nd : ((List.range n).map (it cs)).Nodup := by
    refine List.pairwise_map.mpr ?_
    refine List.Pairwise.imp_of_mem ?_ (List.pairwise_lt_range (n := n))
    intro a b ha hb hab e
    have := List.mem_range.mp hb
    obtain ⟨k, rfl⟩ : ∃ k, b = a + k := ⟨b - a, by omega⟩
    exact it_ne h (by omega) (by omega) e
  have := sub_len nd fun x hx => by
    obtain ⟨k, hk, rfl⟩ := List.mem_map.mp hx
    exact all k (List.mem_range.mp hk)
  rw [List.length_map, List.length_range] at this
  omega
end K06

set_option Elab.async false
set_option linter.all false
set_option maxRecDepth 100000
namespace TB
open PySem PySem.Spec PyProof.Rows L2

/-! A def's promise, where no repr is under way around it. -/
section
variable (P : Program) (w : World) (K : PySem.W.Frag) (mg : Str → Option Value) (base : Heap)
structure FnG (CX : CXT) (k : Nat) (f : Addr) (fd : FuncData) (ps : List Str) (sp : Sp) : Prop where
  len : ∀ xs G R Z, sp xs G R Z → xs.length = ps.length
  run : ∀ (A : Around), A.guards = some [] → Room k A →
    ∀ (outer : List Env) (s : Shared) (H : Hp), Env0 P w K mg base A outer s H →
    ∀ (args : Args) (us : List Value) (vs : List V), BindsTo s fd args (ps.zip us) → Vals vs us →
    ∀ (Q : VK) (E : XK), sp vs H Q E →
      codeAny (model P w) A (Code.call (Value.ref f) args)
        (CR CX outer P w H s Q E) s
end

section
variable {P : Program} {w : World} {K : PySem.W.Frag} {mg : Str → Option Value} {base : Heap} {CX : CXT}
theorem FnG.of {k : Nat} {f : Addr} {fd : FuncData} {ps : List Str} {sp : Sp}
    (F : FnOk P w K mg base CX k f fd ps sp) : FnG P w K mg base CX k f fd ps sp :=
  ⟨F.len, fun A _ hr outer s H e0 args us vs hb r Q E h => F.run A outer s H args us vs Q E hr e0 hb r h⟩

/-- the body's walk gives the promise -/
theorem gfn {k : Nat} {f : Addr} {nm qual : Str} {prm : Arguments} {bd : List Stmt} {sc : Scope} {dV kV doc pm cdv ct oc : Value} {an od : Option Addr}
    {osl : Array (Option Value)} {N : List Str} {ps : List Str} {sp : Sp}
    (lk : K.lookup f = some ⟨oc, od, .func (PySem.W.fnOf nm qual prm bd sc dV kV doc pm an cdv ct), osl⟩)
    (hcd : PySem.W.codeIn K cdv qual = true) (S : FnScope N ps sc) (len : ∀ vs H Q E, sp vs H Q E → vs.length = ps.length)
    (walk : ∀ (A : Around), A.guards = some [] → ∀ (outer : List Env) (s : Shared) (H : Hp) (vs : List V) (Q : VK) (E : XK),
      Room k (A.deeper (envOfC qual sc s.heap.objs.size f cdv)) → sp vs H Q E →
      ∃ t, PSs (cxOf CX P w K mg base N qual sc f cdv A outer s H E) bd t ∧ t ⟨fun _ H' => Q .non H', Q, fun _ _ => False, fun _ _ => False⟩ (start N vs) H) :
    FnG P w K mg base CX (k + 1) f (PySem.W.fnOf nm qual prm bd sc dV kV doc pm an cdv ct) ps sp := by
  constructor
  · exact len
  intro A hg hr outer s H e0 args us vs hb r Q E hsp
  have keeps : ∀ b o, base.get? b = some o → s.heap.get? b = some o := fun b o e => (e0.bs b o e).1
  have KX : K.In s.heap := e0.mod.kin.keeps keeps
  have lim : s.heap.NoLimit := e0.mod.nolimit.keeps keeps
  obtain ⟨t, ht, hq⟩ := walk A hg outer s H vs Q E (hr.deeper _) hsp
  have crec := PySem.W.codeRec_of KX hcd
  refine codeAny_call_function hr.depth (KX _ _ lk) rfl S.co S.gen rfl crec (hb _ _ _ _ ?_)
  refine wpAny_newFunctionEnv_cells S.kind ?_ ?_
  · rintro ⟨n, v⟩ hy
    have q := S.par n (List.of_mem_zip hy).1
    cases q with
    | inl q => exact Or.inl q
    | inr q => exact Or.inr ⟨q, PySem.W.cellsFrom_some _ _ _ (Or.inl q)⟩
  · intro env he s1 x
    cases he
    have I := inv_start (CX := CX) (P := P) (w := w) (mg := mg) (N := N) (qual := qual) (f := f) (cd := cdv) (E := E) S hr.hd e0 (len _ _ _ _ hsp) r x
    refine ⟨lim.keeps x.toInCall.keep, codeAny_func (wpAny_mono (ht.run [] s1 (start N vs) H _ I hq) ?_ (fun e s' hs => hs))⟩
    intro fl s' hs
    match fl, hs with
    | .ret u, ⟨v, _, H', J, rv, q⟩ => exact ⟨v, H', J.os, J.bare, J.base, J.hok, rv, q⟩
    | .next, ⟨_, H', J, q⟩ => exact ⟨V.non, H', J.os, J.bare, J.base, J.hok, rfl, q⟩
    | .brk, ⟨_, _, _, q⟩ => exact q.elim
    | .cont, ⟨_, _, _, q⟩ => exact q.elim

theorem gok {x qual : Str} {st : Stmt} {f : Addr} {fd : FuncData} {N ps : List Str} {k : Nat} {sp : Sp} (F : Fun K x qual st f fd)
    (S : FnScope N ps (defScope st)) (len : ∀ vs H Q E, sp vs H Q E → vs.length = ps.length)
    (walk : ∀ (cdv : Value) (A : Around), A.guards = some [] → ∀ (outer : List Env) (s : Shared) (H : Hp) (vs : List V) (Q : VK) (E : XK),
      Room k (A.deeper (envOfC qual (defScope st) s.heap.objs.size f cdv)) → sp vs H Q E →
      ∃ t, PSs (cxOf CX0 P w K mg base N qual (defScope st) f cdv A outer s H E).nox (defBody st) t ∧
        t ⟨fun _ H' => Q .non H', Q, fun _ _ => False, fun _ _ => False⟩ (start N vs) H) :
    FnG P w K mg base CX0 (k + 1) f fd ps sp := by
  obtain ⟨_, _, _, _, _, _, cdv, _, _, rfl, lk, hcd⟩ := F.ex
  refine gfn lk hcd S len fun A hg outer s H vs Q E hr hsp => ?_
  obtain ⟨t, a, b⟩ := walk cdv A hg outer s H vs Q E hr hsp
  exact ⟨t, a.nox, b⟩
end

section
variable {X : Cx} {CX : CXT} {k : Nat} {f : Addr} {fd : FuncData} {ps : List Str} {sp : Sp} {dvs : List V} {ds : List Value} {E : XK} {x : Str} {p pos : Pos} {e : Expr} {es : List Expr} {t : TA}
/-- f(e, ..) of such a def -/
theorem pe_callG (F : FnG X.prog X.w X.K X.mg X.base CX k f fd ps sp) (gd : X.A.guards = some []) (hr : Room k X.A) (hg : Gl X x) (hm : X.mg x = some (.ref f))
    (hk : PySem.W.keepIn X.K (.ref f) = true) (hb : Binds X.K fd ps ds) (hd : Vals dvs ds) (hx : Passes CX X E) (ha : PA X (e :: es) t)
    (he : starEach (e :: es) X.env = (false, eval e X.env) :: starEach es X.env := by rfl) (hdb : (x == ("__debug__" : Str)) = false := by decide)
    (hpl : (backTo pos (starEach es X.env)).any (·.1) = false := by rfl) : PE X (.Call (.Name x p) (e :: es) [] pos) (tCall sp dvs E t) := by
  constructor
  intro pins s σ H Q I h
  refine wpAny_Call_Name_kw (ld_glob I hg hm (PySem.W.callWith_K (h₀ := X.base) I.ok.mod.kin hk (thn (ha.run pos pins s σ H _ I h) ?_) he hpl) hdb)
  rintro us s1 ⟨vs, H1, I1, r, q⟩
  have r2 := r.append hd
  have hl : (us ++ ds).length = ps.length := r2.length.symm.trans (F.len _ _ _ _ q)
  refine ⟨I1.kIn, wpAny_call (codeAny_mono (F.run X.A gd hr X.stack s1 H1 I1.env0 ⟨us, []⟩ _ _ (hb s1 us I1.kIn hl) r2 Q E q) ?_)⟩
  intro res s' hq
  match res, hq with
  | .error e, hq => exact hx pins σ H1 s1 e s' I1 hq
  | .ok (.ret u), hq => exact I1.after hq
  | .ok .next, hq => exact hq.elim
  | .ok .brk, hq => exact hq.elim
  | .ok .cont, hq => exact hq.elim
end

/-! repr of plain data -/
section
variable {X : Cx}
def rRepr (K : PySem.W.Frag) : List V → Hp → VK → Prop := fun xs H Q => ∃ a d, xs = [.ref a] ∧ Dp K H (.ref a) d ∧ d.showable = true ∧ d.hasDict = false ∧ d.depth ≤ 60 ∧ d.shown.length ≤ sizeLine ∧ Q (.str d.shown) H
theorem call_reprD (gd : X.A.guards = some []) (hu : X.A.units + 64 < cLine) : CallR X (.builtin "repr") (rRepr X.K) := by
  intro pins s σ H args us Q I r h
  obtain ⟨a, d, rfl, hd, hs, hn, hp, hz, q⟩ := h
  cases r with
  | cons r1 r2 =>
    cases r2
    have e := r1
    obtain rfl := show _ = Value.ref a from e
    obtain ⟨as, rd⟩ := Dp.reads I d _ _ hd rfl
    refine repr_of_reads' rd hs (PyData.noDict_hsm hn) gd (by omega) (fun _ _ z => z) (fun h' u tk k => ?_) hz
    exact ⟨.str d.shown, H, I.kept k, ⟨u, rfl⟩, q⟩

/-- xs[i] read, i no less than 0, by values -/
def rGetN (K : PySem.W.Frag) : V → V → Hp → VK → Prop := fun o i H Q => ∃ (p : Addr) (xs : List V) (j : Nat) (v : V), o = .ref p ∧ i = .int (j : Int) ∧ SqL K H p xs ∧ xs[j]? = some v ∧ Q v H
theorem get_list : PGet X (rGetN X.K) := by
  intro pins s σ H o i ov iv Q I ro ri h
  obtain ⟨p, xs, j, z, rfl, rfl, hq, he, q⟩ := h
  cases ro
  obtain ⟨t, rfl⟩ := ri
  obtain ⟨its, rl, pl, hz⟩ := I.list hq
  obtain ⟨v, ev, rv⟩ := rl.get he
  have hl := rl.length
  have hj : j < xs.length := (List.getElem?_eq_some_iff.mp he).1
  have hn := line63
  exact wpAny_getItem_list pl.isList (by omega) (by omega) (by rw [Int.toNat_natCast]; simpa using ev) ⟨z, H, I, rv, q⟩
end

/-! the law's own call, at the top's end -/
section
variable {P : Program} {w : World} {K : PySem.W.Frag} {mg mb : Str → Option Value} {k : Nat} {fa a : Addr} {fd : FuncData} {x : Str} {sp : Sp} {s1 : Shared} {vs : List Value} {ns : List Int}
/-- the abstract heap that tracks the script alone, or nothing -/
theorem lawG0 {H : Hp} (KX : K.In s1.heap) (hns : s1.heap.Ns mainGlobals mg) (hb : s1.heap.Ns builtinsNs mb)
    (hbb : ∀ y : Str, y ≠ "__name__" → mb y = bootBuiltins y) (hlim : s1.heap.NoLimit) (hg : s1.gens = #[])
    (ha : s1.heap.get? a = some { cls := .type "list", data := .seq vs.toArray }) (hr : Room k callerA)
    (F : ∀ base : Heap, K.In base → base.Ns mainGlobals mg → FnG P w K mg base CX0 k fa fd [x] sp)
    (hbind : ∀ (s : Shared) (u : Value), BindsTo s fd ⟨[u], []⟩ [(x, u)])
    (hO : Only H) (hok : HOk P w H s1.heap) (onlyA : ∀ b, H b ≠ none → b = a) (notK : H a ≠ none → K.lookup a = none)
    (hsp : sp [.ref a] H (fun v _ => v = .bl true) fun _ _ _ => False) :
    codeAny (model P w) callerA (.call (.ref fa) ⟨[.ref a], []⟩)
      (fun r s' => r = .ok (.ret (.bool true)) ∧ OldK s1.heap s'.heap ∧ s'.os = s1.os ∧ AllBare s'.gens) s1 := by
  have free : ∀ (b : Addr), (b = a → H b = none) → H b = none := by
    intro b hb
    by_cases e : H b = none
    · exact e
    · exact hb (onlyA b e)
  have nsB : ∀ {b : Addr} {m : Str → Option Value}, s1.heap.Ns b m → (hidT s1.heap H).Ns b m := by
    rintro b m ⟨o, es, ep, e, d, r⟩
    refine ⟨o, es, ep, hidT_get e (free b ?_), d, r⟩
    rintro rfl
    have q := Option.some.inj (e.symm.trans ha)
    rw [q] at d
    exact nomatch d
  have kinB : K.In (hidT s1.heap H) := by
    intro b o e
    refine hidT_get (KX b o e) (free b ?_)
    rintro rfl
    by_cases z : H b = none
    · exact z
    · exact absurd ((notK z).symm.trans e) (fun q => nomatch q)
  obtain ⟨mc, hl1, hl2⟩ := hlim
  have M : Mod K mg (hidT s1.heap H) := ⟨kinB, nsB hns, ⟨mb, nsB hb, hbb⟩, ⟨mc, nsB hl1, hl2⟩⟩
  have e0 : Env0 P w K mg (hidT s1.heap H) callerA [] s1 H :=
    { frames := rfl, mod := M, bs := fun b o e => of_hidT e, bsz := Nat.le_of_eq (hidT_size _ _), funs := trivial,
      frf := fun b hb => (nomatch (show b ∈ ([] : List Addr) from hb)), hok := hok, bare := .of_eq hg }
  have run := (F _ kinB (nsB hns)).run callerA rfl hr [] s1 H e0 ⟨[.ref a], []⟩ [.ref a] [.ref a] (hbind s1 _) (.cons rfl .nil) _ _ hsp
  refine codeAny_mono run ?_
  intro r s' h
  match r, h with
  | .ok (.ret u), ⟨v, H', os, bare, un, hok', rv, q⟩ =>
    have q' : v = V.bl true := q
    subst q'
    have eu : u = Value.bool true := rv
    subst eu
    refine ⟨rfl, OldK.of_keep ?_, os, bare⟩
    intro b o e
    by_cases z : H b = none
    · exact un.keep b o e z (fun q => nomatch (show b ∈ ([] : List Addr) from q)) (fun q => nomatch q)
    · rcases hO b with z1 | ⟨ob, xs, z1⟩
      · exact absurd z1 z
      · have e1 := (hok b _ z1).1
        have e2 := (hok' b _ (un.frzs b ob _ z1)).1
        rw [Option.some.inj (e.symm.trans e1)]
        exact e2

theorem lawG (KX : K.In s1.heap) (hns : s1.heap.Ns mainGlobals mg) (hb : s1.heap.Ns builtinsNs mb)
    (hbb : ∀ y : Str, y ≠ "__name__" → mb y = bootBuiltins y) (hlim : s1.heap.NoLimit) (hg : s1.gens = #[])
    (ha : s1.heap.get? a = some { cls := .type "list", data := .seq vs.toArray }) (hi : IntsAre vs ns) (hl : ns.length ≤ sizeLine) (hr : Room k callerA)
    (F : ∀ base : Heap, K.In base → base.Ns mainGlobals mg → FnG P w K mg base CX0 k fa fd [x] sp)
    (hbind : ∀ (s : Shared) (u : Value), BindsTo s fd ⟨[u], []⟩ [(x, u)])
    (hsp : ∀ H : Hp, SqL K H a (ns.map V.int) → sp [.ref a] H (fun v _ => v = .bl true) fun _ _ _ => False) :
    codeAny (model P w) callerA (.call (.ref fa) ⟨[.ref a], []⟩)
      (fun r s' => r = .ok (.ret (.bool true)) ∧ OldK s1.heap s'.heap ∧ s'.os = s1.os ∧ AllBare s'.gens) s1 := by
  have rv := vals_ints hi
  by_cases hk : K.lookup a = none
  · let ob : Obj := { cls := .type "list", data := .seq vs.toArray }
    let H : Hp := upd (fun _ => none) a (.frz ob (.lst (ns.map V.int)))
    have hA : H a = some (.frz ob (.lst (ns.map V.int))) := upd_same
    have hN : ∀ b, b ≠ a → H b = none := fun b ne => upd_ne ne
    refine lawG0 (H := H) KX hns hb hbb hlim hg ha hr F hbind ?_ ?_ ?_ (fun _ => hk) (hsp H (.inl (.inr ⟨ob, hA⟩)))
    · intro b
      by_cases e : b = a
      · exact .inr ⟨ob, _, e ▸ hA⟩
      · exact .inl (hN b e)
    · intro b u q
      by_cases e : b = a
      · subst e
        cases Option.some.inj (q.symm.trans hA)
        exact ⟨ha, Nat.le_trans (Nat.le_of_eq (List.length_map V.int)) hl, vs, _, rv, ha⟩
      · exact nomatch (hN b e).symm.trans q
    · intro b q
      by_cases e : b = a
      · exact e
      · exact absurd (hN b e) q
  · obtain ⟨o, ho⟩ := Option.ne_none_iff_exists'.mp hk
    have eo := Option.some.inj ((KX a o ho).symm.trans ha)
    subst eo
    refine lawG0 (H := fun _ => none) KX hns hb hbb hlim hg ha hr F hbind (fun _ => .inl rfl) (fun b u q => nomatch q) (fun b q => absurd rfl q) (fun q => absurd rfl q) (hsp _ (.inr ?_))
    exact ⟨_, vs.toArray, _, ho, rfl, rfl, rfl, by rw [List.size_toArray, hi.length]; exact hl, rv⟩
end

theorem walkG {l : PySem.W.OpenLaw} {n k : Nat} {q : Program} {loose : List Str} {XP : (Str → Option Value) → Heap → Prop} {YP : World → Heap → Prop} {d : DefRec} {K : Params → PySem.W.Frag} {sp : World → Sp} {x : Str}
    (hn : l.most = some n) (hn2 : n ≤ sizeLine) (hdf : d.params.defaults = [])
    (hY : ∀ (w : World) (h : Heap), YP w h → (K w.params).In h) (hr : Room k callerA)
    (F : ∀ (w : World) (mg : Str → Option Value) (fa : Addr) (g : Heap), (K w.params).In g → g.Ns mainGlobals mg → mg d.name = some (.ref fa) →
      ∃ fd : FuncData, (∀ (s : Shared) (v : Value), BindsTo s fd ⟨[v], []⟩ [(x, v)]) ∧
        ∀ base : Heap, (K w.params).In base → base.Ns mainGlobals mg → FnG l.prog w (K w.params) mg base CX0 k fa fd [x] (sp w))
    (hsp : ∀ (w : World) (H : Hp) (a : Addr) (ns : List Int), ns.length ≤ n → SqL (K w.params) H a (ns.map V.int) → sp w [.ref a] H (fun v _ => v = .bl true) fun _ _ _ => False) :
    PySem.W.WalkO q loose XP YP l.row.toRowW d [] fun f us => PySem.call f us := by
  refine Att.attach_call hn hdf ?_
  intro w s₀ s₁ mg mb fa o pm cd doc a vs ns G Y ho hd hcd hmg hobj hints hlen hg
  have KX := hY w _ Y
  obtain ⟨fd, bnd, prom⟩ := F w mg fa _ KX G.T.g hmg
  exact lawG KX G.T.g G.T.b G.T.builtins G.T.nolimit hg hobj hints (Nat.le_trans hlen hn2) hr prom bnd (fun H hS => hsp w H a ns hlen hS)
end TB

set_option Elab.async false
set_option linter.all false
set_option maxRecDepth 100000
namespace TB
open PySem PySem.Spec PyProof.Rows L2

/-! ### what is shown -/
structure Sh (k n : Nat) (d : PyData) : Prop where
  sh : d.showable = true
  nd : d.hasDict = false
  dp : d.depth ≤ k
  ln : d.shown.length ≤ n
theorem sh_int {i : Int} (h : i.natAbs < 2 ^ 100) : Sh 0 1921 (.int i) := by
  have hl : i.natAbs.log2 < 1920 := by
    by_cases h0 : i.natAbs = 0
    · rw [h0]; decide
    · exact (Nat.log2_lt h0).2 (Nat.lt_of_lt_of_le h (Nat.pow_le_pow_right (by decide) (by decide)))
  refine ⟨by simp only [PyData.showable, decide_eq_true_eq]; exact hl, by simp only [PyData.hasDict], by simp [PyData.depth], ?_⟩
  simp only [PyData.shown]
  exact int_text_len_1921 hl
theorem all_len {ds : List PyData} {k n : Nat} (h : ∀ d ∈ ds, Sh k n d) : PyData.showableAll ds = true ∧ PyData.hasDictAll ds = false ∧ PyData.depthAll ds ≤ k ∧ ((PyData.shownAll ds).map (·.length)).sum ≤ ds.length * n ∧ (PyData.shownAll ds).length = ds.length := by
  induction ds with
  | nil => simp [PyData.showableAll, PyData.hasDictAll, PyData.depthAll, PyData.shownAll]
  | cons d ds ih =>
    obtain ⟨a, b, c, e, f⟩ := ih fun x hx => h x (List.mem_cons_of_mem _ hx)
    have g := h d List.mem_cons_self
    refine ⟨by simp only [PyData.showableAll, g.sh, a, Bool.and_self], by simp only [PyData.hasDictAll, g.nd, b, Bool.or_self], ?_, ?_, ?_⟩
    · simp only [PyData.depthAll]
      have := g.dp
      omega
    · simp only [PyData.shownAll, List.map_cons, List.sum_cons, List.length_cons]
      have := g.ln
      rw [Nat.add_mul]
      omega
    · simp only [PyData.shownAll, List.length_cons, f]
theorem sh_tup {ds : List PyData} {k n : Nat} (h : ∀ d ∈ ds, Sh k n d) : Sh (k + 1) (ds.length * n + 2 * ds.length + 3) (.tuple ds) := by
  obtain ⟨a, b, c, e, f⟩ := all_len h
  refine ⟨by simp only [PyData.showable, a], by simp only [PyData.hasDict, b], by simp only [PyData.depth]; omega, ?_⟩
  simp only [PyData.shown]
  refine Nat.le_trans (tupleText_len_le _) ?_
  rw [f]
  omega
theorem sh_lst {ds : List PyData} {k n : Nat} (h : ∀ d ∈ ds, Sh k n d) : Sh (k + 1) (ds.length * n + 2 * ds.length + 3) (.list ds) := by
  obtain ⟨a, b, c, e, f⟩ := all_len h
  refine ⟨by simp only [PyData.showable, a], by simp only [PyData.hasDict, b], by simp only [PyData.depth]; omega, ?_⟩
  simp only [PyData.shown]
  refine Nat.le_trans (listText_len_le _) ?_
  rw [f]
  omega
theorem Sh.mono {k k' n n' : Nat} {d : PyData} (h : Sh k n d) (a : k ≤ k') (b : n ≤ n') : Sh k' n' d :=
  ⟨h.sh, h.nd, Nat.le_trans h.dp a, Nat.le_trans h.ln b⟩
def dInts (ns : List Int) : List PyData := ns.map PyData.int
theorem sh_ints {ns : List Int} (h : ∀ v ∈ ns, v.natAbs < 2 ^ 100) (hl : ns.length ≤ 100) : Sh 1 200000 (.tuple (dInts ns)) := by
  refine (sh_tup (k := 0) (n := 1921) fun d hd => ?_).mono (by omega) ?_
  · obtain ⟨v, hv, rfl⟩ := List.mem_map.mp hd
    exact sh_int (h v hv)
  · unfold dInts
    rw [List.length_map]
    omega
theorem dp_ints {K : PySem.W.Frag} {H : Hp} : ∀ ns : List Int, DpAll K H (ns.map V.int) (dInts ns)
  | [] => DpAll.nil
  | n :: ns => DpAll.cons (Dp.int n) (dp_ints ns)

/-- a comprehension without an if -/
theorem yes {σ : L2.St} {H : Hp} {R : Bool → Hp → Prop} (h : R true H) : tYes σ H R := h
theorem iteS {c A B : Prop} [Decidable c] (hc : c) (h : A) : if decide c = true then A else B := by
  rw [if_pos (decide_eq_true hc)]
  exact h
theorem ixN_nat {n k : Nat} (h : k < n) : ixN n (k : Int) = some k := by
  unfold ixN
  rw [if_pos (by omega), if_pos (by omega)]
  simp
theorem take_more {α : Type} {xs : List α} {i : Nat} {x : α} (h : xs[i]? = some x) : xs.take (i + 1) = xs.take i ++ [x] := by
  rw [List.take_add_one, h]
  rfl

theorem map_get {α β : Type} {f : α → β} {xs : List α} {i : Nat} {d : β} (h : (xs.map f)[i]? = some d) : ∃ p, xs[i]? = some p ∧ d = f p := by
  rw [List.getElem?_map] at h
  cases e : xs[i]? with
  | none => rw [e] at h; cases h
  | some p => rw [e] at h; exact ⟨p, rfl, (Option.some.inj h).symm⟩
theorem map_take_more {α β : Type} {f : α → β} {xs : List α} {i : Nat} {x : α} (h : xs[i]? = some x) : (xs.take (i + 1)).map f = (xs.take i).map f ++ [f x] := by
  rw [take_more h, List.map_append]
  rfl

/-! ### heaps -/
theorem same_upd {H : Hp} {p : Addr} {o : HO} (h : H p = none) : Same H (upd H p o) := fun b x e => by
  rw [upd_ne (ne_of_none e h)]
  exact e
theorem Same.tup {K : PySem.W.Frag} {H H' : Hp} {a : Addr} {xs : List V} (e : Same H H') (h : SqT K H a xs) : SqT K H' a xs := by
  rcases h with (h | ⟨o, h⟩) | h
  · exact .inl (.inl (e _ _ h))
  · exact .inl (.inr ⟨o, e _ _ h⟩)
  · exact .inr h
/-- all that was tracked is as it was, but what stands at f -/
def But (f : Addr) (H H' : Hp) : Prop := ∀ b o, b ≠ f → H b = some o → H' b = some o
theorem But.refl (f : Addr) (H : Hp) : But f H H := fun _ _ _ h => h
theorem But.trans {f : Addr} {H H1 H2 : Hp} (a : But f H H1) (b : But f H1 H2) : But f H H2 := fun c o n h => b c o n (a c o n h)
theorem But.same {f : Addr} {H H1 H2 : Hp} (a : But f H H1) (b : Same H1 H2) : But f H H2 := fun c o n h => b c o (a c o n h)
theorem But.of {f : Addr} {H H' : Hp} (a : Same H H') : But f H H' := fun c o _ h => a c o h
theorem But.upd {f : Addr} {H : Hp} {o : HO} : But f H (upd H f o) := fun b x n e => by
  rw [upd_ne n]
  exact e
theorem But.free {f : Addr} {H H' : Hp} {zs : List V} (e : But f H H') (hf : H' f = some (.lst zs)) {l : Addr} (h : H' l = none) : H l = none := by
  cases q : H l with
  | none => rfl
  | some o =>
    have n : l ≠ f := fun z => by
      rw [z, hf] at h
      cases h
    rw [e l o n q] at h
    cases h
mutual
theorem Dp.same {K : PySem.W.Frag} {H H' : Hp} (e : Same H H') : ∀ (d : PyData) (v : V), Dp K H v d → Dp K H' v d
  | .none, _, .non => .non
  | .bool _, _, .bl b => .bl b
  | .int _, _, .int i => .int i
  | .str _, _, .str x => .str x
  | .list ds, _, .lst h a => .lst (e.seq h) (DpAll.same e ds _ a)
  | .tuple ds, _, .tup h a => .tup (TB.Same.tup e h) (DpAll.same e ds _ a)
theorem DpAll.same {K : PySem.W.Frag} {H H' : Hp} (e : Same H H') : ∀ (ds : List PyData) (vs : List V), DpAll K H vs ds → DpAll K H' vs ds
  | [], _, .nil => .nil
  | d :: ds, _, .cons h t => .cons (Dp.same e d _ h) (DpAll.same e ds _ t)
end
theorem DpAll.snoc {K : PySem.W.Frag} {H : Hp} {v : V} {d : PyData} (h : Dp K H v d) : ∀ {vs : List V} {ds : List PyData}, DpAll K H vs ds → DpAll K H (vs ++ [v]) (ds ++ [d])
  | _, _, .nil => .cons h .nil
  | _, _, .cons a t => .cons a (DpAll.snoc h t)
theorem DpAll.len {K : PySem.W.Frag} {H : Hp} : ∀ {vs : List V} {ds : List PyData}, DpAll K H vs ds → vs.length = ds.length
  | _, _, .nil => rfl
  | _, _, .cons _ t => congrArg Nat.succ (DpAll.len t)
theorem DpAll.get {K : PySem.W.Frag} {H : Hp} : ∀ {vs : List V} {ds : List PyData} {i : Nat} {v : V}, DpAll K H vs ds → vs[i]? = some v → ∃ d, ds[i]? = some d ∧ Dp K H v d
  | _, _, _, _, .nil, h => by simp at h
  | _, _, 0, _, .cons a _, h => ⟨_, rfl, by simp at h; subst h; exact a⟩
  | _, _, i + 1, _, .cons _ t, h => by
    obtain ⟨d, e, q⟩ := DpAll.get t (i := i) (by simpa using h)
    exact ⟨d, by simpa using e, q⟩
theorem Dp.tup_inv {K : PySem.W.Frag} {H : Hp} {v : V} {ds : List PyData} (h : Dp K H v (.tuple ds)) : ∃ a xs, v = .ref a ∧ SqT K H a xs ∧ DpAll K H xs ds := by
  cases h with
  | tup h a => exact ⟨_, _, rfl, h, a⟩
theorem Dp.lst_inv {K : PySem.W.Frag} {H : Hp} {v : V} {ds : List PyData} (h : Dp K H v (.list ds)) : ∃ a xs, v = .ref a ∧ SqL K H a xs ∧ DpAll K H xs ds := by
  cases h with
  | lst h a => exact ⟨_, _, rfl, h, a⟩
theorem DpAll.cons_inv {K : PySem.W.Frag} {H : Hp} {xs : List V} {d : PyData} {ds : List PyData} (h : DpAll K H xs (d :: ds)) : ∃ v vs, xs = v :: vs ∧ Dp K H v d ∧ DpAll K H vs ds := by
  cases h with
  | cons a t => exact ⟨_, _, rfl, a, t⟩
theorem DpAll.nil_inv {K : PySem.W.Frag} {H : Hp} {xs : List V} (h : DpAll K H xs []) : xs = [] := by
  cases h
  rfl
theorem Dp.int_inv {K : PySem.W.Frag} {H : Hp} {v : V} {i : Int} (h : Dp K H v (.int i)) : v = .int i := by
  cases h
  rfl
theorem Dp.str_inv {K : PySem.W.Frag} {H : Hp} {v : V} {i : Str} (h : Dp K H v (.str i)) : v = .str i := by
  cases h
  rfl
theorem dp_strs {K : PySem.W.Frag} {H : Hp} : ∀ ns : List Str, DpAll K H (ns.map V.str) (ns.map PyData.str)
  | [] => DpAll.nil
  | n :: ns => DpAll.cons (Dp.str n) (dp_strs ns)

/-! no list stands in it -/
mutual
def noL : PyData → Bool
  | .list _ => false
  | .tuple xs => noLs xs
  | .dict _ => false
  | _ => true
def noLs : List PyData → Bool
  | [] => true
  | x :: xs => noL x && noLs xs
end
theorem SqT.but {K : PySem.W.Frag} {H H' : Hp} {o a : Addr} {xs zs : List V} (e : But o H H') (ho : H o = some (.lst zs)) (h : SqT K H a xs) : SqT K H' a xs := by
  rcases h with (h | ⟨u, h⟩) | h
  · exact .inl (.inl (e _ _ (ne_of h ho (fun z => nomatch z)) h))
  · exact .inl (.inr ⟨u, e _ _ (ne_of h ho (fun z => nomatch z)) h⟩)
  · exact .inr h
mutual
theorem Dp.but {K : PySem.W.Frag} {H H' : Hp} {o : Addr} {zs : List V} (e : But o H H') (ho : H o = some (.lst zs)) : ∀ (d : PyData) (v : V), noL d = true → Dp K H v d → Dp K H' v d
  | .none, _, _, .non => .non
  | .bool _, _, _, .bl b => .bl b
  | .int _, _, _, .int i => .int i
  | .str _, _, _, .str x => .str x
  | .list ds, _, n, _ => by simp [noL] at n
  | .tuple ds, _, n, .tup h a => .tup (TB.SqT.but e ho h) (DpAll.but e ho ds _ (by simpa only [noL] using n) a)
theorem DpAll.but {K : PySem.W.Frag} {H H' : Hp} {o : Addr} {zs : List V} (e : But o H H') (ho : H o = some (.lst zs)) : ∀ (ds : List PyData) (vs : List V), noLs ds = true → DpAll K H vs ds → DpAll K H' vs ds
  | [], _, _, .nil => .nil
  | d :: ds, _, n, .cons h t => by
    simp only [noLs, Bool.and_eq_true] at n
    exact .cons (Dp.but e ho d _ n.1 h) (DpAll.but e ho ds _ n.2 t)
end
theorem noLs_of {ds : List PyData} (h : ∀ d ∈ ds, noL d = true) : noLs ds = true := by
  induction ds with
  | nil => rfl
  | cons d ds ih => simp only [noLs, h d List.mem_cons_self, ih fun x hx => h x (List.mem_cons_of_mem _ hx), Bool.and_self]
theorem noLs_snoc {ds : List PyData} {d : PyData} (h : noLs ds = true) (n : noL d = true) : noLs (ds ++ [d]) = true := by
  induction ds with
  | nil => simp only [List.nil_append, noLs, n, Bool.and_true]
  | cons x ds ih =>
    simp only [noLs, Bool.and_eq_true] at h
    simp only [List.cons_append, noLs, h.1, ih h.2, Bool.and_self]

/-! ### a list that is being filled: at D, with these data -/
structure Acc (K : PySem.W.Frag) (H : Hp) (D : Addr) (ds : List PyData) : Prop where
  ex : ∃ us, H D = some (.lst us) ∧ DpAll K H us ds
  nl : noLs ds = true
theorem Acc.start {K : PySem.W.Frag} {H : Hp} {D : Addr} : Acc K (upd H D (.lst [])) D [] := ⟨⟨[], upd_same, .nil⟩, rfl⟩
theorem Acc.same {K : PySem.W.Frag} {H H' : Hp} {D : Addr} {ds : List PyData} (h : Acc K H D ds) (e : Same H H') : Acc K H' D ds := by
  obtain ⟨us, a, b⟩ := h.ex
  exact ⟨⟨us, e _ _ a, DpAll.same e _ _ b⟩, h.nl⟩
theorem Acc.but {K : PySem.W.Frag} {H H' : Hp} {D F : Addr} {ds : List PyData} {zs : List V} (h : Acc K H D ds) (e : But F H H') (hF : H F = some (.lst zs)) (n : D ≠ F) : Acc K H' D ds := by
  obtain ⟨us, a, b⟩ := h.ex
  exact ⟨⟨us, e _ _ n a, DpAll.but e hF _ _ h.nl b⟩, h.nl⟩
/-- one more -/
theorem Acc.more {K : PySem.W.Frag} {H : Hp} {D : Addr} {ds : List PyData} {v : V} {d : PyData} (h : Acc K H D ds) (dv : Dp K H v d) (n : noL d = true) (hl : ds.length ≤ 900) :
    ∃ us, H D = some (.lst us) ∧ us.length < sizeLine ∧ Acc K (upd H D (.lst (us ++ [v]))) D (ds ++ [d]) := by
  obtain ⟨us, a, b⟩ := h.ex
  have bu : But D H (upd H D (.lst (us ++ [v]))) := But.upd
  exact ⟨us, a, by rw [DpAll.len b]; exact small1000 (by omega), ⟨us ++ [v], upd_same, DpAll.snoc (Dp.but bu a _ _ n dv) (DpAll.but bu a _ _ h.nl b)⟩, noLs_snoc h.nl n⟩

theorem same_new {H H2 : Hp} {D : Addr} {o : HO} (nD : H D = none) (sm : Same H H2) : Same H (upd H2 D o) := fun c x e => by
  rw [upd_ne (ne_of_none e nD)]
  exact sm c x e
/-- a turn of a comprehension that changes nothing else -/
theorem Acc.turn {K : PySem.W.Frag} {H H1 H2 : Hp} {D : Addr} {ds ds' : List PyData} {v : V} {d : PyData} (nD : H D = none) (sm : Same H H1) (ac : Acc K H1 D ds) (s2 : Same H1 H2) (dv : Dp K H2 v d) (n : noL d = true) (hl : ds.length ≤ 900) (he : ds' = ds ++ [d]) :
    ∃ acc, H2 D = some (.lst acc) ∧ acc.length < sizeLine ∧ (Same H (upd H2 D (.lst (acc ++ [v]))) ∧ Acc K (upd H2 D (.lst (acc ++ [v]))) D ds') := by
  obtain ⟨us, a, b, c⟩ := (ac.same s2).more dv n hl
  exact ⟨us, a, b, same_new nD (sm.trans s2), he ▸ c⟩
/-- the tuple of all that was filled in -/
theorem Acc.tuple {K : PySem.W.Frag} {H : Hp} {D t : Addr} {us : List V} {ds : List PyData} (dv : DpAll K H us ds) (nt : H t = none) : Dp K (upd H t (.tup us)) (.ref t) (.tuple ds) :=
  .tup (.inl (.inl upd_same)) (DpAll.same (same_upd nt) _ _ dv)

/-! ### repr, its text kept shut -/
@[irreducible] def txt (d : PyData) : Str := d.shown
theorem txt_eq (d : PyData) : txt d = d.shown := by
  unfold txt
  rfl
section
variable {X : Cx}
def rReprT (K : PySem.W.Frag) : List V → Hp → VK → Prop := fun xs H Q => ∃ a d, xs = [.ref a] ∧ Dp K H (.ref a) d ∧ d.showable = true ∧ d.hasDict = false ∧ d.depth ≤ 60 ∧ d.shown.length ≤ sizeLine ∧ Q (.str (txt d)) H
theorem call_reprT (gd : X.A.guards = some []) (hu : X.A.units + 64 < cLine) : CallR X (.builtin "repr") (rReprT X.K) := by
  intro pins s σ H args us Q I r h
  obtain ⟨a, d, e, hd, hs, hn, hp, hz, q⟩ := h
  refine call_reprD gd hu pins s σ H args us Q I r ⟨a, d, e, hd, hs, hn, hp, hz, ?_⟩
  rw [← txt_eq]
  exact q
end

/-! ### a call by names alone -/
section
variable {X : Cx} {CX : CXT} {k : Nat} {f : Addr} {fd : FuncData} {ps ks : List Str} {sp : Sp} {E : XK} {x : Str} {p pos : Pos} {kws : List Keyword} {tk : TA} {g : List Value → List Value → List Value} {gV : List V → List V → List V}
theorem pe_callN0 (F : FnOk X.prog X.w X.K X.mg X.base CX k f fd ps sp) (hr : Room k X.A) (hg : Gl X x) (hm : X.mg x = some (.ref f)) (hk : PySem.W.keepIn X.K (.ref f) = true) (hb : KBn X.K fd ps 0 ks g gV) (hx : Passes CX X E) (hkw : PK X kws tk)
    (hks : (backToKw pos (keywordEach kws X.env)).filterMap (·.1) = ks := by rfl) (hall : (backToKw pos (keywordEach kws X.env)).all (·.1.isSome) = true := by rfl)
    (hpl : ((backTo pos (starEach [] X.env)).any (·.1) || (backToKw pos (keywordEach kws X.env)).any (·.1.isNone)) = false := by rfl) (hdb : (x == ("__debug__" : Str)) = false := by decide) :
    PE X (.Call (.Name x p) [] kws pos) (tCallN 0 ks.length sp gV E tNil tk) := by
  constructor
  intro pins s σ H Q I h
  refine wpAny_Call_Name_kw (ld_glob I hg hm (PySem.W.callWith_KW0 (h₀ := X.base) I.ok.mod.kin hk hall (thn (hkw.run pos pins s σ H _ I h) ?_) hpl) hdb)
  rintro ws s2 ⟨zs, H2, I2, rz, l1, l2, q2⟩
  rw [hks]
  exact ⟨I2.kIn, run_fnN (us := []) (vs := []) F hr hb hx I2 .nil rz l1 l2 q2⟩
end
end TB

set_option Elab.async false
set_option linter.all false
set_option maxRecDepth 100000
set_option maxHeartbeats 1000000
namespace TB
open PySem PySem.Spec PyProof.Rows L2

/-! ### sum, min, max of a tuple of numbers -/
section
variable {l : Addr} {its : List Value} {ns : List Int} {prog : Program} {w : World} {A : Around} {s : Shared} {Q E : Value → Shared → Prop}
theorem tup_old {h' : Heap} {ob : Obj} (kept : ∀ b o, b ∉ [s.heap.objs.size] → (s.heap.push ob).get? b = some o → h'.get? b = some o) : ∀ b o, s.heap.get? b = some o → h'.get? b = some o := fun b o e =>
  kept b o (fun z => by
    have z' : b = s.heap.objs.size := by simpa using z
    have := Heap.lt_size e
    rw [z'] at this
    exact Nat.lt_irrefl _ this) (Heap.get?_push_of_some _ e)
theorem tup_fp {ob : Obj} {xs : Array Value} (hl : s.heap.IsTuple l xs) : l < s.heap.objs.size ∧ ∀ b ∈ [s.heap.objs.size, l], b < (s.heap.push ob).objs.size := by
  obtain ⟨o, ho, _⟩ := hl
  have lt := Heap.lt_size ho
  refine ⟨lt, fun b hb => ?_⟩
  rw [Heap.size_push]
  have : b = s.heap.objs.size ∨ b = l := by simpa using hb
  rcases this with rfl | rfl
  · exact Nat.lt_succ_self _
  · exact Nat.lt_succ_of_lt lt
theorem sum_tupR (hh : A.handled = none) (hl : s.heap.IsTuple l its.toArray) (hi : IntsAre its ns)
    (told : ∀ h' tk t', (∀ b o, s.heap.get? b = some o → h'.get? b = some o) → Q (.int ns.sum t') { s with heap := h', toks := tk }) : wpAny (model prog w) A (call (.builtin "sum") [.ref l]) Q E s := by
  obtain ⟨pairs, e⟩ := hi.allInts.items
  have nums : numsOf (intItems pairs).toList = ns := by rw [← e]; exact hi.numsOf
  rw [nums_intItems] at nums
  rw [e] at hl
  refine call_sum_walkG (wpAny_pyIter_tuple hl ?_)
  refine ⟨_, [_, l], [_], _, _, _, numAt pairs, rfl, Walks.tuple (A := A.in1) hh _ l (Nat.ne_of_lt (tup_fp (ob := default) hl).1) (intItems pairs), ⟨⟨_, Heap.get?_push_size _ rfl, rfl, rfl⟩, hl.push _⟩, (tup_fp hl).2, fun _ _ => intItems_at, fun h' tk t' hk => ?_⟩
  have q := told h' tk t' (tup_old hk)
  have ez : (intItems pairs).size = pairs.size := by simp [intItems]
  rw [ez, preSum_eq, List.take_of_length_le (by simp), nums]
  exact q
theorem min_tupR (hh : A.handled = none) (hl : s.heap.IsTuple l its.toArray) (hi : IntsAre its ns) (hne : 0 < ns.length)
    (told : ∀ h' tk M t', (∀ b o, s.heap.get? b = some o → h'.get? b = some o) → M ∈ ns → (∀ a, a ∈ ns → M ≤ a) → Q (.int M t') { s with heap := h', toks := tk }) : wpAny (model prog w) A (call (.builtin "min") [.ref l]) Q E s := by
  obtain ⟨pairs, e⟩ := hi.allInts.items
  have nums : numsOf (intItems pairs).toList = ns := by rw [← e]; exact hi.numsOf
  rw [nums_intItems] at nums
  subst nums
  rw [e] at hl
  have some1 : 0 < pairs.size := by simpa using hne
  refine call_min_walk (wpAny_pyIter_tuple hl ?_)
  refine ⟨_, [_, l], [_], _, _, _, _, rfl, Walks.tuple (A := A.in1) hh _ l (Nat.ne_of_lt (tup_fp (ob := default) hl).1) (intItems pairs), ⟨⟨_, Heap.get?_push_size _ rfl, rfl, rfl⟩, hl.push _⟩, (tup_fp hl).2, by simpa [intItems] using some1, CmpOf.ints_lt (numAt pairs) (fun _ _ => intItems_at), fun v h' tk hP hk => ?_⟩
  have ez : (intItems pairs).size = pairs.size := by simp [intItems]
  rw [ez] at hP
  obtain ⟨t, rfl⟩ := intItems_at hP
  obtain ⟨_, least⟩ := argBest_lt (numAt pairs) (pairs.size - 1)
  refine told h' tk _ t (tup_old hk) ?_ fun a ha => ?_
  · rw [numAt_eq]
    exact PySem.getD_mem (by rw [List.length_map, Array.length_toList]; omega)
  · obtain ⟨i, hi', rfl⟩ := mem_getD ha
    have lt : i < pairs.toList.length := by simpa using hi'
    rw [Array.length_toList] at lt
    exact numAt_eq .. ▸ least i (by omega)
theorem max_tupR (hh : A.handled = none) (hl : s.heap.IsTuple l its.toArray) (hi : IntsAre its ns) (hne : 0 < ns.length)
    (told : ∀ h' tk M t', (∀ b o, s.heap.get? b = some o → h'.get? b = some o) → M ∈ ns → (∀ a, a ∈ ns → a ≤ M) → Q (.int M t') { s with heap := h', toks := tk }) : wpAny (model prog w) A (call (.builtin "max") [.ref l]) Q E s := by
  obtain ⟨pairs, e⟩ := hi.allInts.items
  have nums : numsOf (intItems pairs).toList = ns := by rw [← e]; exact hi.numsOf
  rw [nums_intItems] at nums
  subst nums
  rw [e] at hl
  have some1 : 0 < pairs.size := by simpa using hne
  refine call_max_walk (wpAny_pyIter_tuple hl ?_)
  refine ⟨_, [_, l], [_], _, _, _, _, rfl, Walks.tuple (A := A.in1) hh _ l (Nat.ne_of_lt (tup_fp (ob := default) hl).1) (intItems pairs), ⟨⟨_, Heap.get?_push_size _ rfl, rfl, rfl⟩, hl.push _⟩, (tup_fp hl).2, by simpa [intItems] using some1, CmpOf.ints_gt (numAt pairs) (fun _ _ => intItems_at), fun v h' tk hP hk => ?_⟩
  have ez : (intItems pairs).size = pairs.size := by simp [intItems]
  rw [ez] at hP
  obtain ⟨t, rfl⟩ := intItems_at hP
  obtain ⟨_, most⟩ := argBest_gt (numAt pairs) (pairs.size - 1)
  refine told h' tk _ t (tup_old hk) ?_ fun a ha => ?_
  · rw [numAt_eq]
    exact PySem.getD_mem (by rw [List.length_map, Array.length_toList]; omega)
  · obtain ⟨i, hi', rfl⟩ := mem_getD ha
    have lt : i < pairs.toList.length := by simpa using hi'
    rw [Array.length_toList] at lt
    exact numAt_eq .. ▸ most i (by omega)
end
section
variable {X : Cx}
def rSumT (K : PySem.W.Frag) : List V → Hp → VK → Prop := fun vs H Q => ∃ (a : Addr) (ns : List Int), vs = [V.ref a] ∧ SqT K H a (ns.map V.int) ∧ Q (.int ns.sum) H
def rMaxT (K : PySem.W.Frag) : List V → Hp → VK → Prop := fun vs H Q => ∃ (a : Addr) (ns : List Int), vs = [V.ref a] ∧ SqT K H a (ns.map V.int) ∧ 0 < ns.length ∧ ∀ m, m ∈ ns → (∀ y, y ∈ ns → y ≤ m) → Q (.int m) H
def rMinT (K : PySem.W.Frag) : List V → Hp → VK → Prop := fun vs H Q => ∃ (a : Addr) (ns : List Int), vs = [V.ref a] ∧ SqT K H a (ns.map V.int) ∧ 0 < ns.length ∧ ∀ m, m ∈ ns → (∀ y, y ∈ ns → m ≤ y) → Q (.int m) H
theorem call_sumT (hc : X.calm = true) : CallR X (.builtin "sum") (rSumT X.K) := by
  intro pins s σ H vs us Q I rel h
  obtain ⟨t, ns, rfl, at_t, q⟩ := h
  obtain ⟨its, rv, hl, _⟩ := I.tuple at_t
  rw [Vals.ref1 rel]
  exact sum_tupR (I.ok.hd hc) hl rv.ints fun h' tk t' hk => ⟨.int _, H, I.kept hk, ⟨_, rfl⟩, q⟩
theorem call_maxT (hc : X.calm = true) : CallR X (.builtin "max") (rMaxT X.K) := by
  intro pins s σ H vs us Q I rel h
  obtain ⟨t, ns, rfl, at_t, hne, q⟩ := h
  obtain ⟨its, rv, hl, _⟩ := I.tuple at_t
  rw [Vals.ref1 rel]
  exact max_tupR (I.ok.hd hc) hl rv.ints hne fun h' tk m t' hk h1 h2 => ⟨.int m, H, I.kept hk, ⟨_, rfl⟩, q m h1 h2⟩
theorem call_minT (hc : X.calm = true) : CallR X (.builtin "min") (rMinT X.K) := by
  intro pins s σ H vs us Q I rel h
  obtain ⟨t, ns, rfl, at_t, hne, q⟩ := h
  obtain ⟨its, rv, hl, _⟩ := I.tuple at_t
  rw [Vals.ref1 rel]
  exact min_tupR (I.ok.hd hc) hl rv.ints hne fun h' tk m t' hk h1 h2 => ⟨.int m, H, I.kept hk, ⟨_, rfl⟩, q m h1 h2⟩
end

/-! ### zip of a tuple and a list: one step of any two iterators -/
section
variable {w : World} {prog : Program} {s : Shared} {A : Around}
/-- nextOf i tells x and leaves T, from any state that keeps what s has but at the places off -/
def NextIs (prog : Program) (w : World) (s : Shared) (off : List Addr) (i : Addr) (x : Value) (T : Heap → Prop) : Prop :=
  ∀ (B : Around) (u : Shared) (Q : Value → Shared → Prop) (E : Value → Shared → Prop), (∀ c o, c ∉ off → s.heap.get? c = some o → u.heap.get? c = some o) →
    (∀ g, T g → Heap.SameBut i u.heap g → Q x { u with heap := g }) → wpAny (model prog w) B (Builtin.SmallTypes.nextOf (.ref i)) Q E u
/-- nextOf i stops -/
def NextEnds (prog : Program) (w : World) (s : Shared) (off : List Addr) (i : Addr) : Prop :=
  ∀ (B : Around) (u : Shared) (Q : Value → Shared → Prop) (E : Value → Shared → Prop), B.handled = none → (∀ c o, c ∉ off → s.heap.get? c = some o → u.heap.get? c = some o) →
    (∀ g e, Heap.ExtBut i u.heap g → (∃ o, g.get? e = some o ∧ o.cls = .type "StopIteration") → E (.ref e) { u with heap := g }) → wpAny (model prog w) B (Builtin.SmallTypes.nextOf (.ref i)) Q E u
/-- the five places of a zip are five -/
structure Five (z TI TO i j : Addr) : Prop where
  a : TI ≠ z
  b : TO ≠ z
  c : i ≠ z
  d : j ≠ z
  e : TO ≠ i
  f : TO ≠ j
  g : i ≠ j

theorem zip_step {E : Value → Shared → Prop} {z TI TO i j : Addr} {x y a b : Value} {T1 T2 : Heap → Prop} {Q : Option Value → Shared → Prop} (F : Five z TI TO i j)
    (hz : IsZip s.heap z TI TO .none) (hTI : IsPair s.heap TI (.ref i) (.ref j)) (hTO : IsPair s.heap TO a b)
    (lt : i < s.heap.objs.size ∧ j < s.heap.objs.size)
    (n1 : NextIs prog w s [z] i x T1) (n2 : NextIs prog w s [z, i, TO] j y T2)
    (k1 : ∀ g g' : Heap, T1 g → (∀ o, g.get? i = some o → g'.get? i = some o) → T1 g') (k2 : ∀ g g' : Heap, T2 g → (∀ o, g.get? j = some o → g'.get? j = some o) → T2 g')
    (hQ : ∀ g, IsZip g z TI TO (rawInt s.heap.objs.size) → IsPair g TO x y → T1 g → T2 g → IsPair g s.heap.objs.size x y → g.objs.size = s.heap.objs.size + 1 →
      (∀ c o, c ∉ [z, TO, i, j] → s.heap.get? c = some o → g.get? c = some o) → Q (some (.ref s.heap.objs.size)) { s with heap := g }) :
    wpAny (model prog w) A (pyNext (Value.ref z)) Q E s := by
  have isZ : s.TypeIs (.ref z) "zip" := ⟨_, hz, rfl⟩
  unfold pyNext
  refine wpAny_bind (wpAny_attempt (wpAny_callSpecial?_slot (name := Str.ofString "__next__") isZ PySem.F.slot_zip_next (wpAny_call_entry PySem.F.slot_zip_next isZ PySem.F.entry_zip_next ?_ (PySem.F.args_zip_next_1 _))))
  show wpAny _ _ (field (Value.ref z) 2 >>= _) _ _ _
  apply wpAny_bind
  refine wpAny_field hz rfl (x := .bool false) rfl ?_
  show wpAny _ _ (field (Value.ref z) 3 >>= _) _ _ _
  apply wpAny_bind
  refine wpAny_field hz rfl (x := .ref TI) rfl ?_
  apply wpAny_bind
  refine wpAny_seqItems hTI rfl ?_
  show wpAny _ _ (Builtin.SmallTypes.ownedTupleIsFree (Value.ref z) >>= _) _ _ _
  apply wpAny_bind; unfold Builtin.SmallTypes.ownedTupleIsFree; apply wpAny_bind
  refine wpAny_field hz rfl (x := .none) rfl (wpAny_pure ?_)
  simp only [if_true]
  apply wpAny_bind
  refine wpAny_rule ?_
  apply wpAny_bind
  refine wpAny_field hz rfl (x := .ref TO) rfl ?_
  apply wpAny_bind
  refine wpAny_setField_rec hz (by simp) fun g1 z1 s1 => ?_
  replace z1 : IsZip g1 z TI TO .ellipsis := z1
  apply wpAny_bind
  simp only [List.forIn_cons, List.forIn_nil, List.zipIdx_cons, List.zipIdx_nil]
  iterate 2 apply wpAny_bind
  apply wpAny_onRaise
  show wpAny _ _ (Builtin.SmallTypes.nextOf (.ref i) >>= _) _ _ _
  apply wpAny_bind
  refine n1 _ _ _ _ (fun c o n e => s1.extBut _ _ (by simpa using n) e) fun g2 t2 s2 => wpAny_pure ?_
  have o2 : IsPair g2 TO a b := s2.extBut _ _ F.e (s1.extBut _ _ F.b hTO)
  apply wpAny_bind
  refine wpAny_seqItems o2 rfl ?_
  apply wpAny_bind
  refine wpAny_updateSeq_pair o2 fun g3 o3 s3 => ?_
  replace o3 : IsPair g3 TO x b := o3
  apply wpAny_bind
  refine wpAny_letGo (wpAny_pure ?_)
  iterate 2 apply wpAny_bind
  apply wpAny_onRaise
  show wpAny _ _ (Builtin.SmallTypes.nextOf (.ref j) >>= _) _ _ _
  apply wpAny_bind
  refine n2 _ _ _ _ (fun c o n e => ?_) fun g4 t4 s4 => wpAny_pure ?_
  · have n' : c ≠ z ∧ c ≠ i ∧ c ≠ TO := by simpa using n
    exact s3.extBut _ _ n'.2.2 (s2.extBut _ _ n'.2.1 (s1.extBut _ _ n'.1 e))
  have o4 : IsPair g4 TO x b := s4.extBut _ _ F.f o3
  apply wpAny_bind
  refine wpAny_seqItems o4 rfl ?_
  apply wpAny_bind
  refine wpAny_updateSeq_pair o4 fun g5 o5 s5 => ?_
  replace o5 : IsPair g5 TO x y := o5
  apply wpAny_bind
  refine wpAny_letGo (wpAny_pure (wpAny_pure ?_))
  apply wpAny_bind
  refine wpAny_seqItems o5 rfl ?_
  apply wpAny_bind
  refine wpAny_newTuple ?_
  have size5 : g5.objs.size = s.heap.objs.size := by rw [s5.1, s4.1, s3.1, s2.1, s1.1]
  have z5 : IsZip g5 z TI TO .ellipsis := s5.extBut _ _ F.b.symm (s4.extBut _ _ F.d.symm (s3.extBut _ _ F.b.symm (s2.extBut _ _ F.c.symm z1)))
  have kept5 : ∀ c o, c ∉ [z, TO, i, j] → s.heap.get? c = some o → g5.get? c = some o := fun c o n e => by
    have n' : c ≠ z ∧ c ≠ TO ∧ c ≠ i ∧ c ≠ j := by simpa using n
    exact s5.extBut _ _ n'.2.1 (s4.extBut _ _ n'.2.2.2 (s3.extBut _ _ n'.2.1 (s2.extBut _ _ n'.2.2.1 (s1.extBut _ _ n'.1 e))))
  have u1 : T1 g5 := k1 _ _ t2 fun o e => s5.extBut _ _ F.e.symm (s4.extBut _ _ F.g (s3.extBut _ _ F.e.symm e))
  have u2 : T2 g5 := k2 _ _ t4 fun o e => s5.extBut _ _ F.f.symm e
  have zl : z < g5.objs.size := Heap.lt_size z5
  show wpAny _ _ (Builtin.SmallTypes.ownedTupleHandOut (.ref z) (.ref g5.objs.size) >>= _) _ _ _
  apply wpAny_bind; unfold Builtin.SmallTypes.ownedTupleHandOut
  have z6 : IsZip (g5.push { cls := .type "tuple", data := .seq #[x, y] }) z TI TO .ellipsis := Heap.get?_push_of_some _ z5
  apply wpAny_bind
  refine wpAny_setField_rec z6 (by simp) fun g7 z7 s7 => ?_
  replace z7 : IsZip g7 z TI TO (rawInt g5.objs.size) := z7
  refine wpAny_setField_rec z7 (by simp) fun g8 z8 s8 => ?_
  replace z8 : IsZip g8 z TI TO (rawInt g5.objs.size) := z8
  have up : ∀ c o, c ≠ z → g5.get? c = some o → g8.get? c = some o := fun c o n e => s8.extBut _ _ n (s7.extBut _ _ n (Heap.get?_push_of_some _ e))
  have pair8 : IsPair g8 g5.objs.size x y := s8.extBut _ _ (Nat.ne_of_gt zl) (s7.extBut _ _ (Nat.ne_of_gt zl) (Heap.get?_push_size _ rfl))
  have size8 : g8.objs.size = g5.objs.size + 1 := by rw [s8.1, s7.1, Heap.size_push]
  rw [size5] at z8 pair8 size8
  refine wpAny_pure ⟨_, rfl, wpAny_pure ?_⟩
  show Q (some (.ref g5.objs.size)) _
  rw [size5]
  exact hQ g8 z8 (up _ _ F.b o5) (k1 _ _ u1 fun o e => up _ o F.c e) (k2 _ _ u2 fun o e => up _ o F.d e) pair8 size8 fun c o n e => up c o (by simp at n; exact n.1) (kept5 c o n e)

theorem zip_stop0 {E : Value → Shared → Prop} {z TI TO i j : Addr} {a b : Value} {Q : Fin → Shared → Prop} (hh : A.handled = none) (F : Five z TI TO i j)
    (hz : IsZip s.heap z TI TO .none) (hTI : IsPair s.heap TI (.ref i) (.ref j)) (hTO : IsPair s.heap TO a b)
    (n : NextEnds prog w s [z] i ∨ (∃ (x : Value) (T : Heap → Prop), NextIs prog w s [z] i x T) ∧ NextEnds prog w s [z, i, TO] j)
    (fin : ∀ (g : Heap) (e : Addr), (∃ o, g.get? e = some o ∧ o.cls = .type "StopIteration") → (∀ c o, c ∉ [z, TO, i, j] → s.heap.get? c = some o → g.get? c = some o) → E (.ref e) { s with heap := g }) :
    wpAny (model prog w) A (Builtin.«zip.__next__» ⟨[Value.ref z], []⟩) Q E s := by
  show wpAny _ _ (field (Value.ref z) 2 >>= _) _ _ _
  apply wpAny_bind
  refine wpAny_field hz rfl (x := .bool false) rfl ?_
  show wpAny _ _ (field (Value.ref z) 3 >>= _) _ _ _
  apply wpAny_bind
  refine wpAny_field hz rfl (x := .ref TI) rfl ?_
  apply wpAny_bind
  refine wpAny_seqItems hTI rfl ?_
  show wpAny _ _ (Builtin.SmallTypes.ownedTupleIsFree (Value.ref z) >>= _) _ _ _
  apply wpAny_bind; unfold Builtin.SmallTypes.ownedTupleIsFree; apply wpAny_bind
  refine wpAny_field hz rfl (x := .none) rfl (wpAny_pure ?_)
  simp only [if_true]
  apply wpAny_bind
  refine wpAny_rule ?_
  apply wpAny_bind
  refine wpAny_field hz rfl (x := .ref TO) rfl ?_
  apply wpAny_bind
  refine wpAny_setField_rec hz (by simp) fun g1 z1 s1 => ?_
  replace z1 : IsZip g1 z TI TO .ellipsis := z1
  apply wpAny_bind
  simp only [List.forIn_cons, List.forIn_nil, List.zipIdx_cons, List.zipIdx_nil]
  iterate 2 apply wpAny_bind
  apply wpAny_onRaise
  show wpAny _ _ (Builtin.SmallTypes.nextOf (.ref i) >>= _) _ _ _
  rcases n with n | ⟨⟨x, T, n⟩, n'⟩
  · apply wpAny_bind
    refine n _ _ _ _ hh (fun c o m e => s1.extBut _ _ (by simpa using m) e) fun g2 e s2 he => ?_
    obtain ⟨oe, hoe, hce⟩ := he
    have z2 : IsZip g2 z TI TO .ellipsis := s2 _ _ F.c.symm z1
    have nez : e ≠ z := fun q => by subst q; rw [z2] at hoe; cases hoe; simp at hce
    refine wpAny_setField_rec z2 (by simp) fun g3 _ s3 => ?_
    refine fin g3 e ⟨oe, s3.extBut _ _ nez hoe, hce⟩ fun c o m q => ?_
    have m' : c ≠ z ∧ c ≠ TO ∧ c ≠ i ∧ c ≠ j := by simpa using m
    exact s3.extBut _ _ m'.1 (s2 _ _ m'.2.2.1 (s1.extBut _ _ m'.1 q))
  · apply wpAny_bind
    refine n _ _ _ _ (fun c o m e => s1.extBut _ _ (by simpa using m) e) fun g2 t2 s2 => wpAny_pure ?_
    have o2 : IsPair g2 TO a b := s2.extBut _ _ F.e (s1.extBut _ _ F.b hTO)
    apply wpAny_bind
    refine wpAny_seqItems o2 rfl ?_
    apply wpAny_bind
    refine wpAny_updateSeq_pair o2 fun g3 o3 s3 => ?_
    apply wpAny_bind
    refine wpAny_letGo (wpAny_pure ?_)
    iterate 2 apply wpAny_bind
    apply wpAny_onRaise
    show wpAny _ _ (Builtin.SmallTypes.nextOf (.ref j) >>= _) _ _ _
    apply wpAny_bind
    refine n' _ _ _ _ hh (fun c o m e => ?_) fun g4 e s4 he => ?_
    · have m' : c ≠ z ∧ c ≠ i ∧ c ≠ TO := by simpa using m
      exact s3.extBut _ _ m'.2.2 (s2.extBut _ _ m'.2.1 (s1.extBut _ _ m'.1 e))
    obtain ⟨oe, hoe, hce⟩ := he
    have z4 : IsZip g4 z TI TO .ellipsis := s4 _ _ F.d.symm (s3.extBut _ _ F.b.symm (s2.extBut _ _ F.c.symm z1))
    have nez : e ≠ z := fun q => by subst q; rw [z4] at hoe; cases hoe; simp at hce
    refine wpAny_setField_rec z4 (by simp) fun g5 _ s5 => ?_
    refine fin g5 e ⟨oe, s5.extBut _ _ nez hoe, hce⟩ fun c o m q => ?_
    have m' : c ≠ z ∧ c ≠ TO ∧ c ≠ i ∧ c ≠ j := by simpa using m
    exact s5.extBut _ _ m'.1 (s4 _ _ m'.2.2.2 (s3.extBut _ _ m'.2.1 (s2.extBut _ _ m'.2.2.1 (s1.extBut _ _ m'.1 q))))
theorem zip_stop {E : Value → Shared → Prop} {z TI TO i j : Addr} {a b : Value} {Q : Option Value → Shared → Prop} (hh : A.handled = none) (F : Five z TI TO i j)
    (hz : IsZip s.heap z TI TO .none) (hTI : IsPair s.heap TI (.ref i) (.ref j)) (hTO : IsPair s.heap TO a b)
    (n : NextEnds prog w s [z] i ∨ (∃ (x : Value) (T : Heap → Prop), NextIs prog w s [z] i x T) ∧ NextEnds prog w s [z, i, TO] j)
    (hQ : ∀ g, (∀ c o, c ∉ [z, TO, i, j] → s.heap.get? c = some o → g.get? c = some o) → Q none { s with heap := g }) :
    wpAny (model prog w) A (pyNext (Value.ref z)) Q E s := by
  have isZ : s.TypeIs (.ref z) "zip" := ⟨_, hz, rfl⟩
  unfold pyNext
  refine wpAny_bind (wpAny_attempt (wpAny_callSpecial?_slot (name := Str.ofString "__next__") isZ PySem.F.slot_zip_next (wpAny_call_entry PySem.F.slot_zip_next isZ PySem.F.entry_zip_next ?_ (PySem.F.args_zip_next_1 _))))
  refine zip_stop0 (A := A.in1) hh F hz hTI hTO n fun g e he hk => ?_
  obtain ⟨o, ho, hc⟩ := he
  apply wpAny_bind
  exact wpAny_isInstance (T := "StopIteration") (b := true) ⟨o, ho, hc⟩ isSubtype_stop (wpAny_pure (hQ _ hk))

/-! a tuple's and a list's -/
theorem next_tup {i l : Addr} {k : Nat} {xs : Array Value} {x : Value} {off : List Addr} (hi : s.heap.IsTupleIter i l k) (hl : s.heap.IsTuple l xs) (hx : xs[k]? = some x) (ni : i ∉ off) (nl : l ∉ off) :
    NextIs prog w s off i x (fun g => g.IsTupleIter i l (k + 1)) := fun B u Q E hk h =>
  RZ.nextOf_tuple_item (hi.at fun o e => hk _ o ni e) (hl.at fun o e => hk _ o nl e) hx h
theorem next_lst {i l : Addr} {k : Nat} {xs : Array Value} {x : Value} {off : List Addr} (hi : s.heap.IsListIter i l k) (hl : s.heap.IsList l xs) (hx : xs[k]? = some x) (ni : i ∉ off) (nl : l ∉ off) :
    NextIs prog w s off i x (fun g => g.IsListIter i l (k + 1)) := fun B u Q E hk h =>
  wpAny_nextOf_list_item (hi.at fun o e => hk _ o ni e) (hl.at fun o e => hk _ o nl e) hx h
theorem ends_tup {i l : Addr} {k : Nat} {xs : Array Value} {off : List Addr} (hi : s.heap.IsTupleIter i l k) (hl : s.heap.IsTuple l xs) (hx : xs[k]? = none) (ni : i ∉ off) (nl : l ∉ off) :
    NextEnds prog w s off i := fun B u Q E hh hk h =>
  RZ.nextOf_tuple_end hh (hi.at fun o e => hk _ o ni e) (hl.at fun o e => hk _ o nl e) hx h
theorem ends_lst {i l : Addr} {k : Nat} {xs : Array Value} {off : List Addr} (hi : s.heap.IsListIter i l k) (hl : s.heap.IsList l xs) (hx : xs[k]? = none) (ni : i ∉ off) (nl : l ∉ off) :
    NextEnds prog w s off i := fun B u Q E hh hk h =>
  wpAny_nextOf_list_end hh (hi.at fun o e => hk _ o ni e) (hl.at fun o e => hk _ o nl e) hx h
end

/-! zip(t, xs), t a tuple, xs a list -/
abbrev zTL1 (h : Heap) (a : Addr) : Heap := h.push { cls := .type "tuple_iterator", data := .fields #[.ref a, .int 0 0] }
abbrev zTL2 (h : Heap) (a b : Addr) : Heap := (zTL1 h a).push { cls := .type "list_iterator", data := .fields #[.ref b, .int 0 0] }
abbrev zTL3 (h : Heap) (a b : Addr) : Heap := (zTL2 h a b).push { cls := .type "tuple", data := .seq #[.ref h.objs.size, .ref (zTL1 h a).objs.size] }
abbrev zTL4 (h : Heap) (a b : Addr) : Heap := (zTL3 h a b).push { cls := .type "tuple", data := .seq #[.none, .none] }
abbrev zTL5 (h : Heap) (a b : Addr) : Heap := (zTL4 h a b).push { cls := .type "zip", data := .fields #[.none, .bool false, .bool false, .ref (zTL2 h a b).objs.size, .ref (zTL3 h a b).objs.size] }
theorem zTL_new (a b : Addr) (xs ys : Array Value) :
    Meets (Builtin.«zip.__new__» ⟨[.type "zip", .ref a, .ref b], []⟩) (fun _ R s => s.heap.IsTuple a xs ∧ s.heap.IsList b ys ∧ R (.ok (.ret (.ref (zTL4 s.heap a b).objs.size))) { s with heap := zTL5 s.heap a b }) :=
  .of_wp fun prog w A R st h => by
    obtain ⟨hp, g, d, tk, os⟩ := st
    obtain ⟨ha, hb, h⟩ := h
    have sub := sub_zip
    have iA : Heap.IsTuple (Shared.heap ⟨hp, g, d, tk, os⟩) a xs := ha
    have iB : Heap.IsList (Shared.heap ⟨hp.push { cls := .type "tuple_iterator", data := .fields #[.ref a, .int 0 0] }, g, d, tk, os⟩) b ys := Heap.IsList.push hb _
    wp_walk using wpAny_pyIter_tuple iA, wpAny_pyIter_list iB
    exact ⟨_, rfl, h⟩
section
variable {prog : Program} {w : World} {A : Around} {E : Value → Shared → Prop} {s : Shared}
theorem call_zTL {a b : Addr} {xs ys : Array Value} {Q : Value → Shared → Prop} (ha : s.heap.IsTuple a xs) (hb : s.heap.IsList b ys)
    (h : ∀ (n : Nat) (g : Heap), n = s.heap.objs.size → IsZip g (n + 4) (n + 2) (n + 3) .none → IsPair g (n + 2) (.ref n) (.ref (n + 1)) → IsPair g (n + 3) .none .none → g.IsTupleIter n a 0 → g.IsListIter (n + 1) b 0 →
      (∀ c o, s.heap.get? c = some o → g.get? c = some o) → Q (.ref (n + 4)) { s with heap := g }) :
    wpAny (model prog w) A (call (.type "zip") [.ref a, .ref b]) Q E s := by
  refine callType_new PySem.F.called_zip (by decide) (PySem.F.typeCall_zip_2 _ _) (PySem.F.newCall_zip_2 _ _) (fun o => PySem.F.args_object_init_3 o _ _) PySem.F.entry_zip_new (zTL_new a b xs ys) ⟨ha, hb, ?_⟩
  have e1 : (zTL1 s.heap a).objs.size = s.heap.objs.size + 1 := Heap.size_push ..
  have e2 : (zTL2 s.heap a b).objs.size = s.heap.objs.size + 2 := by rw [Heap.size_push, e1]
  have e3 : (zTL3 s.heap a b).objs.size = s.heap.objs.size + 3 := by rw [Heap.size_push, e2]
  have e4 : (zTL4 s.heap a b).objs.size = s.heap.objs.size + 4 := by rw [Heap.size_push, e3]
  have g5 : (zTL5 s.heap a b).get? (zTL4 s.heap a b).objs.size = some _ := Heap.get?_push_size _ rfl
  have g4 : (zTL5 s.heap a b).get? (zTL3 s.heap a b).objs.size = some _ := Heap.get?_push_of_some _ (Heap.get?_push_size _ rfl)
  have g3 : (zTL5 s.heap a b).get? (zTL2 s.heap a b).objs.size = some _ := Heap.get?_push_of_some _ (Heap.get?_push_of_some _ (Heap.get?_push_size _ rfl))
  have g2 : (zTL5 s.heap a b).get? (zTL1 s.heap a).objs.size = some _ := Heap.get?_push_of_some _ (Heap.get?_push_of_some _ (Heap.get?_push_of_some _ (Heap.get?_push_size _ rfl)))
  have g1 : (zTL5 s.heap a b).get? s.heap.objs.size = some _ := Heap.get?_push_of_some _ (Heap.get?_push_of_some _ (Heap.get?_push_of_some _ (Heap.get?_push_of_some _ (Heap.get?_push_size _ rfl))))
  show _ ∧ _
  rw [e2, e3, e4] at g5
  rw [e1, e2] at g3
  rw [e3] at g4
  rw [e1] at g2
  rw [e4]
  refine ⟨⟨_, g5, rfl⟩, h _ _ rfl g5 g3 g4 ⟨_, g1, rfl, rfl⟩ ⟨_, g2, rfl, rfl⟩ fun c o x => ?_⟩
  iterate 5 apply Heap.get?_push_of_some
  exact x
end

/-- what a turn over zip(t, xs) is -/
def ItTL (K : PySem.W.Frag) (a b : Addr) : It :=
  ⟨fun i H => ∃ (xs ys : List V) (x y : V), SqT K H a xs ∧ SqL K H b ys ∧ xs[i]? = some x ∧ ys[i]? = some y,
    fun i H v H' => ∃ T x y, v = .ref T ∧ H T = none ∧ H' = upd H T (.tup [x, y]) ∧ (∀ xs, SqT K H a xs → xs[i]? = some x) ∧ ∀ ys, SqL K H b ys → ys[i]? = some y,
    fun i H => ∃ xs ys : List V, SqT K H a xs ∧ SqL K H b ys ∧ (xs.length ≤ i ∨ ys.length ≤ i)⟩
theorem turn_TL {P : Program} {w : World} {K : PySem.W.Frag} {elts : List Expr} {kk : Nat} {tpos : Pos} {a b z TI TO i1 i2 : Addr} (V5 : Five z TI TO i1 i2) (nI : TI ≠ TO ∧ TI ≠ i1 ∧ TI ≠ i2) (na : a ∉ [z, TO, i1, i2]) (nb : b ∉ [z, TO, i1, i2]) :
    Turn P w K (.Tuple elts kk tpos) (ItTL K a b) [z, TI, TO, i1, i2] z (fun i h => IsZip h z TI TO .none ∧ IsPair h TI (.ref i1) (.ref i2) ∧ (∃ x y, IsPair h TO x y) ∧ h.IsTupleIter i1 a i ∧ h.IsListIter i2 b i) where
  mem := by simp
  obj := fun i h st c hc => by
    obtain ⟨isz, pI, ⟨x, y, pO⟩, ⟨o1, e1, _, d1⟩, ⟨o2, e2, _, d2⟩⟩ := st
    have five : c = z ∨ c = TI ∨ c = TO ∨ c = i1 ∨ c = i2 := by simpa using hc
    rcases five with rfl | rfl | rfl | rfl | rfl
    · exact ⟨_, isz, fun v q => nomatch q⟩
    · exact ⟨_, pI, fun v q => nomatch q⟩
    · exact ⟨_, pO, fun v q => nomatch q⟩
    · exact ⟨o1, e1, fun v q => by rw [d1] at q; cases q⟩
    · exact ⟨o2, e2, fun v q => by rw [d2] at q; cases q⟩
  keep := fun i h h' st k => by
    obtain ⟨isz, pI, ⟨x, y, pO⟩, h1, h2⟩ := st
    exact ⟨k _ (by simp) _ isz, k _ (by simp) _ pI, ⟨x, y, k _ (by simp) _ pO⟩, h1.at fun o q => k _ (by simp) o q, h2.at fun o q => k _ (by simp) o q⟩
  item := by
    intro X eP eW eK hc i pins s σ H E I hf st hg
    subst eP eW eK
    obtain ⟨isz, pI, ⟨x0, y0, pO⟩, h1, h2⟩ := st
    obtain ⟨xs, ys, x, y, qx, qy, hx, hy⟩ := hg
    obtain ⟨its, rv, p1, _⟩ := I.tuple qx
    obtain ⟨jts, rw_, p2, _⟩ := I.list qy
    obtain ⟨u, at_u, ru⟩ := rv.get hx
    obtain ⟨v, hv, rv2⟩ := rw_.get hy
    have zl : z < s.heap.objs.size := Heap.lt_size isz
    have l1 : i1 < s.heap.objs.size := by obtain ⟨_, e, _⟩ := h1; exact Heap.lt_size e
    have l2 : i2 < s.heap.objs.size := by obtain ⟨_, e, _⟩ := h2; exact Heap.lt_size e
    have na' : a ≠ z ∧ a ≠ TO ∧ a ≠ i1 ∧ a ≠ i2 := by simpa using na
    have nb' : b ≠ z ∧ b ≠ TO ∧ b ≠ i1 ∧ b ≠ i2 := by simpa using nb
    refine zip_step (T1 := fun g => g.IsTupleIter i1 a (i + 1)) (T2 := fun g => g.IsListIter i2 b (i + 1)) V5 isz pI pO ⟨l1, l2⟩ (next_tup h1 p1 (x := u) (by simpa using at_u) (by simpa using V5.c) (by simpa using na'.1))
      (next_lst h2 p2.isList (x := v) (by simpa using hv) (by simpa using ⟨V5.d, V5.g.symm, V5.f.symm⟩) (by simpa using ⟨nb'.1, nb'.2.2.1, nb'.2.1⟩)) (fun g g' t k => t.at k) (fun g g' t k => t.at k) fun g z' TO' t1 t2 hT hsz hk => ?_
    refine ⟨_, rfl, wpAny_letOwnedTupleGo_zip (s := { s with heap := g }) z' fun g2 z2 sb => ?_⟩
    have hT2 : g2.get? s.heap.objs.size = some { cls := .type "tuple", data := .seq #[u, v] } := (sb.2 _ (Nat.ne_of_gt zl)).trans hT
    have new : ObjOk X.prog X.w (upd H s.heap.objs.size (.tup [x, y])) g2 s.heap.objs.size (.tup [x, y]) := ⟨by show 2 ≤ sizeLine; decide, [u, v], .cons ru (.cons rv2 .nil), ⟨_, hT2, rfl, _, rfl⟩⟩
    have I1 : Inv X pins σ (upd H s.heap.objs.size (.tup [x, y])) { s with heap := g2 } := by
      refine I.turnedNew (t' := s.toks) (ch := [z, TI, TO, i1, i2]) (fun c o hb q => ?_) hf (Nat.le_refl _) new
      have n5 : c ≠ z ∧ c ≠ TI ∧ c ≠ TO ∧ c ≠ i1 ∧ c ≠ i2 := by simpa using hb
      exact (sb.2 c n5.1).trans (hk c o (by simpa using ⟨n5.1, n5.2.2.1, n5.2.2.2.1, n5.2.2.2.2⟩) q)
    have up : ∀ c o, c ≠ z → g.get? c = some o → g2.get? c = some o := fun c o n q => (sb.2 c n).trans q
    refine ⟨.ref s.heap.objs.size, _, I1, rfl, ⟨_, x, y, rfl, I.hok.fresh (Nat.le_refl _), rfl, fun l hl => by rw [I.tuple_inj hl qx]; exact hx, fun l hl => by rw [I.list_inj hl qy]; exact hy⟩, ⟨z2, ?_, ⟨u, v, up _ _ V5.b TO'⟩, t1.at fun o q => up _ o V5.c q, t2.at fun o q => up _ o V5.d q⟩, fun c hcm => ?_⟩
    · exact up _ _ V5.a (hk _ _ (by simpa using ⟨V5.a, nI.1, nI.2.1, nI.2.2⟩) pI)
    · have five : c = z ∨ c = TI ∨ c = TO ∨ c = i1 ∨ c = i2 := by simpa using hcm
      have lt : c < s.heap.objs.size := by
        rcases five with rfl | rfl | rfl | rfl | rfl
        · exact zl
        · exact Heap.lt_size pI
        · exact Heap.lt_size pO
        · exact l1
        · exact l2
      rw [upd_ne (Nat.ne_of_lt lt)]
      exact (hf c hcm).1
  done := by
    intro X eP eW eK hc i pins s σ H E I hf st hg
    subst eP eW eK
    obtain ⟨isz, pI, ⟨x0, y0, pO⟩, h1, h2⟩ := st
    obtain ⟨xs, ys, qx, qy, hend⟩ := hg
    obtain ⟨its, rv, p1, _⟩ := I.tuple qx
    obtain ⟨jts, rw_, p2, _⟩ := I.list qy
    have m1 := rv.length
    have m2 := rw_.length
    have na' : a ≠ z ∧ a ≠ TO ∧ a ≠ i1 ∧ a ≠ i2 := by simpa using na
    have nb' : b ≠ z ∧ b ≠ TO ∧ b ≠ i1 ∧ b ≠ i2 := by simpa using nb
    have n : NextEnds X.prog X.w s [z] i1 ∨ (∃ (x : Value) (T : Heap → Prop), NextIs X.prog X.w s [z] i1 x T) ∧ NextEnds X.prog X.w s [z, i1, TO] i2 := by
      by_cases c : xs.length ≤ i
      · exact .inl (ends_tup h1 p1 (by simp; omega) (by simpa using V5.c) (by simpa using na'.1))
      · have c2 : ys.length ≤ i := by omega
        exact .inr ⟨⟨its[i]'(by omega), _, next_tup h1 p1 (by simp) (by simpa using V5.c) (by simpa using na'.1)⟩, ends_lst h2 p2.isList (by simp; omega) (by simpa using ⟨V5.d, V5.g.symm, V5.f.symm⟩) (by simpa using ⟨nb'.1, nb'.2.2.1, nb'.2.1⟩)⟩
    refine zip_stop (I.ok.hd hc) V5 isz pI pO n fun g hk => ⟨rfl, I.turnedL (t' := s.toks) (ch := [z, TI, TO, i1, i2]) (fun c o hb q => ?_) hf⟩
    have n5 : c ≠ z ∧ c ≠ TI ∧ c ≠ TO ∧ c ≠ i1 ∧ c ≠ i2 := by simpa using hb
    exact hk c o (by simpa using ⟨n5.1, n5.2.2.1, n5.2.2.2.1, n5.2.2.2.2⟩) q
  self := fun _ _ _ _ _ st h => wpAny_pyIter_zip st.1 h

theorem five_at (n : Nat) : Five (n + 4) (n + 2) (n + 3) n (n + 1) := by
  constructor
  · show (n + 2 : Nat) ≠ n + 4; omega
  · show (n + 3 : Nat) ≠ n + 4; omega
  · show (n : Nat) ≠ n + 4; omega
  · show (n + 1 : Nat) ≠ n + 4; omega
  · show (n + 3 : Nat) ≠ n; omega
  · show (n + 3 : Nat) ≠ n + 1; omega
  · show (n : Nat) ≠ n + 1; omega
theorem six_at (n : Nat) : (n + 2 : Nat) ≠ n + 3 ∧ (n + 2 : Nat) ≠ n ∧ (n + 2 : Nat) ≠ n + 1 := by omega
theorem five_out {n a : Nat} (h : a < n) : a ∉ [n + 4, n + 3, n, n + 1] := by
  simp
  omega
def iTL (K : PySem.W.Frag) (ta : TA) : TI := fun σ H R => ta σ H fun vs H1 => ∃ a b xs ys, vs = [.ref a, .ref b] ∧ SqT K H1 a xs ∧ SqL K H1 b ys ∧ R (ItTL K a b) H1
theorem pi_zipTL {X : Cx} {e e2 : Expr} {ta : TA} {p pos tpos : Pos} {elts : List Expr} {kk : Nat} (hg : Gl X "zip") (hm : X.mg "zip" = none) (ha : PA X [e, e2] ta)
    (hs : starEach [e, e2] X.env = (false, eval e X.env) :: starEach [e2] X.env := by rfl) (hpl : (backTo pos (starEach [e2] X.env)).any (·.1) = false := by rfl) : PI X (.Tuple elts kk tpos) (.Call (.Name "zip" p) [e, e2] [] pos) (iTL X.K ta) := by
  refine ⟨fun pins s0 σ H R I h => ?_⟩
  refine Call_ (ld_blt I hg hm PyProof.Rows.boot_zip (PyProof.Rows.callWith_type1 (thn (ha.run pos pins s0 σ H _ I h) fun us u ⟨vs, H1, I1, r1, q1⟩ => ?_) hs hpl))
  obtain ⟨a, b, xs, ys, rfl, qx, qy, q⟩ := q1
  cases r1 with
  | cons r rr =>
    cases rr with
    | cons r' rr =>
      cases rr
      cases r
      cases r'
      obtain ⟨its, rv, p1, _⟩ := I1.tuple qx
      obtain ⟨jts, rw_, p2, _⟩ := I1.list qy
      have la : a < u.heap.objs.size := by obtain ⟨o, ho, _⟩ := id p1; exact Heap.lt_size ho
      have lb : b < u.heap.objs.size := p2.lt
      refine call_zTL (xs := its.toArray) p1 p2.isList fun n g hn hz hTI hTO h1 h2 hk => wpAny_pyIter_zip hz ?_
      have I2 : Inv X pins σ H1 { u with heap := g } := I1.kept (t' := u.toks) hk
      have fr : ∀ c, c ∈ [n + 4, n + 2, n + 3, n, n + 1] → FpOk X pins H1 c := fun c hcm => by
        have five : c = n + 4 ∨ c = n + 2 ∨ c = n + 3 ∨ c = n ∨ c = n + 1 := by simpa using hcm
        have le : u.heap.objs.size ≤ c := by rw [← hn]; omega
        exact I1.fpOk le (I1.hok.fresh le)
      refine ⟨n + 4, [n + 4, n + 2, n + 3, n, n + 1], _, _, H1, rfl, I2, turn_TL (z := n + 4) (TI := n + 2) (TO := n + 3) (i1 := n) (i2 := n + 1) (five_at n) (six_at n) (five_out (by rw [hn]; exact la)) (five_out (by rw [hn]; exact lb)), ⟨hz, hTI, ⟨_, _, hTO⟩, h1, h2⟩, fr, q⟩
/-- a loop over it, both of one length -/
theorem for_TL {K : PySem.W.Frag} {a b : Addr} {xs ys : List V} {g : TG} {tb : TS} {D : Ends} {σ : L2.St} {H : Hp} (hl : xs.length = ys.length) (Inv0 : Nat → L2.St → Hp → Prop) (h0 : Inv0 0 σ H) (hq : ∀ i σ H, Inv0 i σ H → SqT K H a xs ∧ SqL K H b ys)
    (hs : ∀ (i : Nat) (x y : V) (T : Addr) (σ : L2.St) (H : Hp), xs[i]? = some x → ys[i]? = some y → Inv0 i σ H → H T = none → g (.ref T) σ (upd H T (.tup [x, y])) fun σ2 H2 => tb { D with nx := Inv0 (i + 1), ct := Inv0 (i + 1), bk := D.nx } σ2 H2) (hd : ∀ σ H, Inv0 xs.length σ H → D.nx σ H) :
    ∃ Z : Nat → Nat → L2.St → Hp → Prop, (∃ m, Z 0 m σ H) ∧ ∀ i m σ H, Z i m σ H →
      ((ItTL K a b).stop i H ∧ D.nx σ H) ∨ ((ItTL K a b).go i H ∧ ∃ N : L2.St → Hp → Prop, (∀ σ' H', N σ' H' → ∃ m', m' < m ∧ Z (i + 1) m' σ' H') ∧ ∀ v H', (ItTL K a b).yld i H v H' → g v σ H' fun σ2 H2 => tb { D with nx := N, ct := N, bk := D.nx } σ2 H2) := by
  refine ⟨fun i m σ H => m = xs.length - i ∧ i ≤ xs.length ∧ Inv0 i σ H, ⟨xs.length, rfl, Nat.zero_le _, h0⟩, ?_⟩
  rintro i m σ H ⟨rfl, hi, p⟩
  obtain ⟨qx, qy⟩ := hq i σ H p
  by_cases lt : i < xs.length
  · have lt2 : i < ys.length := by omega
    refine .inr ⟨⟨xs, ys, _, _, qx, qy, List.getElem?_eq_getElem lt, List.getElem?_eq_getElem lt2⟩, Inv0 (i + 1), fun σ' H' p' => ⟨xs.length - (i + 1), by omega, rfl, lt, p'⟩, fun v H' y => ?_⟩
    obtain ⟨T, u1, u2, rfl, nT, rfl, f1, f2⟩ := y
    exact hs i u1 u2 T σ H (f1 xs qx) (f2 ys qy) p nT
  · obtain rfl : i = xs.length := by omega
    exact .inl ⟨⟨xs, ys, qx, qy, .inl (Nat.le_refl _)⟩, hd σ H p⟩
/-! ### slices and sums of tuples, whichever way they come -/
theorem slA {K : PySem.W.Frag} {H : Hp} {a : Addr} {xs : List V} {lo hi : Option Int} {Q : VK} (h : SqT K H a xs) (q : ∀ H' r, Same H H' → SqT K H' r (cutV xs lo hi) → Q (.ref r) H') : rSlA K (.ref a) lo hi H Q := by
  refine ⟨a, xs, rfl, h, fun hw => q H a (Same.refl H) ?_, fun _ p np => q _ p (same_upd np) (.inl (.inl upd_same))⟩
  unfold cutV
  rw [hw.1, hw.2, List.drop_zero, Nat.sub_zero, List.take_length]
  exact h
theorem catA {K : PySem.W.Frag} {H : Hp} {a b : Addr} {xs ys : List V} {Q : VK} (ha : SqT K H a xs) (hb : SqT K H b ys) (hl : xs.length + ys.length ≤ sizeLine) (q : ∀ H' r, Same H H' → SqT K H' r (xs ++ ys) → Q (.ref r) H') : rCatA K (.ref a) (.ref b) H Q := by
  refine ⟨a, b, xs, ys, rfl, rfl, ha, hb, hl, fun e => q H b (Same.refl H) ?_, fun _ e => q H a (Same.refl H) ?_, fun _ _ p np => q _ p (same_upd np) (.inl (.inl upd_same))⟩
  · rw [e, List.nil_append]
    exact hb
  · rw [e, List.append_nil]
    exact ha
theorem cut_last (xs : List V) (v : V) : cutV (xs ++ [v]) (some (-1)) none = [v] := by
  have e : HT.sIx (xs ++ [v]).length 0 (some (-1)) = xs.length := by
    show (if (-1 : Int) < 0 then (-1 + ((xs ++ [v]).length : Int)).toNat else min (-1 : Int).toNat (xs ++ [v]).length) = xs.length
    rw [if_pos (by decide), List.length_append, List.length_singleton]
    omega
  unfold cutV
  rw [e, HT.sIx_none, List.drop_left, List.length_append, List.length_singleton, Nat.add_sub_cancel_left]
  rfl
theorem cut_init (xs : List V) (v : V) : cutV (xs ++ [v]) none (some (-1)) = xs := by
  have e : HT.sIx (xs ++ [v]).length (xs ++ [v]).length (some (-1)) = xs.length := by
    show (if (-1 : Int) < 0 then (-1 + ((xs ++ [v]).length : Int)).toNat else min (-1 : Int).toNat (xs ++ [v]).length) = xs.length
    rw [if_pos (by decide), List.length_append, List.length_singleton]
    omega
  unfold cutV
  rw [e, HT.sIx_none, List.drop_zero, Nat.sub_zero, List.take_left]
end TB

set_option Elab.async false
set_option linter.all false
set_option maxRecDepth 100000
namespace TB
open PySem PySem.Spec PyProof.Rows L2 HT

/-! ### t[::-1] of a tuple -/
theorem back_adjust (n : Nat) : Builtin.Slice.sliceAdjust none none (-1) (n : Int) = ((n : Int) - 1, -1) := by
  simp [Builtin.Slice.sliceAdjust]
theorem back_places (n : Nat) : Builtin.Slice.slicePlaces ((n : Int) - 1) (-1) (-1) = n := by
  have no : ¬ ((-1 : Int) > 0) := by decide
  simp only [Builtin.Slice.slicePlaces, no, if_false]
  by_cases c : (n : Int) - 1 > -1
  · rw [if_pos c, show (- -1 : Int) = 1 by decide, Int.ediv_one]
    omega
  · rw [if_neg c]
    omega
theorem fm_congr {α β : Type} {f g : α → Option β} : ∀ {l : List α}, (∀ a ∈ l, f a = g a) → l.filterMap f = l.filterMap g
  | [], _ => rfl
  | x :: l, h => by
    rw [List.filterMap_cons, List.filterMap_cons, h x List.mem_cons_self, fm_congr fun a ha => h a (List.mem_cons_of_mem _ ha)]
theorem back_pick (xs : Array Value) : ((List.range xs.size).filterMap fun (m : Nat) => xs[(((xs.size : Int) - 1) + (m : Int) * (-1)).toNat]?).toArray = xs.toList.reverse.toArray := by
  have e : (List.range xs.size).filterMap (fun (m : Nat) => xs[(((xs.size : Int) - 1) + (m : Int) * (-1)).toNat]?) = ((List.range xs.size).map fun m => xs.size - 1 - m).filterMap (xs[·]?) := by
    rw [List.filterMap_map]
    refine fm_congr fun m hm => ?_
    have : (((xs.size : Int) - 1) + (m : Int) * (-1)).toNat = xs.size - 1 - m := by
      have := List.mem_range.mp hm
      omega
    rw [this]
    rfl
  rw [e, PySem.W.krv_range, List.filterMap_reverse, PySem.W.krv_all]
section
variable {w : World} {prog : Program} {s : Shared} {A : Around} {E : Value → Shared → Prop}
theorem back_applied {sl : Addr} {vs : Value} {n : Nat} {Q : Int × Int × Nat → Shared → Prop} (hs : s.heap.IsSliceOf sl .none .none vs) (ps : IsPart vs (some (-1))) (h : Q ((n : Int) - 1, -1, n) s) :
    wpAny (model prog w) A (Builtin.Slice.sliceApplied (Value.ref sl) (pure (n : Int))) Q E s := by
  obtain ⟨o, ho, _, hd⟩ := id hs
  unfold Builtin.Slice.sliceApplied
  unfold Builtin.Slice.sliceFields
  refine wpAny_bind (wpAny_bind (wpAny_field ho hd (x := .none) rfl (wpAny_bind (wpAny_field ho hd (x := .none) rfl (wpAny_bind (wpAny_field ho hd (x := vs) rfl (wpAny_pure ?_)))))))
  apply wpAny_bind
  refine slicePart_ ps ?_
  show wpAny _ _ (if ((-1 : Int) == 0) = true then _ else _) _ _ s
  rw [if_neg (by decide)]
  apply wpAny_bind
  refine slicePart_ .none ?_
  apply wpAny_bind
  refine slicePart_ .none ?_
  apply wpAny_bind
  refine wpAny_pure ?_
  show wpAny _ _ (match Builtin.Slice.sliceAdjust none none (-1) (n : Int) with | (lo, hi) => pure (lo, (-1 : Int), Builtin.Slice.slicePlaces lo hi (-1))) _ _ s
  rw [back_adjust]
  show wpAny _ _ (pure ((n : Int) - 1, (-1 : Int), Builtin.Slice.slicePlaces ((n : Int) - 1) (-1) (-1))) _ _ s
  rw [back_places]
  exact wpAny_pure h
theorem back_item {t sl : Addr} {items : Array Value} {vs : Value} {Q : Value → Shared → Prop} (ht : IsTup s.heap t items) (hs : s.heap.IsSliceOf sl .none .none vs) (ps : IsPart vs (some (-1)))
    (h : Q (.ref s.heap.objs.size) { s with heap := s.heap.push { cls := .type "tuple", data := .seq items.toList.reverse.toArray } }) (hsz : items.size ≤ sizeLine) : wpAny (model prog w) A (getItem (.ref t) (.ref sl)) Q E s := by
  have fits : sizeOk (.seq items.toList.reverse.toArray) := by
    show items.toList.reverse.toArray.size ≤ sizeLine
    rw [List.size_toArray, List.length_reverse, Array.length_toList]
    exact hsz
  obtain ⟨o, ho, hc, hd⟩ := id hs
  have isS : s.TypeIs (.ref sl) "slice" := ⟨o, ho, hc⟩
  unfold getItem
  try with_reducible apply wpAny_holding
  try refine wpAny_bind (wpAny_pure ?_)
  apply wpAny_bind
  refine wpAny_sequenceKey ht.typeIs (by decide) ?_
  apply wpAny_bind
  refine wpAny_callSpecial?_slot (name := Str.ofString "__getitem__") ht.typeIs PyProof.Rows.slot_tuple_getitem (wpAny_call_entry PyProof.Rows.slot_tuple_getitem ht.typeIs entry_tuple_getitem ?_ (args_tuple_getitem _ _))
  show wpAny _ _ (Builtin.Tuple.tupleItemsOf (Value.ref t) >>= _) _ _ s
  apply wpAny_bind
  refine tupleItemsOf_ ht ?_
  apply wpAny_bind
  refine wpAny_typeOf isS ?_
  rw [if_pos (by decide)]
  apply wpAny_bind
  refine back_applied hs ps ?_
  show wpAny _ _ (if (((items.size : Int) - 1) == 0 && (-1 : Int) == 1 && items.size == items.size) = true then _ else _) _ _ s
  rw [if_neg (by simp), back_pick]
  first
    | exact wpAny_bind (m := Builtin.Tuple.tupleExact _) (wpAny_newObj_type (wpAny_pure ⟨_, rfl, wpAny_pure h⟩) fits)
    | exact wpAny_bind (m := Builtin.Tuple.tupleExact _) (wpAny_newObj_type (wpAny_bind (wpAny_pure (wpAny_pure ⟨_, rfl, wpAny_pure h⟩))) fits)
    | exact wpAny_bind (wpAny_bind (m := Builtin.Tuple.tupleExact _) (wpAny_newObj_type (wpAny_pure (wpAny_pure ⟨_, rfl, wpAny_pure h⟩)) fits))
    | exact wpAny_bind (wpAny_bind (m := Builtin.Tuple.tupleExact _) (wpAny_newObj_type (wpAny_pure ⟨_, rfl, wpAny_pure h⟩) fits))
end
def tRevT (K : PySem.W.Frag) (te : TE) : TE := fun σ H Q => te σ H fun x H1 => ∃ a xs, x = .ref a ∧ SqT K H1 a xs ∧ ∀ p, H1 p = none → Q (.ref p) (upd H1 p (.tup xs.reverse))
section
variable {X : Cx}
theorem pe_revT {e : Expr} {te : TE} {k : Nat} {p1 p2 p3 pos : Pos} (he : PE X e te) : PE X (.Subscript e (.Slice none none (some (.UnaryOp .USub (.Constant (.int 1) k p1) p2)) p3) pos) (tRevT X.K te) := by
  refine ⟨fun pins s0 σ H Q I h => ?_⟩
  refine Subscript_ (thn (he.run pins s0 σ H _ I h) fun v s1 ⟨x, H1, I1, r1, q1⟩ => ?_)
  obtain ⟨a, xs, rfl, hx, q⟩ := q1
  cases r1
  have step : PO X (some (.UnaryOp .USub (.Constant (.int 1) k p1) p2)) (tPart (tUn (rU fun i => .int (-i)) (tC (.int 1)))) := po_some (pe_un un_neg pe_int)
  refine wpAny_Slice (thn (po_none.run pins s1 σ H1 (fun o G => o = none ∧ G = H1) I1 ⟨rfl, rfl⟩) fun vl s2 ⟨l, G2, I2, pl, el, e2⟩ => ?_)
  subst el e2
  refine thn (po_none.run pins s2 σ G2 (fun o G => o = none ∧ G = G2) I2 ⟨rfl, rfl⟩) fun vu s3 ⟨u, G3, I3, pu, eu, e3⟩ => ?_
  subst eu e3
  refine thn (step.run pins s3 σ G3 (fun o G => o = some (-1) ∧ G = G3) I3 ⟨1, rfl, -1, rfl, rfl, rfl⟩) fun vs s4 ⟨o, G4, I4, ps, eo, e4⟩ => ?_
  subst eo e4
  cases pl
  cases pu
  have I5 : Inv X pins σ G4 { s4 with heap := s4.heap.push { cls := .type "slice", data := .fields #[.none, .none, vs] } } := I4.kept (t' := s4.toks) fun b ob z => Heap.get?_push_of_some _ z
  obtain ⟨its, r, ht, hz⟩ := I5.tuple hx
  have lens := r.length
  show wpAny (model X.prog X.w) X.A (subscriptTail e (.Slice none none (some (.UnaryOp .USub (.Constant (.int 1) k p1) p2)) p3) (.ref a) (.ref s4.heap.objs.size)) (EP X pins σ Q) X.xe { s4 with heap := s4.heap.push { cls := .type "slice", data := .fields #[.none, .none, vs] } }
  refine tail_any (ops := [.ref a, .ref s4.heap.objs.size]) ht.typeIs (PyProof.Rows.slot_tuple_getitem.lookup) ?_ (by with_unfolding_all rfl)
  refine back_item ht (Heap.IsSliceOf.new _ .none .none vs) ps ?_ (by rw [List.size_toArray]; omega)
  refine ⟨.ref _, _, I5.laid (t' := s4.toks) (o := .tup xs.reverse) (fun b ob z => Heap.get?_push_of_some _ z) (Nat.le_refl _) ?_, rfl, q _ (I5.hok.fresh (Nat.le_refl _))⟩
  exact ⟨by rw [List.length_reverse]; exact hz, its.reverse, r.reverse, ⟨_, Heap.get?_push_size _ rfl, rfl, 0, rfl⟩⟩
end
end TB

set_option Elab.async false
set_option linter.all false
set_option maxRecDepth 100000
set_option maxHeartbeats 1000000
namespace TB
open PySem PySem.Spec PyProof.Rows L2

/-! ### heaps without some places -/
def hid (F : List Addr) (H : Hp) : Hp := fun b => if b ∈ F then none else H b
theorem hid_at {F : List Addr} {H : Hp} {b : Addr} (n : b ∉ F) : hid F H b = H b := if_neg n
theorem hid_sub {F : List Addr} {H : Hp} : Same (hid F H) H := fun b o e => by
  unfold hid at e
  by_cases h : b ∈ F
  · rw [if_pos h] at e
    cases e
  · rw [if_neg h] at e
    exact e
theorem hid_mono {F : List Addr} {H H' : Hp} (k : ∀ b o, b ∉ F → H b = some o → H' b = some o) : Same (hid F H) (hid F H') := fun b o e => by
  unfold hid at e
  by_cases h : b ∈ F
  · rw [if_pos h] at e
    cases e
  · rw [if_neg h] at e
    rw [hid_at h]
    exact k b o h e
theorem hid_same {F : List Addr} {H H' : Hp} (s : Same H H') : Same (hid F H) (hid F H') := hid_mono fun b o _ e => s b o e
theorem hid_but {F : List Addr} {L : Addr} {H H' : Hp} (hL : L ∈ F) (k : But L H H') : Same (hid F H) (hid F H') := hid_mono fun b o nb e => k b o (fun z => nb (z ▸ hL)) e
theorem hid_upd {F : List Addr} {H : Hp} {W : Addr} {o : HO} (h : W ∈ F) : hid F (upd H W o) = hid F H := by
  funext b
  unfold hid
  by_cases c : b ∈ F
  · rw [if_pos c, if_pos c]
  · have ne : b ≠ W := fun z => c (z ▸ h)
    rw [if_neg c, if_neg c, upd_ne ne]
/-- the places that are hidden are taken -/
def Took (F : List Addr) (H : Hp) : Prop := ∀ f ∈ F, H f ≠ none
theorem Took.out {F : List Addr} {H : Hp} {p : Addr} (t : Took F H) (n : H p = none) : p ∉ F := fun z => t p z n
theorem Took.same {F : List Addr} {H H' : Hp} (t : Took F H) (s : Same H H') : Took F H' := fun f hf z => by
  cases e : H f with
  | none => exact t f hf e
  | some o =>
    rw [s f o e] at z
    cases z
theorem Took.but {F : List Addr} {L : Addr} {H H' : Hp} {zs : List V} (t : Took F H) (k : But L H H') (e : H' L = some (.lst zs)) : Took F H' := fun f hf z => t f hf (k.free e z)

/-! ### slices, sums of tuples, all outside the hidden places -/
section
variable {K : PySem.W.Frag} {F : List Addr} {H : Hp}
theorem slH {a : Addr} {xs : List V} {lo hi : Option Int} {Q : VK} (t : Took F H) (h : SqT K (hid F H) a xs) (q : ∀ H' r, Same H H' → SqT K (hid F H') r (cutV xs lo hi) → Q (.ref r) H') : rSlA K (.ref a) lo hi H Q := by
  refine ⟨a, xs, rfl, Same.tup hid_sub h, fun hw => q H a (Same.refl H) ?_, fun _ p np => q _ p (same_upd np) (.inl (.inl ?_))⟩
  · unfold cutV
    rw [hw.1, hw.2, List.drop_zero, Nat.sub_zero, List.take_length]
    exact h
  · rw [hid_at (t.out np)]
    exact upd_same
theorem catH {a b : Addr} {xs ys : List V} {Q : VK} (t : Took F H) (ha : SqT K (hid F H) a xs) (hb : SqT K (hid F H) b ys) (hl : xs.length + ys.length ≤ sizeLine) (q : ∀ H' r, Same H H' → SqT K (hid F H') r (xs ++ ys) → Q (.ref r) H') : rCatA K (.ref a) (.ref b) H Q := by
  refine ⟨a, b, xs, ys, rfl, rfl, Same.tup hid_sub ha, Same.tup hid_sub hb, hl, fun e => q H b (Same.refl H) ?_, fun _ e => q H a (Same.refl H) ?_, fun _ _ p np => q _ p (same_upd np) (.inl (.inl ?_))⟩
  · rw [e, List.nil_append]
    exact hb
  · rw [e, List.append_nil]
    exact ha
  · rw [hid_at (t.out np)]
    exact upd_same
theorem newT {p : Addr} {xs : List V} (t : Took F H) (n : H p = none) : SqT K (hid F (upd H p (.tup xs))) p xs := .inl (.inl (by
  rw [hid_at (t.out n)]
  exact upd_same))
theorem newL {p : Addr} {xs : List V} (t : Took F H) (n : H p = none) : SqL K (hid F (upd H p (.lst xs))) p xs := .inl (.inl (by
  rw [hid_at (t.out n)]
  exact upd_same))
end
/-! ### the data of slices -/
def cutD (ds : List PyData) (lo hi : Option Int) : List PyData := (ds.drop (HT.sIx ds.length 0 lo)).take (HT.sIx ds.length ds.length hi - HT.sIx ds.length 0 lo)
theorem cutD_mem {ds : List PyData} {lo hi : Option Int} {d : PyData} (h : d ∈ cutD ds lo hi) : d ∈ ds := List.mem_of_mem_drop (List.mem_of_mem_take h)
theorem cutD_len (ds : List PyData) (lo hi : Option Int) : (cutD ds lo hi).length ≤ ds.length := by
  unfold cutD
  rw [List.length_take, List.length_drop]
  omega
theorem DpAll.drop {K : PySem.W.Frag} {H : Hp} : ∀ {vs : List V} {ds : List PyData} (i : Nat), DpAll K H vs ds → DpAll K H (vs.drop i) (ds.drop i)
  | _, _, 0, h => h
  | _, _, _ + 1, .nil => .nil
  | _, _, i + 1, .cons _ t => DpAll.drop i t
theorem DpAll.take {K : PySem.W.Frag} {H : Hp} : ∀ {vs : List V} {ds : List PyData} (i : Nat), DpAll K H vs ds → DpAll K H (vs.take i) (ds.take i)
  | _, _, 0, _ => by
    rw [List.take_zero, List.take_zero]
    exact .nil
  | _, _, _ + 1, .nil => .nil
  | _, _, i + 1, .cons a t => .cons a (DpAll.take i t)
theorem DpAll.cut {K : PySem.W.Frag} {H : Hp} {vs : List V} {ds : List PyData} {lo hi : Option Int} (h : DpAll K H vs ds) : DpAll K H (cutV vs lo hi) (cutD ds lo hi) := by
  unfold cutV cutD
  rw [DpAll.len h]
  exact DpAll.take _ (DpAll.drop _ h)
theorem DpAll.app {K : PySem.W.Frag} {H : Hp} : ∀ {vs ws : List V} {ds es : List PyData}, DpAll K H vs ds → DpAll K H ws es → DpAll K H (vs ++ ws) (ds ++ es)
  | _, _, _, _, .nil, h => h
  | _, _, _, _, .cons a t, h => .cons a (DpAll.app t h)
theorem DpAll.rev {K : PySem.W.Frag} {H : Hp} : ∀ {vs : List V} {ds : List PyData}, DpAll K H vs ds → DpAll K H vs.reverse ds.reverse
  | _, _, .nil => .nil
  | _, _, .cons a t => by
    rw [List.reverse_cons, List.reverse_cons]
    exact DpAll.snoc a (DpAll.rev t)
/-- one of a list's things, by a place that was drawn -/
theorem pickD {K : PySem.W.Frag} {H : Hp} {us : List V} {ds : List PyData} {v : Int} (h : DpAll K H us ds) (h0 : 0 ≤ v) (h1 : v < us.length) : ∃ x d, atI us v = some x ∧ Dp K H x d ∧ d ∈ ds := by
  obtain ⟨j, rfl⟩ : ∃ j : Nat, v = (j : Int) := ⟨v.toNat, (Int.toNat_of_nonneg h0).symm⟩
  have hj : j < us.length := by omega
  obtain ⟨d, e, dx⟩ := DpAll.get h (List.getElem?_eq_getElem hj)
  exact ⟨us[j], d, atI_nat (List.getElem?_eq_getElem hj), dx, List.mem_of_getElem? e⟩
/-! ### things of this depth and width -/
def atom : PyData → Prop
  | .none => True
  | .bool _ => True
  | .int _ => True
  | .str z => PyData.strOk z = true
  | _ => False
def Gd (n : Nat) : Nat → PyData → Prop
  | 0, d => atom d
  | k + 1, d => atom d ∨ ∃ ds, (d = .tuple ds ∨ d = .list ds) ∧ ds.length ≤ n ∧ ∀ e ∈ ds, Gd n k e
theorem Gd.atom {n k : Nat} {d : PyData} (h : atom d) : Gd n k d := by
  cases k with
  | zero => exact h
  | succ k => exact .inl h
theorem Gd.mono {n m : Nat} (hn : n ≤ m) : ∀ {k l : Nat} {d : PyData}, k ≤ l → Gd n k d → Gd m l d
  | 0, _, _, _, h => Gd.atom h
  | k + 1, 0, _, h, _ => by omega
  | k + 1, l + 1, _, hk, .inl h => .inl h
  | k + 1, l + 1, _, hk, .inr ⟨ds, e, hl, h⟩ => .inr ⟨ds, e, Nat.le_trans hl hn, fun d hd => Gd.mono hn (Nat.le_of_succ_le_succ hk) (h d hd)⟩
theorem Gd.tup {n k : Nat} {ds : List PyData} (hl : ds.length ≤ n) (h : ∀ e ∈ ds, Gd n k e) : Gd n (k + 1) (.tuple ds) := .inr ⟨ds, .inl rfl, hl, h⟩
theorem Gd.lst {n k : Nat} {ds : List PyData} (hl : ds.length ≤ n) (h : ∀ e ∈ ds, Gd n k e) : Gd n (k + 1) (.list ds) := .inr ⟨ds, .inr rfl, hl, h⟩
theorem Gd.tup_inv {n k : Nat} {ds : List PyData} (h : Gd n k (.tuple ds)) : ∃ l, k = l + 1 ∧ ds.length ≤ n ∧ ∀ e ∈ ds, Gd n l e := by
  cases k with
  | zero => exact absurd h id
  | succ k =>
    rcases h with h | ⟨es, e | e, hl, h⟩
    · exact absurd h id
    · cases e
      exact ⟨k, rfl, hl, h⟩
    · cases e
theorem Gd.lays {n : Nat} : ∀ {k : Nat} {d : PyData}, Gd n k d → PyData.canLay0 d = true ∧ PyData.depth d ≤ k
  | k, d, h => by
    have at_ : ∀ {d : PyData}, TB.atom d → PyData.canLay0 d = true ∧ PyData.depth d = 0 := by
      intro d h
      cases d with
      | none => exact ⟨rfl, rfl⟩
      | bool b => exact ⟨rfl, rfl⟩
      | int i => exact ⟨rfl, rfl⟩
      | str z => exact ⟨h, rfl⟩
      | list ds => exact absurd h id
      | tuple ds => exact absurd h id
      | dict ds => exact absurd h id
    cases k with
    | zero =>
      obtain ⟨a, b⟩ := at_ h
      exact ⟨a, by omega⟩
    | succ k =>
      rcases h with h | ⟨ds, e, _, h⟩
      · obtain ⟨a, b⟩ := at_ h
        exact ⟨a, by omega⟩
      · have all : ∀ es : List PyData, (∀ e ∈ es, Gd n k e) → PyData.canLayAll0 es = true ∧ PyData.depthAll es ≤ k := by
          intro es
          induction es with
          | nil => exact fun _ => ⟨rfl, Nat.zero_le _⟩
          | cons e es ih =>
            intro he
            obtain ⟨a, b⟩ := ih fun x hx => he x (List.mem_cons_of_mem _ hx)
            obtain ⟨c, d⟩ := Gd.lays (he e List.mem_cons_self)
            refine ⟨by simp only [PyData.canLayAll0, a, c, Bool.and_self], ?_⟩
            simp only [PyData.depthAll]
            omega
        obtain ⟨a, b⟩ := all ds h
        rcases e with rfl | rfl
        · exact ⟨by simp only [PyData.canLay0, a], by simp only [PyData.depth]; omega⟩
        · exact ⟨by simp only [PyData.canLay0, a], by simp only [PyData.depth]; omega⟩
theorem Gd.shaped {n k : Nat} {d : PyData} (h : Gd n k d) (hk : k ≤ 60) : SeqAt.shaped d = true := by
  obtain ⟨a, b⟩ := h.lays
  unfold SeqAt.shaped
  rw [a, decide_eq_true (by omega)]
  rfl
theorem eqv_void : ∀ ds : List PyData, PyData.eqv (.tuple ds) (.tuple []) = decide (ds = [])
  | [] => by simp [PyData.eqv, PyData.eqvAll]
  | d :: ds => by simp [PyData.eqv, PyData.eqvAll]
/-! ### a statement, and what is known behind it -/
def tCut (t : TS) : TS := fun D σ H => ∃ R : L2.St → Hp → Prop, t { D with nx := R } σ H ∧ ∀ σ' H', R σ' H' → D.nx σ' H'
theorem ps_cut {X : Cx} {st : Stmt} {t : TS} (h : PS X st t) : PS X st (tCut t) := by
  refine ⟨fun pins s0 σ H D I hw => ?_⟩
  obtain ⟨R, a, b⟩ := hw
  refine thn (h.run pins s0 σ H _ I a) fun fl s1 z => ?_
  cases fl with
  | next =>
    obtain ⟨σ', H', I2, z⟩ := z
    exact ⟨σ', H', I2, b _ _ z⟩
  | brk => exact z
  | cont => exact z
  | ret v => exact z
end TB

set_option Elab.async false
set_option linter.all false
set_option maxRecDepth 100000
set_option maxHeartbeats 1000000
namespace TB
open PySem PySem.Spec PyProof.Rows L2

/-! ### enumerate(t), t a tuple -/
abbrev eT1 (h : Heap) (a : Addr) : Heap := h.push { cls := .type "tuple_iterator", data := .fields #[.ref a, .int 0 0] }
abbrev eT2 (h : Heap) (a : Addr) : Heap := (eT1 h a).push { cls := .type "enumerate", data := .fields #[.none, .bool false, .ref h.objs.size, rawInt 0, .none, .none] }
theorem enT_new (a : Addr) (xs : Array Value) (n : Nat) (dct : Option Addr) (sl : Array (Option Value)) :
    Meets (Builtin.«enumerate.__new__» ⟨[.type "enumerate", .ref a], []⟩) (fun _ R s => s.heap.get? a = some { cls := .type "tuple", dict := dct, data := .seq xs n, slots := sl } ∧ R (.ok (.ret (.ref (eT1 s.heap a).objs.size))) { s with heap := eT2 s.heap a }) :=
  .of_wp fun prog w A R st h => by
    obtain ⟨hp, g, d, tk, os⟩ := st
    obtain ⟨ha, h⟩ := h
    have sub := sub_enumerate
    have iA : Heap.IsTuple (Shared.heap ⟨hp, g, d, tk, os⟩) a xs := ⟨_, ha, rfl, n, rfl⟩
    wp_walk using AutoSeq1.wpAny_loadPart' ha
    refine wpAny_stack_any fun st => wpAny_pure ?_
    split
    · rename_i c _ _ _ _ _
      cases (c == Value.type "enumerate")
      · wp_walk using AutoSeq1.wpAny_loadPart' ha, wpAny_pyIter_tuple iA
        exact ⟨_, rfl, h⟩
      · wp_walk using AutoSeq1.wpAny_loadPart' ha, wpAny_pyIter_tuple iA
        exact ⟨_, rfl, h⟩
    · wp_walk using AutoSeq1.wpAny_loadPart' ha, wpAny_pyIter_tuple iA
      exact ⟨_, rfl, h⟩
section
variable {prog : Program} {w : World} {A : Around} {E : Value → Shared → Prop} {s : Shared}
theorem call_enT {a : Addr} {xs : Array Value} {Q : Value → Shared → Prop} (ha : s.heap.IsTuple a xs)
    (h : ∀ (n : Nat) (g : Heap), n = s.heap.objs.size → IsEnum g (n + 1) n 0 .none → g.IsTupleIter n a 0 → (∀ c o, s.heap.get? c = some o → g.get? c = some o) → Q (.ref (n + 1)) { s with heap := g }) :
    wpAny (model prog w) A (call (.type "enumerate") [.ref a]) Q E s := by
  obtain ⟨⟨c, dct, dt, sl⟩, ho, hc, n, hd⟩ := ha
  obtain rfl : c = .type "tuple" := hc
  obtain rfl : dt = .seq xs n := hd
  refine callType_new F.called_enumerate (by decide) (F.typeCall_enumerate_1 _) (F.newCall_enumerate_1 _) (fun ob => F.args_object_init_2 ob _) F.entry_enumerate_new (enT_new a xs n dct sl) ⟨ho, ?_⟩
  have e1 : (eT1 s.heap a).objs.size = s.heap.objs.size + 1 := Heap.size_push ..
  have g2 : (eT2 s.heap a).get? (eT1 s.heap a).objs.size = some _ := Heap.get?_push_size _ rfl
  have g1 : (eT2 s.heap a).get? s.heap.objs.size = some _ := Heap.get?_push_of_some _ (Heap.get?_push_size _ rfl)
  show _ ∧ _
  rw [e1] at g2
  rw [e1]
  exact ⟨⟨_, g2, rfl⟩, h _ _ rfl g2 ⟨_, g1, rfl, rfl⟩ fun c o z => Heap.get?_push_of_some _ (Heap.get?_push_of_some _ z)⟩
end
/-- a turn over it: a new pair of the place and the thing there -/
def ItET (K : PySem.W.Frag) (a : Addr) : It :=
  ⟨fun i H => ∃ (xs : List V) (x : V), SqT K H a xs ∧ xs[i]? = some x, fun i H v H' => ∃ T x, v = .ref T ∧ H T = none ∧ H' = upd H T (.tup [.int (i : Nat), x]) ∧ ∀ xs, SqT K H a xs → xs[i]? = some x, fun i H => ∃ xs : List V, SqT K H a xs ∧ xs.length ≤ i⟩
theorem turn_ET {P : Program} {w : World} {K : PySem.W.Frag} {elts : List Expr} {kk : Nat} {tpos : Pos} {a e it : Addr} (nei : e ≠ it) (na : a ≠ it) (nae : a ≠ e) :
    Turn P w K (.Tuple elts kk tpos) (ItET K a) [e, it] e (fun i h => (∃ old, IsEnum h e it ((i : Nat) : Int) old) ∧ h.IsTupleIter it a i) where
  mem := by simp
  obj := fun i h st b hb => by
    obtain ⟨⟨old, he⟩, ⟨o, ho, hc, hd⟩⟩ := st
    have two : b = e ∨ b = it := by simpa using hb
    rcases two with rfl | rfl
    · exact ⟨_, he, fun v q => nomatch q⟩
    · exact ⟨o, ho, fun v q => by rw [hd] at q; cases q⟩
  keep := fun i h h' st k => by
    obtain ⟨⟨old, he⟩, hi⟩ := st
    exact ⟨⟨old, k _ (by simp) _ he⟩, hi.at fun o q => k _ (by simp) o q⟩
  item := by
    intro X eP eW eK hc i pins s σ H E I hf st hg
    subst eP eW eK
    obtain ⟨⟨old, he⟩, hit⟩ := st
    obtain ⟨xs, x, hq, hx⟩ := hg
    obtain ⟨its, rv, p, hz⟩ := I.tuple hq
    obtain ⟨u, hu, ru⟩ := rv.get hx
    have el : e < s.heap.objs.size := Heap.lt_size he
    have il : it < s.heap.objs.size := by obtain ⟨_, q, _⟩ := hit; exact Heap.lt_size q
    have ilt : i < its.toArray.size := by
      rw [List.size_toArray]
      exact (List.getElem?_eq_some_iff.mp hu).1
    have D := Draws.tuple (prog := X.prog) (w := X.w) (A := X.A.in1) (I.ok.hd hc) it a na its.toArray
    refine wpAny_pyNext_enum_itemD D he ⟨hit, p⟩ ilt nei (by simp; exact ⟨nei, nae.symm⟩) fun y g tk hP ho st2 hT hsz hk => ?_
    have yu : y = u := by
      have z : some y = some u := by
        rw [← hu, ← hP]
        simp
      exact Option.some.inj z
    subst yu
    refine ⟨_, rfl, wpAny_letOwnedTupleGo_enum (s := { s with heap := g, toks := tk + 1 }) ho fun g2 he2 sb => ?_⟩
    have hT2 : g2.get? s.heap.objs.size = some { cls := .type "tuple", data := .seq #[.int i tk, y] } := (sb.2 _ (Nat.ne_of_gt el)).trans hT
    have new : ObjOk X.prog X.w (upd H s.heap.objs.size (.tup [.int (i : Nat), x])) g2 s.heap.objs.size (.tup [.int (i : Nat), x]) := ⟨by show 2 ≤ sizeLine; decide, [.int i tk, y], .cons ⟨_, rfl⟩ (.cons ru .nil), ⟨_, hT2, rfl, _, rfl⟩⟩
    have I1 : Inv X pins σ (upd H s.heap.objs.size (.tup [.int (i : Nat), x])) { s with heap := g2, toks := tk + 1 } := by
      refine I.turnedNew (ch := [e, it]) (fun b ob hb q => ?_) hf (Nat.le_refl _) new
      have n2 : b ≠ e ∧ b ≠ it := by simpa using hb
      exact (sb.2 b n2.1).trans (hk b ob n2.1 n2.2 q)
    refine ⟨.ref s.heap.objs.size, _, I1, rfl, ⟨_, x, rfl, I.hok.fresh (Nat.le_refl _), rfl, fun l hl => by rw [I.tuple_inj hl hq]; exact hx⟩, ⟨⟨y, ?_⟩, st2.1.at fun o q => (sb.2 it (Ne.symm nei)).trans q⟩, fun b hb => ?_⟩
    · have i1 : ((i + 1 : Nat) : Int) = (i : Int) + 1 := by omega
      rw [i1]
      exact he2
    · have two : b = e ∨ b = it := by simpa using hb
      have lt : b < s.heap.objs.size := by
        rcases two with rfl | rfl
        · exact el
        · exact il
      rw [upd_ne (Nat.ne_of_lt lt)]
      exact (hf b hb).1
  done := by
    intro X eP eW eK hc i pins s σ H E I hf st hg
    subst eP eW eK
    obtain ⟨⟨old, he⟩, hit⟩ := st
    obtain ⟨xs, hq, hx⟩ := hg
    obtain ⟨its, rv, p, hz⟩ := I.tuple hq
    have hl := rv.length
    obtain ⟨f0, f1, f2, f3, f4, f5⟩ := hf it (by simp)
    have hT : s.TypeIs (.ref e) "enumerate" := ⟨_, he, rfl⟩
    unfold pyNext
    refine wpAny_bind (wpAny_attempt (wpAny_callSpecial?_slot (name := Str.ofString "__next__") hT F.slot_enumerate_next (wpAny_call_entry F.slot_enumerate_next hT F.entry_enumerate_next ?_ (F.args_enumerate_next_1 _))))
    show wpAny _ _ (field (.ref e) 2 >>= _) _ _ _
    refine wpAny_bind (wpAny_field he rfl (x := .ref it) rfl ?_)
    refine wpAny_bind (wpAny_nextOf_tuple_end (A := X.A.in1) (I.ok.hd hc) hit p (by simp; omega) fun g ex eb hx' => ?_)
    obtain ⟨o, ho, hce⟩ := hx'
    refine wpAny_bind (wpAny_isInstance (T := "StopIteration") (b := true) ⟨o, ho, hce⟩ isSubtype_stop ?_)
    exact wpAny_pure ⟨rfl, I.turned (t' := s.toks) (fun b o hb q => eb b o hb q) f0 f1 f3 f4 f5⟩
  self := fun A i s Q E st h => by
    obtain ⟨⟨_, he⟩, _⟩ := st
    exact wpAny_pyIter_enum he h
def iET (K : PySem.W.Frag) (ta : TA) : TI := fun σ H R => ta σ H fun vs H1 => ∃ a xs, vs = [.ref a] ∧ SqT K H1 a xs ∧ R (ItET K a) H1
theorem pi_enumT {X : Cx} {e : Expr} {ta : TA} {p pos tpos : Pos} {elts : List Expr} {kk : Nat} (hg : Gl X "enumerate") (hm : X.mg "enumerate" = none) (ha : PA X [e] ta)
    (hs : starEach [e] X.env = [(false, eval e X.env)] := by rfl) : PI X (.Tuple elts kk tpos) (.Call (.Name "enumerate" p) [e] [] pos) (iET X.K ta) := by
  refine ⟨fun pins s0 σ H R I h => ?_⟩
  refine Call_ (ld_blt I hg hm boot_enumerate (PyProof.Rows.callWith_type1 (thn (ha.run pos pins s0 σ H _ I h) fun us u ⟨vs, H1, I1, r1, q1⟩ => ?_) hs rfl))
  obtain ⟨a, xs, rfl, hq, q⟩ := q1
  cases r1 with
  | cons r rr =>
    cases rr
    cases r
    obtain ⟨its, rv, p1, _⟩ := I1.tuple hq
    have la : a < u.heap.objs.size := by obtain ⟨o, ho, _⟩ := id p1; exact Heap.lt_size ho
    refine call_enT (xs := its.toArray) p1 fun n g hn he hi hk => wpAny_pyIter_enum he ?_
    have I2 : Inv X pins σ H1 { u with heap := g } := I1.kept (t' := u.toks) hk
    have fr : ∀ c, c ∈ [n + 1, n] → FpOk X pins H1 c := fun c hcm => by
      have two : c = n + 1 ∨ c = n := by simpa using hcm
      have le : u.heap.objs.size ≤ c := by rw [← hn]; omega
      exact I1.fpOk le (I1.hok.fresh le)
    exact ⟨n + 1, [n + 1, n], _, _, H1, rfl, I2, turn_ET (e := n + 1) (it := n) (Nat.succ_ne_self _) (by rw [hn]; exact Nat.ne_of_lt la) (by rw [hn]; exact Nat.ne_of_lt (Nat.lt_succ_of_lt la)), ⟨⟨.none, he⟩, hi⟩, fr, q⟩
section
variable {K : PySem.W.Frag} {a b : Addr} {xs ys : List V}
theorem walk_ET : Walk (ItET K a) xs.length (fun H => SqT K H a xs) (YPair (fun i => some (.int (i : Nat))) (fun i => xs[i]?)) := by
  refine ⟨fun i _ hi q => ⟨xs, xs[i], q, by simp [hi]⟩, fun _ q => ⟨xs, q, Nat.le_refl _⟩, fun i H x H' _ q y => ?_⟩
  obtain ⟨T, z, h1, h2, h3, h4⟩ := y
  exact ⟨T, _, z, h1, h2, h3, rfl, h4 xs q⟩
theorem walk_zT {n : Nat} (hn : n = min xs.length ys.length) : Walk (RZ.ItzT K a b) n (fun H => SqT K H a xs ∧ SqT K H b ys) (YPair (fun i => xs[i]?) (fun i => ys[i]?)) := by
  refine ⟨fun i H hi q => ?_, fun H q => ?_, fun i H x H' hi q y => ?_⟩
  · have h1 : i < xs.length := by omega
    have h2 : i < ys.length := by omega
    exact ⟨xs, ys, xs[i], ys[i], q.1, q.2, by simp [h1], by simp [h2]⟩
  · exact ⟨xs, ys, q.1, q.2, by omega⟩
  · obtain ⟨T, u, v, h1, h2, h3, h4, h5⟩ := y
    exact ⟨T, u, v, h1, h2, h3, h4 xs q.1, h5 ys q.2⟩
theorem walk_TL {n : Nat} (hn : n = min xs.length ys.length) : Walk (ItTL K a b) n (fun H => SqT K H a xs ∧ SqL K H b ys) (YPair (fun i => xs[i]?) (fun i => ys[i]?)) := by
  refine ⟨fun i H hi q => ?_, fun H q => ?_, fun i H x H' hi q y => ?_⟩
  · have h1 : i < xs.length := by omega
    have h2 : i < ys.length := by omega
    exact ⟨xs, ys, xs[i], ys[i], q.1, q.2, by simp [h1], by simp [h2]⟩
  · exact ⟨xs, ys, q.1, q.2, by omega⟩
  · obtain ⟨T, u, v, h1, h2, h3, h4, h5⟩ := y
    exact ⟨T, u, v, h1, h2, h3, h4 xs q.1, h5 ys q.2⟩
end
end TB

set_option Elab.async false
set_option linter.all false
set_option maxRecDepth 100000
set_option maxHeartbeats 1000000
namespace TB
open PySem PySem.Spec PyProof.Rows L2

/-! ### zip(t, u, v), three tuples -/
def It3 (K : PySem.W.Frag) (a b c : Addr) : It :=
  ⟨fun i H => ∃ (xs ys zs : List V) (x y z : V), (SqT K H a xs ∧ SqT K H b ys ∧ SqT K H c zs) ∧ xs[i]? = some x ∧ ys[i]? = some y ∧ zs[i]? = some z,
    fun i H v H' => ∃ T x y z, v = .ref T ∧ H T = none ∧ H' = upd H T (.tup [x, y, z]) ∧ (∀ xs, SqT K H a xs → xs[i]? = some x) ∧ (∀ ys, SqT K H b ys → ys[i]? = some y) ∧ ∀ zs, SqT K H c zs → zs[i]? = some z,
    fun i H => ∃ xs ys zs : List V, (SqT K H a xs ∧ SqT K H b ys ∧ SqT K H c zs) ∧ i = min (min xs.length ys.length) zs.length⟩
theorem turn_3 {P : Program} {w : World} {K : PySem.W.Frag} {elts : List Expr} {kk : Nat} {tpos : Pos} {a b c z TI TO i1 i2 i3 : Addr} (S : ZipSep3 z TI TO i1 i2 i3 [i1, a] [i2, b] [i3, c]) (na : a ≠ i1) (nb : b ≠ i2) (nc : c ≠ i3) :
    Turn P w K (.Tuple elts kk tpos) (It3 K a b c) [z, TI, TO, i1, i2, i3] z (fun i h => IsZip h z TI TO .none ∧ IsTupOf3 h TI (.ref i1) (.ref i2) (.ref i3) ∧ (∃ x y u, IsTupOf3 h TO x y u) ∧ h.IsTupleIter i1 a i ∧ h.IsTupleIter i2 b i ∧ h.IsTupleIter i3 c i) where
  mem := by simp
  obj := fun i h st q hq => by
    obtain ⟨isz, pI, ⟨x, y, u, pO⟩, ⟨o1, e1, _, d1⟩, ⟨o2, e2, _, d2⟩, ⟨o3, e3, _, d3⟩⟩ := st
    have six : q = z ∨ q = TI ∨ q = TO ∨ q = i1 ∨ q = i2 ∨ q = i3 := by simpa using hq
    rcases six with rfl | rfl | rfl | rfl | rfl | rfl
    · exact ⟨_, isz, fun v q => nomatch q⟩
    · exact ⟨_, pI, fun v q => nomatch q⟩
    · exact ⟨_, pO, fun v q => nomatch q⟩
    · exact ⟨o1, e1, fun v q => by rw [d1] at q; cases q⟩
    · exact ⟨o2, e2, fun v q => by rw [d2] at q; cases q⟩
    · exact ⟨o3, e3, fun v q => by rw [d3] at q; cases q⟩
  keep := fun i h h' st k => by
    obtain ⟨isz, pI, ⟨x, y, u, pO⟩, h1, h2, h3⟩ := st
    exact ⟨k _ (by simp) _ isz, k _ (by simp) _ pI, ⟨x, y, u, k _ (by simp) _ pO⟩, h1.at fun o q => k _ (by simp) o q, h2.at fun o q => k _ (by simp) o q, h3.at fun o q => k _ (by simp) o q⟩
  item := by
    intro X eP eW eK hc i pins s σ H E I hf st hg
    subst eP eW eK
    obtain ⟨isz, pI, pO, h1, h2, h3⟩ := st
    obtain ⟨xs, ys, zs, x, y, u, ⟨qx, qy, qz⟩, hx, hy, hu⟩ := hg
    obtain ⟨is1, r1, p1, _⟩ := I.tuple qx
    obtain ⟨is2, r2, p2, _⟩ := I.tuple qy
    obtain ⟨is3, r3, p3, _⟩ := I.tuple qz
    obtain ⟨v1, a1, w1⟩ := r1.get hx
    obtain ⟨v2, a2, w2⟩ := r2.get hy
    obtain ⟨v3, a3, w3⟩ := r3.get hu
    have D1 := Draws.tuple (prog := X.prog) (w := X.w) (A := X.A.in1) (I.ok.hd hc) i1 a na is1.toArray
    have D2 := Draws.tuple (prog := X.prog) (w := X.w) (A := X.A.in1) (I.ok.hd hc) i2 b nb is2.toArray
    have D3 := Draws.tuple (prog := X.prog) (w := X.w) (A := X.A.in1) (I.ok.hd hc) i3 c nc is3.toArray
    have WT := WalksT.zipD3 S D1 D2 D3
    have l1 := (List.getElem?_eq_some_iff.mp a1).1
    have l2 := (List.getElem?_eq_some_iff.mp a2).1
    have l3 := (List.getElem?_eq_some_iff.mp a3).1
    have il : i < min (min is1.toArray.size is2.toArray.size) is3.toArray.size := by
      simp only [List.size_toArray]
      omega
    have inH : ∀ q ∈ [z, TI, TO, i1, i2, i3], q < s.heap.objs.size := fun q hq => by
      have six : q = z ∨ q = TI ∨ q = TO ∨ q = i1 ∨ q = i2 ∨ q = i3 := by simpa using hq
      obtain ⟨_, _, _, pO'⟩ := pO
      obtain ⟨_, e1, _⟩ := h1
      obtain ⟨_, e2, _⟩ := h2
      obtain ⟨_, e3, _⟩ := h3
      rcases six with rfl | rfl | rfl | rfl | rfl | rfl
      · exact Heap.lt_size isz
      · exact Heap.lt_size pI
      · exact Heap.lt_size pO'
      · exact Heap.lt_size e1
      · exact Heap.lt_size e2
      · exact Heap.lt_size e3
    refine WT.item i s _ E il ⟨isz, pI, pO, ⟨h1, p1⟩, ⟨h2, p2⟩, ⟨h3, p3⟩⟩ fun T vals g tk hP le hT mid hk => ?_
    obtain ⟨x1, x2, x3, e1, e2, e3, rfl⟩ := hP
    have k1 : x1 = v1 := Option.some.inj (by rw [← a1, ← e1]; simp)
    have k2 : x2 = v2 := Option.some.inj (by rw [← a2, ← e2]; simp)
    have k3 : x3 = v3 := Option.some.inj (by rw [← a3, ← e3]; simp)
    subst k1 k2 k3
    have out := WT.apart i T g mid
    refine ⟨_, rfl, WT.go elts kk tpos i T { s with heap := g, toks := tk } _ E mid fun g2 st2 hk2 => ?_⟩
    obtain ⟨z2, I2', O2', ⟨t1, _⟩, ⟨t2, _⟩, ⟨t3, _⟩⟩ := st2
    have hT2 : g2.IsTuple T #[x1, x2, x3] := hT.at fun o q => hk2 T o out q
    have new : ObjOk X.prog X.w (upd H T (.tup [x, y, u])) g2 T (.tup [x, y, u]) := ⟨by show 3 ≤ sizeLine; decide, [x1, x2, x3], .cons w1 (.cons w2 (.cons w3 .nil)), hT2⟩
    have I1 : Inv X pins σ (upd H T (.tup [x, y, u])) { s with heap := g2, toks := tk } := by
      refine I.turnedNew (ch := [z, TI, TO, i1, i2, i3]) (fun q o hq e => ?_) hf le new
      have six : q ≠ z ∧ q ≠ TI ∧ q ≠ TO ∧ q ≠ i1 ∧ q ≠ i2 ∧ q ≠ i3 := by simpa using hq
      have five : q ∉ [z, TO, i1, i2, i3] := by simpa using ⟨six.1, six.2.2.1, six.2.2.2.1, six.2.2.2.2.1, six.2.2.2.2.2⟩
      exact hk2 q o five (hk q o five e)
    refine ⟨.ref T, _, I1, rfl, ⟨T, x, y, u, rfl, I.hok.fresh le, rfl, fun l hl => by rw [I.tuple_inj hl qx]; exact hx, fun l hl => by rw [I.tuple_inj hl qy]; exact hy, fun l hl => by rw [I.tuple_inj hl qz]; exact hu⟩, ⟨z2, I2', O2', t1, t2, t3⟩, fun q hq => ?_⟩
    have lt := inH q hq
    rw [upd_ne (Nat.ne_of_lt (Nat.lt_of_lt_of_le lt le))]
    exact (hf q hq).1
  done := by
    intro X eP eW eK hc i pins s σ H E I hf st hg
    subst eP eW eK
    obtain ⟨isz, pI, pO, h1, h2, h3⟩ := st
    obtain ⟨xs, ys, zs, ⟨qx, qy, qz⟩, hend⟩ := hg
    obtain ⟨is1, r1, p1, _⟩ := I.tuple qx
    obtain ⟨is2, r2, p2, _⟩ := I.tuple qy
    obtain ⟨is3, r3, p3, _⟩ := I.tuple qz
    have m1 := r1.length
    have m2 := r2.length
    have m3 := r3.length
    have D1 := Draws.tuple (prog := X.prog) (w := X.w) (A := X.A.in1) (I.ok.hd hc) i1 a na is1.toArray
    have D2 := Draws.tuple (prog := X.prog) (w := X.w) (A := X.A.in1) (I.ok.hd hc) i2 b nb is2.toArray
    have D3 := Draws.tuple (prog := X.prog) (w := X.w) (A := X.A.in1) (I.ok.hd hc) i3 c nc is3.toArray
    have WT := WalksT.zipD3 S D1 D2 D3
    have ei : min (min is1.toArray.size is2.toArray.size) is3.toArray.size = i := by
      simp only [List.size_toArray]
      omega
    refine WT.done s _ E (by rw [ei]; exact ⟨isz, pI, pO, ⟨h1, p1⟩, ⟨h2, p2⟩, ⟨h3, p3⟩⟩) fun g tk hk => ⟨rfl, I.turnedL (ch := [z, TI, TO, i1, i2, i3]) (fun q o hq e => ?_) hf⟩
    have six : q ≠ z ∧ q ≠ TI ∧ q ≠ TO ∧ q ≠ i1 ∧ q ≠ i2 ∧ q ≠ i3 := by simpa using hq
    exact hk q o (by simpa using ⟨six.1, six.2.2.1, six.2.2.2.1, six.2.2.2.2.1, six.2.2.2.2.2⟩) e
  self := fun _ _ _ _ _ st h => wpAny_pyIter_zip st.1 h
def i3T (K : PySem.W.Frag) (ta : TA) : TI := fun σ H R => ta σ H fun vs H1 => ∃ a b c xs ys zs, vs = [.ref a, .ref b, .ref c] ∧ (SqT K H1 a xs ∧ SqT K H1 b ys ∧ SqT K H1 c zs) ∧ R (It3 K a b c) H1
theorem pi_zip3 {X : Cx} {e e2 e3 : Expr} {ta : TA} {p pos tpos : Pos} {elts : List Expr} {kk : Nat} (hg : Gl X "zip") (hm : X.mg "zip" = none) (ha : PA X [e, e2, e3] ta)
    (hs : starEach [e, e2, e3] X.env = (false, eval e X.env) :: starEach [e2, e3] X.env := by rfl) (hpl : (backTo pos (starEach [e2, e3] X.env)).any (·.1) = false := by rfl) : PI X (.Tuple elts kk tpos) (.Call (.Name "zip" p) [e, e2, e3] [] pos) (i3T X.K ta) := by
  refine ⟨fun pins s0 σ H R I h => ?_⟩
  refine Call_ (ld_blt I hg hm PyProof.Rows.boot_zip (PyProof.Rows.callWith_type1 (thn (ha.run pos pins s0 σ H _ I h) fun us u ⟨vs, H1, I1, r1, q1⟩ => ?_) hs hpl))
  obtain ⟨a, b, c, xs, ys, zs, rfl, ⟨qx, qy, qz⟩, q⟩ := q1
  cases r1 with
  | cons ra rr =>
    cases rr with
    | cons rb rr =>
      cases rr with
      | cons rc rr =>
        cases rr
        cases ra
        cases rb
        cases rc
        obtain ⟨is1, _, p1, _⟩ := I1.tuple qx
        obtain ⟨is2, _, p2, _⟩ := I1.tuple qy
        obtain ⟨is3, _, p3, _⟩ := I1.tuple qz
        have la : a < u.heap.objs.size := by obtain ⟨o, ho, _⟩ := id p1; exact Heap.lt_size ho
        have lb : b < u.heap.objs.size := by obtain ⟨o, ho, _⟩ := id p2; exact Heap.lt_size ho
        have lc : c < u.heap.objs.size := by obtain ⟨o, ho, _⟩ := id p3; exact Heap.lt_size ho
        refine zip_begins3 (begins_tuple a is1.toArray) (begins_tuple b is2.toArray) (begins_tuple c is3.toArray) p1 p2 p3 fun g hz hTI hTO g1 g2 g3 hsz hk => wpAny_pyIter_zip hz ?_
        have I2 : Inv X pins σ H1 { u with heap := g } := I1.kept (t' := u.toks) hk
        generalize hn : u.heap.objs.size = n at *
        have fr : ∀ q, q ∈ [n + 5, n + 3, n + 4, n, n + 1, n + 2] → FpOk X pins H1 q := fun q hq => by
          have six : q = n + 5 ∨ q = n + 3 ∨ q = n + 4 ∨ q = n ∨ q = n + 1 ∨ q = n + 2 := by simpa using hq
          have le : u.heap.objs.size ≤ q := by rw [hn]; omega
          exact I1.fpOk le (I1.hok.fresh le)
        have sep := zip_sep3 (N := n) (fp1 := [a]) (fp2 := [b]) (fp3 := [c]) (fun q hq => by rw [List.mem_singleton.mp hq]; exact la) (fun q hq => by rw [List.mem_singleton.mp hq]; exact lb) (fun q hq => by rw [List.mem_singleton.mp hq]; exact lc)
        exact ⟨n + 5, [n + 5, n + 3, n + 4, n, n + 1, n + 2], _, _, H1, rfl, I2, turn_3 (z := n + 5) (TI := n + 3) (TO := n + 4) (i1 := n) (i2 := n + 1) (i3 := n + 2) sep (Nat.ne_of_lt la) (Nat.ne_of_lt (Nat.lt_succ_of_lt lb)) (Nat.ne_of_lt (Nat.lt_succ_of_lt (Nat.lt_succ_of_lt lc))),
          ⟨hz, hTI, ⟨_, _, _, hTO⟩, ⟨_, g1, rfl, rfl⟩, ⟨_, g2, rfl, rfl⟩, ⟨_, g3, rfl, rfl⟩⟩, fr, q⟩
/-- a new triple of the i-th things -/
def YTri (xs ys zs : List V) : Nat → Hp → V → Hp → Prop := fun i H v H' => ∃ T x y z, v = .ref T ∧ H T = none ∧ H' = upd H T (.tup [x, y, z]) ∧ xs[i]? = some x ∧ ys[i]? = some y ∧ zs[i]? = some z
theorem walk_3 {K : PySem.W.Frag} {a b c : Addr} {xs ys zs : List V} {n : Nat} (hn : n = min (min xs.length ys.length) zs.length) : Walk (It3 K a b c) n (fun H => SqT K H a xs ∧ SqT K H b ys ∧ SqT K H c zs) (YTri xs ys zs) := by
  refine ⟨fun i H hi q => ?_, fun H q => ⟨xs, ys, zs, q, hn⟩, fun i H x H' hi q y => ?_⟩
  · have h1 : i < xs.length := by omega
    have h2 : i < ys.length := by omega
    have h3 : i < zs.length := by omega
    exact ⟨xs, ys, zs, xs[i], ys[i], zs[i], q, by simp [h1], by simp [h2], by simp [h3]⟩
  · obtain ⟨T, u, v, r, h1, h2, h3, h4, h5, h6⟩ := y
    exact ⟨T, u, v, r, h1, h2, h3, h4 xs q.1, h5 ys q.2.1, h6 zs q.2.2⟩
end TB

set_option Elab.async false
set_option linter.all false
set_option maxRecDepth 100000
set_option maxHeartbeats 1000000
namespace TB
open PySem PySem.Spec PyProof.Rows L2

/-! ### isinstance of a caught error that has fields -/
structure IsC (K : PySem.W.Frag) (D : Addr) : Prop where
  cl : (PySem.W.clsIn K D).isSome = true
  ga : PySem.W.findIn K (.ref D) "__getattribute__" = some (some (.builtin "BaseException.__getattribute__"))
  gg : PySem.W.findIn K (.ref D) "__getattr__" = some none
  sb : PySem.W.subIn K (.ref D) (.type "BaseException") = some true
  ca : PySem.W.findIn K (.ref D) "__class__" = some (some (.builtin "object.__class__"))
  gt : PySem.W.specialIn K (.builtin "object.__class__") "__get__" = some (some (.builtin "getset_descriptor.__get__"))
  tk : PySem.W.takesIn K (.builtin "object.__class__") = some true
  mr : PySem.W.mroIn K D (.type "object") = some true
/-- one class -/
def rIsX (K : PySem.W.Frag) (a : Addr) (cls : Value) (d : Option Addr) : List V → Hp → VK → Prop := fun xs H Q => ∃ (D dd : Addr) (fs : List (Str × V)) (c : V) (cv : Value) (b : Bool),
  xs = [.ref a, c] ∧ cls = .ref D ∧ d = some dd ∧ H dd = some (.xd fs) ∧ IsC K D ∧ ClsV c cv ∧ PySem.W.kitOne K (.ref D) cv = some b ∧ Q (.bl b) H
/-- a tuple of classes, just laid -/
def rIsXT (K : PySem.W.Frag) (a : Addr) (cls : Value) (d : Option Addr) : List V → Hp → VK → Prop := fun xs H Q => ∃ (D dd tp : Addr) (fs : List (Str × V)) (cs : List V) (us : List Value) (b : Bool),
  xs = [.ref a, .ref tp] ∧ cls = .ref D ∧ d = some dd ∧ H dd = some (.xd fs) ∧ IsC K D ∧ H tp = some (.tup cs) ∧ Paired ClsV cs us ∧ PySem.W.kitAny K (.ref D) us = some b ∧ Q (.bl b) H
section
variable {X : Cx} {a : Addr} {oe : Obj} {cls : Value} {d : Option Addr} {pn : List (Addr × Obj)}
theorem inst_x {pins : List (Addr × Obj)} {s : Shared} {σ : L2.St} {H : Hp} {D dd : Addr} {fs : List (Str × V)} (hz : Zc (.ref D) (some dd) oe) (hf : ∃ vs, oe.data = .fields vs) (I : Inv (X.suite a ((a, oe) :: pn)) pins σ H s) (ed : H dd = some (.xd fs)) :
    ∃ od, PySem.W.InstAt s.heap a oe D (some od) := by
  obtain ⟨at_a, _⟩ := I.pin (a, oe) (List.mem_append_left _ List.mem_cons_self)
  obtain ⟨vs, hv⟩ := hf
  have ox : ObjOk X.prog X.w H s.heap dd (.xd fs) := I.hok dd _ ed
  obtain ⟨mA, ns, _⟩ := ox
  obtain ⟨od, ho, _⟩ := lookIn_ns ns
  refine ⟨od, at_a, hz.1, ?_, ?_⟩
  · unfold PySem.W.notCls
    rw [hv] <;> rfl
  · rw [hz.2]
    exact ho
theorem call_isX (hz : Zc cls d oe) (hf : ∃ vs, oe.data = .fields vs) : CallR (X.suite a ((a, oe) :: pn)) (.builtin "isinstance") (rIsX X.K a cls d) := by
  intro pins s σ H xs us Q I r h
  obtain ⟨D, dd, fs, c, cv, b, rfl, rfl, rfl, ed, C, kc, e, q⟩ := h
  obtain ⟨u1, u2, rfl, r1, r2⟩ := vals2 r
  cases (show u1 = Value.ref a from r1)
  obtain rfl := kc.eq r2
  obtain ⟨od, J⟩ := inst_x hz hf I ed
  exact PySem.W.kia_one (PySem.W.kitx_exc C.cl C.ga C.gg C.sb C.ca C.gt C.tk C.mr) I.kIn J e (fun z => nomatch z) fun tk => ⟨.bl b, H, I.tok tk, rfl, q⟩
theorem call_isXT (hz : Zc cls d oe) (hf : ∃ vs, oe.data = .fields vs) : CallR (X.suite a ((a, oe) :: pn)) (.builtin "isinstance") (rIsXT X.K a cls d) := by
  intro pins s σ H xs us Q I r h
  obtain ⟨D, dd, tp, fs, cs, ws, b, rfl, rfl, rfl, ed, C, hT, kc, e, q⟩ := h
  obtain ⟨u1, u2, rfl, r1, r2⟩ := vals2 r
  cases (show u1 = Value.ref a from r1)
  cases (show u2 = Value.ref tp from r2)
  obtain ⟨od, J⟩ := inst_x hz hf I ed
  obtain ⟨_, its, rv, o, h1, h2, n, h3⟩ := (show ObjOk X.prog X.w H s.heap tp (.tup cs) from I.hok tp _ hT)
  obtain rfl := ClsV.all kc rv
  obtain ⟨oc, od2, dt, sl⟩ := o
  simp only at h2 h3
  subst h2 h3
  exact PySem.W.kia_tup (PySem.W.kitx_exc C.cl C.ga C.gg C.sb C.ca C.gt C.tk C.mr) I.kIn J h1 e (fun z => nomatch z) fun tk => ⟨.bl b, H, I.tok tk, rfl, q⟩
end
end TB

set_option Elab.async false
set_option linter.all false
set_option maxRecDepth 100000
set_option maxHeartbeats 1000000
namespace TB
open PySem PySem.Spec PyProof.Rows L2

/-! ### numbers and truths in sums -/
theorem gives_neg_bool (a : Bool) : Gives (Builtin.«int.__neg__» ⟨[.bool a], []⟩) (.int (-(if a = true then (1 : Int) else 0))) :=
  .of_wp fun M A E s Q h => by
    obtain ⟨hp, g, d, tk, os⟩ := s
    wp_walk
    exact ⟨_, rfl, h⟩
theorem neg_bool {prog : Program} {w : World} {A : Around} {E : Value → Shared → Prop} {s : Shared} {a : Bool} {Q : Value → Shared → Prop} (h : Q (.int (-(if a = true then (1 : Int) else 0)) s.toks) { s with toks := s.toks + 1 }) :
    wpAny (model prog w) A (unaryOp .USub (.bool a)) Q E s :=
  unaryOp_gives (op := .USub) (typeIs_bool' s a) rfl F.slot_bool_neg F.entry_int_neg (F.args_int_neg_1 _) (gives_neg_bool a) h
/-- the number that stands behind a number or a truth -/
inductive Nm : V → Int → Prop
  | int (i : Int) : Nm (.int i) i
  | bl (b : Bool) : Nm (.bl b) (if b = true then 1 else 0)
def rAddN : R2 := fun x y H Q => ∃ i j, Nm x i ∧ y = .int j ∧ Q (.int (i + j)) H
def rSubN : R2 := fun x y H Q => ∃ i j, Nm x i ∧ y = .int j ∧ Q (.int (i - j)) H
def rNegN : V → Hp → VK → Prop := fun x H Q => ∃ i, Nm x i ∧ Q (.int (-i)) H
section
variable {X : Cx}
theorem op_addN : OpR X (binaryOp .Add) rAddN := by
  intro pins s σ H x y v u Q I rx ry h
  obtain ⟨i, j, n, rfl, q⟩ := h
  cases n with
  | int i => exact op_add pins s σ H _ _ v u Q I rx ry ⟨i, j, rfl, rfl, q⟩
  | bl b =>
    obtain ⟨t, rfl⟩ := ry
    cases (show v = Value.bool b from rx)
    exact PySem.IntBool.add_bool_int ⟨.int _, H, I.tok _, ⟨_, rfl⟩, q⟩
theorem op_subN : OpR X (binaryOp .Sub) rSubN := by
  intro pins s σ H x y v u Q I rx ry h
  obtain ⟨i, j, n, rfl, q⟩ := h
  cases n with
  | int i => exact op_sub pins s σ H _ _ v u Q I rx ry ⟨i, j, rfl, rfl, q⟩
  | bl b =>
    obtain ⟨t, rfl⟩ := ry
    cases (show v = Value.bool b from rx)
    exact PySem.IntBool.sub_bool_int ⟨.int _, H, I.tok _, ⟨_, rfl⟩, q⟩
theorem un_negN : UnR X (unaryOp .USub) rNegN := by
  intro pins s σ H x v Q I rx h
  obtain ⟨i, n, q⟩ := h
  cases n with
  | int i => exact un_neg pins s σ H _ v Q I rx ⟨i, rfl, q⟩
  | bl b =>
    cases (show v = Value.bool b from rx)
    exact neg_bool ⟨.int _, H, I.tok _, ⟨_, rfl⟩, q⟩
end
end TB

set_option Elab.async false
set_option linter.all false
set_option maxRecDepth 100000
set_option maxHeartbeats 1000000
namespace TB
open PySem PySem.Spec PyProof.Rows L2

/-! ### how large a thing is, and what stands at its ends -/
def asc (z : Str) : Prop := ∀ c ∈ z.cps.toList, c < 128
theorem asc_app {x y : Str} (hx : asc x) (hy : asc y) : asc (x ++ y) := fun c hc => by
  have e : (x ++ y).cps.toList = x.cps.toList ++ y.cps.toList := Array.toList_append
  rw [e] at hc
  rcases List.mem_append.mp hc with h | h
  · exact hx c h
  · exact hy c h
theorem asc_cut {z : Str} (hz : asc z) (lo hi : Option Int) : asc (cutS z lo hi) := fun c hc => hz c (List.mem_of_mem_drop (List.mem_of_mem_take hc))
theorem cutS_len (z : Str) (lo hi : Option Int) : (cutS z lo hi).length ≤ z.length := by
  show (List.toArray _).size ≤ _
  rw [List.size_toArray, List.length_take, List.length_drop]
  have : z.cps.toList.length = z.length := Array.length_toList
  omega
mutual
def sz : PyData → Nat
  | .tuple xs => 1 + szs xs
  | .list xs => 1 + szs xs
  | _ => 1
def szs : List PyData → Nat
  | [] => 0
  | x :: xs => sz x + szs xs
end
mutual
def Ats (j : Nat) : PyData → Prop
  | .none => True
  | .bool _ => True
  | .int i => i.natAbs < 2 ^ (700 + j)
  | .str z => asc z ∧ z.length ≤ 20 + j
  | .tuple xs => AtsL j xs
  | .list xs => AtsL j xs
  | .dict _ => False
def AtsL (j : Nat) : List PyData → Prop
  | [] => True
  | x :: xs => Ats j x ∧ AtsL j xs
end
theorem atsL_iff {j : Nat} : ∀ {ds : List PyData}, AtsL j ds ↔ ∀ d ∈ ds, Ats j d
  | [] => ⟨fun _ d h => (by cases h), fun _ => by simp [AtsL]⟩
  | d :: ds => by
    simp only [AtsL, List.mem_cons, forall_eq_or_imp]
    rw [atsL_iff (ds := ds)]
theorem Ats.tup {j : Nat} {ds : List PyData} : Ats j (.tuple ds) ↔ ∀ d ∈ ds, Ats j d := by
  simp only [Ats]
  exact atsL_iff
theorem Ats.lst {j : Nat} {ds : List PyData} : Ats j (.list ds) ↔ ∀ d ∈ ds, Ats j d := by
  simp only [Ats]
  exact atsL_iff
mutual
theorem Ats.mono {i j : Nat} (h : i ≤ j) : ∀ (d : PyData), Ats i d → Ats j d
  | .none, _ => by simp [Ats]
  | .bool _, _ => by simp [Ats]
  | .int n, a => by
    simp only [Ats] at a ⊢
    exact Nat.lt_of_lt_of_le a (Nat.pow_le_pow_right (by decide) (by omega))
  | .str z, a => by
    simp only [Ats] at a ⊢
    exact ⟨a.1, by omega⟩
  | .tuple xs, a => by
    simp only [Ats] at a ⊢
    exact AtsL.mono h xs a
  | .list xs, a => by
    simp only [Ats] at a ⊢
    exact AtsL.mono h xs a
  | .dict _, a => by simp [Ats] at a
theorem AtsL.mono {i j : Nat} (h : i ≤ j) : ∀ (ds : List PyData), AtsL i ds → AtsL j ds
  | [], _ => by simp [AtsL]
  | d :: ds, a => by
    simp only [AtsL] at a ⊢
    exact ⟨Ats.mono h d a.1, AtsL.mono h ds a.2⟩
end
theorem sz_pos (d : PyData) : 1 ≤ sz d := by
  cases d <;> simp [sz]
theorem szs_app : ∀ (a b : List PyData), szs (a ++ b) = szs a + szs b
  | [], b => by simp [szs]
  | x :: a, b => by
    simp only [List.cons_append, szs, szs_app a b]
    omega
theorem szs_drop : ∀ (n : Nat) (ds : List PyData), szs (ds.drop n) ≤ szs ds
  | 0, ds => Nat.le_refl _
  | n + 1, [] => Nat.le_refl _
  | n + 1, x :: ds => by
    have := szs_drop n ds
    simp only [List.drop_succ_cons, szs]
    omega
theorem szs_take : ∀ (n : Nat) (ds : List PyData), szs (ds.take n) ≤ szs ds
  | 0, ds => by simp [szs]
  | n + 1, [] => Nat.le_refl _
  | n + 1, x :: ds => by
    have := szs_take n ds
    simp only [List.take_succ_cons, szs]
    omega
theorem szs_cut (ds : List PyData) (lo hi : Option Int) : szs (cutD ds lo hi) ≤ szs ds := by
  unfold cutD
  exact Nat.le_trans (szs_take _ _) (szs_drop _ _)
theorem szs_mem : ∀ {ds : List PyData} {d : PyData}, d ∈ ds → sz d ≤ szs ds
  | x :: ds, d, h => by
    simp only [szs]
    rcases List.mem_cons.mp h with rfl | h
    · omega
    · have := szs_mem h
      omega
theorem szs_len : ∀ (ds : List PyData), ds.length ≤ szs ds
  | [] => Nat.le_refl _
  | x :: ds => by
    have := szs_len ds
    have := sz_pos x
    simp only [szs, List.length_cons]
    omega
theorem sz_tup (ds : List PyData) : sz (.tuple ds) = 1 + szs ds := by simp [sz]
theorem sz_lst (ds : List PyData) : sz (.list ds) = 1 + szs ds := by simp [sz]
theorem dep_tup (ds : List PyData) : PyData.depth (.tuple ds) = PyData.depthAll ds + 1 := by simp only [PyData.depth]
theorem dep_lst (ds : List PyData) : PyData.depth (.list ds) = PyData.depthAll ds + 1 := by simp only [PyData.depth]
theorem dep_all {k : Nat} : ∀ {ds : List PyData}, PyData.depthAll ds ≤ k ↔ ∀ d ∈ ds, PyData.depth d ≤ k
  | [] => ⟨fun _ d h => (by cases h), fun _ => by simp [PyData.depthAll]⟩
  | x :: ds => by
    simp only [PyData.depthAll, List.mem_cons, forall_eq_or_imp]
    rw [← dep_all (ds := ds)]
    omega
theorem sh_big {i : Int} (h : i.natAbs < 2 ^ 1900) : Sh 0 1921 (.int i) := by
  have hl : i.natAbs.log2 < 1920 := by
    by_cases h0 : i.natAbs = 0
    · rw [h0]; decide
    · exact (Nat.log2_lt h0).2 (Nat.lt_of_lt_of_le h (Nat.pow_le_pow_right (by decide) (by decide)))
  refine ⟨by simp only [PyData.showable, decide_eq_true_eq]; exact hl, by simp only [PyData.hasDict], by simp [PyData.depth], ?_⟩
  simp only [PyData.shown]
  exact int_text_len_1921 hl
theorem sh_txt {z : Str} (a : asc z) : Sh 0 (10 * z.length + 2) (.str z) := by
  refine ⟨rfl, rfl, by simp [PyData.depth], ?_⟩
  simp only [PyData.shown]
  exact StrLaws.reprText_len z fun c hc => Nat.lt_of_lt_of_le (a c hc) (by decide)
mutual
theorem ats_sh {j : Nat} (hj : j ≤ 100) : ∀ d : PyData, Ats j d → d.showable = true ∧ d.hasDict = false ∧ d.shown.length + 10 ≤ 2000 * sz d ∧ PyData.canLay0 d = true
  | .none, _ => by
    refine ⟨rfl, rfl, ?_, rfl⟩
    simp only [sz]
    decide
  | .bool b, _ => by
    refine ⟨rfl, rfl, ?_, rfl⟩
    simp only [sz]
    cases b <;> decide
  | .int i, a => by
    simp only [Ats] at a
    have s := sh_big (Nat.lt_of_lt_of_le a (Nat.pow_le_pow_right (show 0 < 2 by decide) (show 700 + j ≤ 1900 by omega)))
    refine ⟨s.sh, s.nd, ?_, rfl⟩
    have := s.ln
    simp only [sz]
    omega
  | .str z, a => by
    simp only [Ats] at a
    have s := sh_txt a.1
    refine ⟨s.sh, s.nd, ?_, ?_⟩
    · have := s.ln
      simp only [sz]
      omega
    · show PyData.strOk z = true
      unfold PyData.strOk
      simp only [Array.all_eq_true, Bool.and_eq_true]
      first
        | (intro i hi
           have := a.1 z.cps[i] (by simp)
           simp
           omega)
        | (have h := a.1
           simp
           omega)
  | .tuple xs, a => by
    simp only [Ats] at a
    obtain ⟨p, q, r, s, t⟩ := ats_shs hj xs a
    refine ⟨by simp only [PyData.showable, p], by simp only [PyData.hasDict, q], ?_, by simp only [PyData.canLay0, t]⟩
    simp only [PyData.shown, sz]
    have := tupleText_len_le (PyData.shownAll xs)
    rw [s] at this
    omega
  | .list xs, a => by
    simp only [Ats] at a
    obtain ⟨p, q, r, s, t⟩ := ats_shs hj xs a
    refine ⟨by simp only [PyData.showable, p], by simp only [PyData.hasDict, q], ?_, by simp only [PyData.canLay0, t]⟩
    simp only [PyData.shown, sz]
    have := listText_len_le (PyData.shownAll xs)
    rw [s] at this
    omega
  | .dict _, a => by simp [Ats] at a
theorem ats_shs {j : Nat} (hj : j ≤ 100) : ∀ ds : List PyData, AtsL j ds → PyData.showableAll ds = true ∧ PyData.hasDictAll ds = false ∧ ((PyData.shownAll ds).map (·.length)).sum + 10 * ds.length ≤ 2000 * szs ds ∧ (PyData.shownAll ds).length = ds.length ∧ PyData.canLayAll0 ds = true
  | [], _ => by simp [PyData.showableAll, PyData.hasDictAll, PyData.shownAll, szs, PyData.canLayAll0]
  | d :: ds, a => by
    simp only [AtsL] at a
    obtain ⟨p, q, r, s⟩ := ats_sh hj d a.1
    obtain ⟨p', q', r', s', t'⟩ := ats_shs hj ds a.2
    refine ⟨by simp only [PyData.showableAll, p, p', Bool.and_self], by simp only [PyData.hasDictAll, q, q', Bool.or_self], ?_, by simp only [PyData.shownAll, List.length_cons, s'], by simp only [PyData.canLayAll0, s, t', Bool.and_self]⟩
    simp only [PyData.shownAll, List.map_cons, List.sum_cons, szs, List.length_cons]
    omega
end
/-- of this size, this depth, with such ends -/
structure Fit (m k j : Nat) (d : PyData) : Prop where
  sz : sz d ≤ m
  dp : PyData.depth d ≤ k
  at_ : Ats j d
theorem Fit.mono {m m' k k' j j' : Nat} {d : PyData} (h : Fit m k j d) (a : m ≤ m') (b : k ≤ k') (c : j ≤ j') : Fit m' k' j' d := ⟨Nat.le_trans h.sz a, Nat.le_trans h.dp b, Ats.mono c d h.at_⟩
theorem Fit.sh {m k j : Nat} {d : PyData} (h : Fit m k j d) (hj : j ≤ 100) : Sh k (2000 * m) d := by
  obtain ⟨a, b, c, _⟩ := ats_sh hj d h.at_
  have := h.sz
  exact ⟨a, b, h.dp, by omega⟩
theorem Fit.shaped {m k j : Nat} {d : PyData} (h : Fit m k j d) (hj : j ≤ 100) (hk : k ≤ 60) : SeqAt.shaped d = true := by
  obtain ⟨_, _, _, a⟩ := ats_sh hj d h.at_
  have := h.dp
  unfold SeqAt.shaped
  rw [a, decide_eq_true (by omega)]
  rfl
theorem Fit.mem {m k j : Nat} {ds : List PyData} {d : PyData} (h : Fit m (k + 1) j (.tuple ds)) (hm : d ∈ ds) : Fit m k j d := by
  refine ⟨?_, ?_, Ats.tup.mp h.at_ d hm⟩
  · have := h.sz
    rw [sz_tup] at this
    have := szs_mem hm
    omega
  · have := h.dp
    rw [dep_tup] at this
    exact dep_all.mp (show PyData.depthAll ds ≤ k by omega) d hm
theorem fit_tup {m k j : Nat} {ds : List PyData} (hs : szs ds ≤ m) (h : ∀ d ∈ ds, PyData.depth d ≤ k ∧ Ats j d) : Fit (m + 1) (k + 1) j (.tuple ds) :=
  ⟨by rw [sz_tup]; omega, by rw [dep_tup]; have := dep_all.mpr fun d hd => (h d hd).1; omega, Ats.tup.mpr fun d hd => (h d hd).2⟩
theorem fit_lst {m k j : Nat} {ds : List PyData} (hs : szs ds ≤ m) (h : ∀ d ∈ ds, PyData.depth d ≤ k ∧ Ats j d) : Fit (m + 1) (k + 1) j (.list ds) :=
  ⟨by rw [sz_lst]; omega, by rw [dep_lst]; have := dep_all.mpr fun d hd => (h d hd).1; omega, Ats.lst.mpr fun d hd => (h d hd).2⟩
theorem dep_ints (ns : List Int) : ∀ d ∈ dInts ns, PyData.depth d = 0 := fun d hd => by
  obtain ⟨i, _, rfl⟩ := List.mem_map.mp hd
  simp [PyData.depth]
theorem szs_ints : ∀ ns : List Int, szs (dInts ns) = ns.length
  | [] => rfl
  | n :: ns => by
    show sz (.int n) + szs (dInts ns) = _
    rw [szs_ints ns]
    simp [sz]
    omega
theorem fit_ints {ns : List Int} {m j : Nat} (hl : ns.length ≤ m) (h : ∀ n ∈ ns, n.natAbs < 2 ^ (700 + j)) : Fit (m + 1) 1 j (.tuple (dInts ns)) :=
  fit_tup (by rw [szs_ints]; exact hl) fun d hd => ⟨by rw [dep_ints ns d hd]; exact Nat.le_refl _, by
    obtain ⟨i, hi, rfl⟩ := List.mem_map.mp hd
    simp only [Ats]
    exact h i hi⟩
end TB

set_option Elab.async false
set_option linter.all false
set_option maxRecDepth 100000
set_option maxHeartbeats 1000000
namespace K06
open PySem PySem.Spec PyProof.Rows L2 TB

/-! ### the text -/
def topS (i : Nat) : Stmt := PySem.Challenge.pw_tablebills_k06_whole_costs_bounded.main.body.getD i (.Pass ⟨0, 0, 0, 0⟩)
abbrev sNu : Stmt := topS 5
abbrev sWo : Stmt := topS 6
abbrev sCo : Stmt := topS 7
abbrev sTu : Stmt := topS 8
abbrev sAc : Stmt := topS 9
abbrev sRi : Stmt := topS 10
abbrev sRw : Stmt := topS 11
abbrev sMe : Stmt := topS 14
abbrev sMr : Stmt := topS 15
abbrev sAp : Stmt := topS 16
abbrev sOs : Stmt := topS 17
abbrev sOf : Stmt := topS 18
abbrev sPc : Stmt := topS 19
abbrev sRo : Stmt := topS 20
abbrev sPa : Stmt := topS 22
abbrev sCs : Stmt := topS 23
abbrev sFeed : Stmt := topS 25
abbrev sDraw : Stmt := topS 26
abbrev sAf : Stmt := topS 27
abbrev sWd : Stmt := topS 28
abbrev sPr : Stmt := topS 29
abbrev sMn : Stmt := topS 30
abbrev sLo : Stmt := topS 31
abbrev sLm : Stmt := topS 32
abbrev sOr : Stmt := topS 33
abbrev sRt : Stmt := topS 34
abbrev sLaw : Stmt := topS 35
theorem scFeed : FnScope ["_law_script"] ["_law_script"] (defScope sFeed) := ⟨rfl, rfl, rfl, by decide +kernel, rfl, by decide +kernel, by decide +kernel⟩
theorem scDraw : FnScope ["_law_feed_here", "_law_many", "_law_told", "_law_cell", "_law_turn", "_law_mixed"] ["_law_feed_here", "_law_many"] (defScope sDraw) := ⟨rfl, rfl, rfl, by decide +kernel, rfl, by decide +kernel, by decide +kernel⟩

/-! ### the feed: the script's numbers, a place, a rest, how many draws -/
structure Feed (H : Hp) (F S : Addr) (T : Int) : Prop where
  ex : ∃ (ns : List Int) (p r t : Int), H F = some (.lst [.ref S, .int p, .int r, .int t]) ∧ S ≠ F ∧ H S = some (.lst (ns.map V.int)) ∧ ns.length ≤ 1000 ∧ 0 ≤ p ∧ 0 ≤ r ∧ 0 ≤ t ∧ t ≤ T
theorem Feed.same {H H' : Hp} {F S : Addr} {T : Int} (e : Same H H') (h : Feed H F S T) : Feed H' F S T := by
  obtain ⟨ns, p, r, t, a, n, b, c⟩ := h.ex
  exact ⟨⟨ns, p, r, t, e _ _ a, n, e _ _ b, c⟩⟩
theorem Feed.there {H : Hp} {F S : Addr} {T : Int} (h : Feed H F S T) : ∃ zs, H F = some (.lst zs) := by
  obtain ⟨ns, p, r, t, a, _⟩ := h.ex
  exact ⟨_, a⟩
/-- a new place is neither the feed nor its numbers -/
theorem Feed.ne {H : Hp} {F S D : Addr} {T : Int} (h : Feed H F S T) (n : H D = none) : D ≠ F ∧ D ≠ S := by
  obtain ⟨ns, p, r, t, a, _, b, _⟩ := h.ex
  exact ⟨(ne_of_none a n).symm, (ne_of_none b n).symm⟩
theorem Feed.upd {H : Hp} {F S D : Addr} {T : Int} {o : HO} (h : Feed H F S T) (n : D ≠ F ∧ D ≠ S) : Feed (upd H D o) F S T := by
  obtain ⟨ns, p, r, t, a, k, b, c⟩ := h.ex
  exact ⟨⟨ns, p, r, t, by rw [upd_ne n.1.symm]; exact a, k, by rw [upd_ne n.2.symm]; exact b, c⟩⟩
theorem Feed.mono {H : Hp} {F S : Addr} {T T' : Int} (h : Feed H F S T) (l : T ≤ T') : Feed H F S T' := by
  obtain ⟨ns, p, r, t, a, n, b, c, d, e, f, g⟩ := h.ex
  exact ⟨⟨ns, p, r, t, a, n, b, c, d, e, f, by omega⟩⟩
section
variable {P : Program} {w : World} {K : PySem.W.Frag} {mg : Str → Option Value} {base : Heap}
/-! ### _law_feed -/
def spFeed (K : PySem.W.Frag) : Sp := fun vs H Q _ => ∃ (a : Addr) (ns : List Int), vs = [.ref a] ∧ SqL K H a (ns.map V.int) ∧ ns.length ≤ 1000 ∧
  ∀ H' F S, Same H H' → H F = none → Feed H' F S 0 → Q (.ref F) H'
theorem cutV_ints (ns : List Int) (lo hi : Option Int) : ∃ ms : List Int, cutV (ns.map V.int) lo hi = ms.map V.int ∧ ms.length ≤ ns.length := by
  unfold cutV
  refine ⟨(ns.drop (HT.sIx (ns.map V.int).length 0 lo)).take (HT.sIx (ns.map V.int).length (ns.map V.int).length hi - HT.sIx (ns.map V.int).length 0 lo), ?_, ?_⟩
  · rw [List.map_take, List.map_drop]
  · rw [List.length_take, List.length_drop]
    omega
theorem ok_feed {f : Addr} {fd : FuncData} {k : Nat} (F : Fun K "_law_feed" "_law_feed" sFeed f fd) : FnOk P w K mg base CX0 (k + 1) f fd ["_law_script"] (spFeed K) := by
  refine F.ok scFeed (fun vs H Q E h => ?_) (fun cdv A outer s H vs Q E hr h => ?_)
  · obtain ⟨a, ns, rfl, _⟩ := h
    rfl
  · obtain ⟨a, ns, rfl, hS, hl, q⟩ := h
    refine ⟨_, pss_one (ps_ret (pe_lst (pa_cons (pe_slice sl_list (pv 0) po_none (po_some pe_int)) (pa_cons pe_int (pa_cons pe_int (pa_cons pe_int pa_nil)))))), ?_⟩
    obtain ⟨ms, em, hm⟩ := cutV_ints ns none (some 63)
    refine ⟨.ref a, rfl, 63, rfl, a, _, rfl, hS, fun S nS => ⟨by show (4 : Nat) ≤ sizeLine; decide, fun L nL => ?_⟩⟩
    have s1 : Same H (upd H S (.lst (cutV (ns.map V.int) none (some 63)))) := same_upd nS
    have nSL : S ≠ L := fun e => by
      rw [← e, upd_same] at nL
      cases nL
    refine q _ L S (s1.trans (same_upd nL)) (s1.free nL) ⟨⟨ms, 0, 0, 0, upd_same, nSL, ?_, by omega, by omega, by omega, by omega, by omega⟩⟩
    rw [upd_ne nSL, upd_same, em]

/-! ### _law_draw -/
def spDraw : Sp := fun vs H Q _ => ∃ (F S : Addr) (m T : Int), vs = [.ref F, .int m] ∧ 0 < m ∧ m < 2 ^ 50 ∧ Feed H F S T ∧ T < 2 ^ 40 ∧
  ∀ H' v, But F H H' → Feed H' F S (T + 1) → 0 ≤ v → v < m → Q (.int v) H'
theorem eqv_nil : ∀ ns : List Int, PyData.eqv (.list (dInts ns)) (.list []) = decide (ns = [])
  | [] => by simp [dInts, PyData.eqv, PyData.eqvAll]
  | n :: ns => by simp [dInts, PyData.eqv, PyData.eqvAll]
theorem shaped_ints (ns : List Int) : SeqAt.shaped (.list (dInts ns)) = true := by
  have h : ∀ ms : List Int, PyData.canLayAll0 (dInts ms) = true ∧ PyData.depthAll (dInts ms) = 0 := by
    intro ms
    induction ms with
    | nil => exact ⟨rfl, rfl⟩
    | cons m ms ih => exact ⟨by simpa [dInts, PyData.canLayAll0, PyData.canLay0] using ih.1, by simpa [dInts, PyData.depthAll, PyData.depth] using ih.2⟩
  unfold SeqAt.shaped
  simp only [PyData.canLay0, PyData.depth, (h ns).1, (h ns).2]
  decide
theorem ok_draw {f : Addr} {fd : FuncData} {k : Nat} (F : Fun K "_law_draw" "_law_draw" sDraw f fd) (m_len : mg "len" = none) : FnOk P w K mg base CX0 (k + 1) f fd ["_law_feed_here", "_law_many"] spDraw := by
  refine F.ok scDraw (fun vs H Q E h => ?_) (fun cdv A outer s H vs Q E hr h => ?_)
  · obtain ⟨a, S, m, T, rfl, _⟩ := h
    rfl
  · obtain ⟨L, S, m, T, rfl, m0, m1, hF, hT, q⟩ := h
    refine ⟨_, (pss_cons (ps_augS (pv 0) pe_int get_list pe_int ip_add set_list)
      (pss_cons (ps_if (pt_cmpR op_gt (pe_ix ix_list (pv 0) pe_int (fun _ _ => rfl)) pe_int (nomark _)) (pss_cons (ps_set (i := 2) scDraw.nd rfl (.inl rfl) (pe_op op_mod (pe_ix ix_list (pv 0) pe_int (fun _ _ => rfl)) (pv 1)))
      (pss_cons (ps_asg (pe_op op_fdivW (pe_ix ix_list (pv 0) pe_int (fun _ _ => rfl)) (pv 1)) (pg_sub (pv 0) pe_int set_list))
      (pss_one (ps_ret (pv 2))))) pss_nil)
      (pss_cons (ps_set (i := 3) scDraw.nd rfl (.inl rfl) (pe_ifExp (pt_cmpR (op_eqD hr.units) (pe_ix ix_list (pv 0) pe_int (fun _ _ => rfl)) (pe_lst pa_nil) (nomark _)) pe_int (pe_ix ix_list (pe_ix ix_list (pv 0) pe_int (fun _ _ => rfl)) (pe_op op_mod (pe_ix ix_list (pv 0) pe_int (fun _ _ => rfl)) (pe_callB call_len_seq (by rfl) m_len (by decide +kernel) (pa_cons (pe_ix ix_list (pv 0) pe_int (fun _ _ => rfl)) pa_nil))) (fun _ _ => rfl))))
      (pss_cons (ps_augS (pv 0) pe_int get_list pe_int ip_add set_list)
      (pss_cons (ps_if (PW.pt (pw_and (pt_cmpR op_ge (pv 3) (pe_op op_pow pe_int pe_int) (nomark _)) (pw_and1 (pt_cmpR op_le (pe_ix ix_list (pv 0) pe_int (fun _ _ => rfl)) (pe_callB call_len_seq (by rfl) m_len (by decide +kernel) (pa_cons (pe_ix ix_list (pv 0) pe_int (fun _ _ => rfl)) pa_nil)) (nomark _))))) (pss_cons (ps_asg (pe_op op_fdivW (pv 3) (pv 1)) (pg_sub (pv 0) pe_int set_list))
      (pss_one (ps_ret (pe_op op_mod (pv 3) (pv 1))))) pss_nil)
      (pss_cons (ps_set (i := 4) scDraw.nd rfl (.inl rfl) (pe_ix ix_list (pv 0) pe_int (fun _ _ => rfl)))
      (pss_cons (ps_set (i := 5) scDraw.nd rfl (.inl rfl) (pe_op op_mod (pe_op op_add (pe_op op_add (pe_op op_mod (pv 3) pe_int) (pe_op op_mul (pe_op op_mul pe_int (pv 4)) (pv 4))) (pe_op op_mul pe_int (pv 4))) pe_int))
      (pss_cons (ps_set (i := 5) scDraw.nd rfl (.inl rfl) (pe_op op_mod (pe_op op_add (pe_op op_mul (pv 5) (pv 5)) (pe_op op_mul pe_int (pv 4))) pe_int))
      (pss_cons (ps_set (i := 5) scDraw.nd rfl (.inl rfl) (pe_op op_mod (pe_op op_add (pe_op op_mul (pv 5) (pv 5)) (pe_op op_mul pe_int (pv 4))) pe_int))
      (pss_one (ps_ret (pe_op op_mod (pe_op op_fdivW (pe_op op_mod (pe_op op_add (pe_op op_mul (pv 5) (pv 5)) (pv 4)) pe_int) pe_int) (pv 1))))))))))))), ?_⟩
    obtain ⟨ns, p, r, t, eF, nSF, hS, hn, p0, r0, t0, tT⟩ := hF.ex
    -- feed[3] += 1
    refine ⟨.ref L, rfl, L, _, 3, _, rfl, rfl, .inl (.inl eF), rfl, _, _, rfl, rfl, L, _, 3, 3, rfl, rfl, eF, rfl, ?_⟩
    generalize hH1 : upd H L (.lst (List.set [V.ref S, V.int p, V.int r, V.int t] 3 (V.int ((fun i j => i + j) t 1)))) = H1
    have e1 : H1 L = some (.lst [.ref S, .int p, .int r, .int (t + 1)]) := by
      rw [← hH1]
      exact upd_same
    have b1 : But L H H1 := by
      rw [← hH1]
      exact But.upd
    clear hH1
    have hS1 := b1 _ _ nSF hS
    have back : ∀ (H2 : Hp) (p' r' : Int) (v : Int), But L H H2 → H2 S = some (.lst (ns.map V.int)) → H2 L = some (.lst [.ref S, .int p', .int r', .int (t + 1)]) → 0 ≤ p' → 0 ≤ r' → 0 ≤ v → v < m → Q (.int v) H2 :=
      fun H2 p' r' v a hs b c d x y => q H2 v a ⟨⟨ns, p', r', t + 1, b, nSF, hs, hn, c, d, by omega, by omega⟩⟩ x y
    -- if feed[2] > 0
    refine ⟨.ref L, rfl, L, _, 2, _, rfl, rfl, .inl (.inl e1), atI_nat (j := 2) rfl, _, _, rfl, rfl, _, rfl, ite2 (fun c => ?_) (fun c => ?_)⟩
    · refine ⟨.ref L, rfl, L, _, 2, _, rfl, rfl, .inl (.inl e1), atI_nat (j := 2) rfl, _, rfl, r, m, rfl, rfl, m0, ?_⟩
      refine ⟨.ref L, rfl, L, _, 2, _, rfl, rfl, .inl (.inl e1), atI_nat (j := 2) rfl, _, rfl, r, m, rfl, rfl, wide_div (b := 60) m0 (by omega) (by omega) (by omega), ?_⟩
      refine ⟨.ref L, rfl, L, _, 2, 2, rfl, rfl, e1, rfl, ?_⟩
      have b2 : But L H1 (upd H1 L (.lst [.ref S, .int p, .int (r / m), .int (t + 1)])) := But.upd
      refine ⟨_, rfl, ?_⟩
      exact back _ p (r / m) (r % m) (b1.trans b2) (b2 _ _ nSF hS1) upd_same p0 (Int.ediv_nonneg r0 (by omega)) (Int.emod_nonneg _ (by omega)) (Int.emod_lt_of_pos _ m0)
    · -- the cell
      refine ⟨.ref L, rfl, L, _, 0, _, rfl, rfl, .inl (.inl e1), atI_nat (j := 0) rfl, Nat.zero_le _, fun z nz => ?_⟩
      have sz : Same H1 (upd H1 z (.lst [])) := same_upd nz
      generalize hH2 : upd H1 z (.lst []) = H2 at sz
      have ez : H2 z = some (.lst []) := by
        rw [← hH2]
        exact upd_same
      have b2 : But L H H2 := b1.same sz
      have e2 := sz _ _ e1
      have hS2 := sz _ _ hS1
      clear hH2
      refine ⟨.list (dInts ns), .list [], .lst (.inl (.inl hS2)) (dp_ints ns), .lst (.inl (.inl ez)) .nil, shaped_ints ns, rfl, _, rfl, ?_⟩
      rw [eqv_nil]
      refine ite2 (fun c => ?_) (fun c => ?_)
      rotate_left
      have hne : 0 < (ns.map V.int).length := by
        cases ns with
        | nil => exact absurd rfl c
        | cons x xs => simp
      have i0 := Int.emod_nonneg p (show ((ns.map V.int).length : Int) ≠ 0 by omega)
      have i1 := Int.emod_lt_of_pos p (show (0 : Int) < (ns.map V.int).length by omega)
      obtain ⟨j, hj⟩ : ∃ j : Nat, p % ((ns.map V.int).length : Int) = (j : Int) := ⟨_, (Int.toNat_of_nonneg i0).symm⟩
      have hjl : j < ns.length := by
        rw [hj, List.length_map] at i1
        omega
      have gj : (ns.map V.int)[j]? = some (.int ns[j]) := by
        rw [List.getElem?_map, List.getElem?_eq_getElem hjl]
        rfl
      refine ⟨.ref L, rfl, L, _, 0, _, rfl, rfl, .inl (.inl e2), atI_nat (j := 0) rfl, .ref L, rfl, L, _, 1, _, rfl, rfl, .inl (.inl e2), atI_nat (j := 1) rfl, .ref L, rfl, L, _, 0, _, rfl, rfl, .inl (.inl e2), atI_nat (j := 0) rfl, S, _, rfl, .inl (.inl (.inl hS2)), p, _, rfl, rfl, by omega, S, _, _, _, rfl, rfl, .inl (.inl hS2), (by rw [hj]; exact atI_nat gj), ?_⟩
      all_goals
        -- feed[1] += 1
        refine ⟨.ref L, rfl, L, _, 1, _, rfl, rfl, .inl (.inl e2), rfl, _, _, rfl, rfl, L, _, 1, 1, rfl, rfl, e2, rfl, ?_⟩
        generalize hH3 : upd H2 L (.lst (List.set [V.ref S, V.int p, V.int r, V.int (t + 1)] 1 (V.int ((fun i j => i + j) p 1)))) = H3
        have e3 : H3 L = some (.lst [.ref S, .int (p + 1), .int r, .int (t + 1)]) := by
          rw [← hH3]
          exact upd_same
        have b23 : But L H2 H3 := by
          rw [← hH3]
          exact But.upd
        have b3 := b2.trans b23
        have hS3 := b23 _ _ nSF hS2
        clear hH3
        have back3 : ∀ r' v : Int, 0 ≤ r' → 0 ≤ v → v < m → Q (.int v) (upd H3 L (.lst [.ref S, .int (p + 1), .int r', .int (t + 1)])) := fun r' v x y z =>
          have b34 : But L H3 (upd H3 L (.lst [.ref S, .int (p + 1), .int r', .int (t + 1)])) := But.upd
          back _ (p + 1) r' v (b3.trans b34) (b34 _ _ nSF hS3) upd_same (by omega) x y z
        -- if cell >= 10 ** 18 and ..
        refine ⟨_, rfl, _, _, rfl, rfl, ⟨by decide, by decide, by decide⟩, _, _, rfl, rfl, _, rfl, ite2 (fun c1 => ?_) (fun c1 => ?_)⟩
        · refine ⟨.ref L, rfl, L, _, 1, _, rfl, rfl, .inl (.inl e3), atI_nat (j := 1) rfl, .ref L, rfl, L, _, 0, _, rfl, rfl, .inl (.inl e3), atI_nat (j := 0) rfl, S, _, rfl, .inl (.inl (.inl hS3)), _, _, rfl, rfl, _, rfl, ite2 (fun c2 => ?_) (fun c2 => ?_)⟩
          · refine ⟨_, rfl, _, rfl, _, _, rfl, rfl, wide_div (b := 60) m0 (by omega) (by omega) (by omega), .ref L, rfl, L, _, 2, 2, rfl, rfl, e3, rfl, ?_⟩
            refine ⟨_, rfl, _, rfl, _, _, rfl, rfl, m0, ?_⟩
            exact back3 _ _ (Int.ediv_nonneg (Int.le_trans (by decide) (of_decide_eq_true c1)) (by omega)) (Int.emod_nonneg _ (by omega)) (Int.emod_lt_of_pos _ m0)
          · refine ⟨.ref L, rfl, L, _, 3, _, rfl, rfl, .inl (.inl e3), atI_nat (j := 3) rfl, ?_⟩
            refine ⟨_, rfl, _, _, rfl, rfl, (by show (0 : Int) < _; decide), _, rfl, _, _, rfl, rfl, .inl ⟨by decide, by decide⟩, _, rfl, _, _, rfl, rfl, .inr ⟨by omega, by omega⟩, _, _, rfl, rfl, _, rfl, _, _, rfl, rfl, .inl ⟨by decide, by decide⟩, _, _, rfl, rfl, _, _, rfl, rfl, (by show (0 : Int) < _; decide), ?_⟩
            refine ⟨_, rfl, _, rfl, _, _, rfl, rfl, .inl ⟨by omega, by omega⟩, _, rfl, _, _, rfl, rfl, .inl ⟨by decide, by decide⟩, _, _, rfl, rfl, _, _, rfl, rfl, (by show (0 : Int) < _; decide), ?_⟩
            refine ⟨_, rfl, _, rfl, _, _, rfl, rfl, .inl ⟨by omega, by omega⟩, _, rfl, _, _, rfl, rfl, .inl ⟨by decide, by decide⟩, _, _, rfl, rfl, _, _, rfl, rfl, (by show (0 : Int) < _; decide), ?_⟩
            refine ⟨_, rfl, _, rfl, _, _, rfl, rfl, .inl ⟨by omega, by omega⟩, _, rfl, _, _, rfl, rfl, _, _, rfl, rfl, (by show (0 : Int) < _; decide), _, _, rfl, rfl, wide_div (b := 60) (by decide) (by decide) (by omega) (by omega), _, rfl, _, _, rfl, rfl, m0, ?_⟩
            exact back H3 (p + 1) r _ b3 hS3 e3 (by omega) r0 (Int.emod_nonneg _ (by omega)) (Int.emod_lt_of_pos _ m0)
        · refine ⟨.ref L, rfl, L, _, 3, _, rfl, rfl, .inl (.inl e3), atI_nat (j := 3) rfl, ?_⟩
          refine ⟨_, rfl, _, _, rfl, rfl, (by show (0 : Int) < _; decide), _, rfl, _, _, rfl, rfl, .inl ⟨by decide, by decide⟩, _, rfl, _, _, rfl, rfl, .inr ⟨by omega, by omega⟩, _, _, rfl, rfl, _, rfl, _, _, rfl, rfl, .inl ⟨by decide, by decide⟩, _, _, rfl, rfl, _, _, rfl, rfl, (by show (0 : Int) < _; decide), ?_⟩
          refine ⟨_, rfl, _, rfl, _, _, rfl, rfl, .inl ⟨by omega, by omega⟩, _, rfl, _, _, rfl, rfl, .inl ⟨by decide, by decide⟩, _, _, rfl, rfl, _, _, rfl, rfl, (by show (0 : Int) < _; decide), ?_⟩
          refine ⟨_, rfl, _, rfl, _, _, rfl, rfl, .inl ⟨by omega, by omega⟩, _, rfl, _, _, rfl, rfl, .inl ⟨by decide, by decide⟩, _, _, rfl, rfl, _, _, rfl, rfl, (by show (0 : Int) < _; decide), ?_⟩
          refine ⟨_, rfl, _, rfl, _, _, rfl, rfl, .inl ⟨by omega, by omega⟩, _, rfl, _, _, rfl, rfl, _, _, rfl, rfl, (by show (0 : Int) < _; decide), _, _, rfl, rfl, wide_div (b := 60) (by decide) (by decide) (by omega) (by omega), _, rfl, _, _, rfl, rfl, m0, ?_⟩
          exact back H3 (p + 1) r _ b3 hS3 e3 (by omega) r0 (Int.emod_nonneg _ (by omega)) (Int.emod_lt_of_pos _ m0)
end
end K06

set_option Elab.async false
set_option linter.all false
set_option maxRecDepth 100000
set_option maxHeartbeats 2000000
namespace K06
open PySem PySem.Spec PyProof.Rows L2 TB

theorem scAf : FnScope ["_law_word_here", "_law_letters", "_law_at", "_law_sign"] ["_law_word_here"] (defScope sAf) := ⟨rfl, rfl, rfl, by decide +kernel, rfl, by decide +kernel, by decide +kernel⟩
/-- "a" * n -/
theorem op_mul_str {X : Cx} : OpR X (binaryOp .Mult) (fun x y H Q => ∃ z n, x = .str z ∧ y = .int n ∧ MulOk z n ∧ Q (.str (Txt.mul z n)) H) := by
  intro pins s σ H x y v u Q I rx ry h
  obtain ⟨z, n, rfl, rfl, hz, q⟩ := h
  obtain ⟨t, rfl⟩ := rx
  obtain ⟨t', rfl⟩ := ry
  exact PySem.SB.mul hz fun t' k => ⟨.str (Txt.mul z n), H, I.tok _, ⟨_, rfl⟩, q⟩
/-! ### letters -/
def abc : Str := "abcdefghijklmnopqrstuvwxyz"
def mkS (cs : List Nat) : Str := ⟨cs.toArray⟩
def nxt (c : Nat) : Nat := if c = 122 then 97 else c + 1
theorem mkS_len (cs : List Nat) : (mkS cs).length = cs.length := by
  show cs.toArray.size = _
  simp
theorem mkS_cps (cs : List Nat) : (mkS cs).cps.toList = cs := by
  show cs.toArray.toList = _
  simp
theorem mkS_app (as bs : List Nat) : mkS as ++ mkS bs = mkS (as ++ bs) := by
  show (⟨as.toArray ++ bs.toArray⟩ : Str) = ⟨(as ++ bs).toArray⟩
  simp
theorem abc_at : ∀ k : Fin 26, atI abc.cps.toList ((k.val : Nat) : Int) = some (97 + k.val) := by decide +kernel
theorem abc_find : ∀ k : Fin 26, Builtin.Str.occurrences abc (mkS [97 + k.val]) 0 abc.length 1 = [k.val] := by decide +kernel
theorem a_times : ∀ k : Fin 8, Txt.mul (Str.ofString "a") ((k.val : Nat) : Int) = mkS (List.replicate k.val 97) ∧ MulOk (Str.ofString "a") ((k.val : Nat) : Int) := by
  unfold MulOk
  decide +kernel
theorem rep_snoc (n c : Nat) (r : List Nat) : List.replicate n c ++ c :: r = c :: (List.replicate n c ++ r) := by
  induction n with
  | zero => rfl
  | succ n ih => rw [List.replicate_succ, List.cons_append, ih, List.cons_append]
theorem incR_run : ∀ (n c : Nat) (r : List Nat), (r = [] ∨ c ≠ 122) → incR (List.replicate n 122 ++ c :: r) = List.replicate n 97 ++ nxt c :: r
  | 0, c, r, h => by
    show incR (c :: r) = nxt c :: r
    cases r with
    | nil => rfl
    | cons d r =>
      rcases h with z | z
      · cases z
      · unfold incR nxt
        rw [if_neg z, if_neg z]
  | n + 1, c, r, h => by
    have ih := incR_run n c r h
    rw [List.replicate_succ, List.replicate_succ, List.cons_append, List.cons_append, ← ih]
    cases n with
    | zero => rfl
    | succ n => rfl
/-- as the law writes it -/
theorem aft_cut {cs : List Nat} {a c : Nat} (h8 : cs.length = 8) (ha : a ≤ 7) (hc : cs[a]? = some c) (hz : ∀ i, a < i → i ≤ 7 → cs[i]? = some 122) (h : a = 0 ∨ c ≠ 122) :
    aft cs = (cs.take a ++ [nxt c]) ++ List.replicate (7 - a) 97 := by
  have e : cs = cs.take a ++ c :: List.replicate (7 - a) 122 := by
    refine List.ext_getElem? fun i => ?_
    by_cases i1 : i < a
    · rw [List.getElem?_append_left (by rw [List.length_take]; omega), List.getElem?_take_of_lt i1]
    · have tl : (cs.take a).length = a := by rw [List.length_take]; omega
      rw [List.getElem?_append_right (by omega), tl]
      by_cases i2 : i = a
      · rw [i2, Nat.sub_self]
        exact hc
      · obtain ⟨k, rfl⟩ : ∃ k, i = a + 1 + k := ⟨i - a - 1, by omega⟩
        have e1 : a + 1 + k - a = k + 1 := by omega
        rw [e1, List.getElem?_cons_succ]
        by_cases i3 : a + 1 + k ≤ 7
        · rw [hz _ (by omega) i3, List.getElem?_replicate, if_pos (by omega)]
        · rw [List.getElem?_eq_none (by omega), List.getElem?_replicate, if_neg (by omega)]
  unfold aft
  rw [if_neg (by omega)]
  have er : cs.reverse = List.replicate (7 - a) 122 ++ c :: (cs.take a).reverse := by
    conv => lhs; rw [e]
    rw [List.reverse_append, List.reverse_cons, List.reverse_replicate, List.append_assoc]
    rfl
  rw [er, incR_run _ _ _ (by
    rcases h with z | z
    · left
      rw [z]
      rfl
    · exact .inr z), List.reverse_append, List.reverse_cons, List.reverse_replicate, List.reverse_reverse]
end K06

set_option Elab.async false
set_option linter.all false
set_option maxRecDepth 100000
set_option maxHeartbeats 2000000
namespace K06
open PySem PySem.Spec PyProof.Rows L2 TB

theorem cutS_take (cs : List Nat) (n : Nat) : cutS (mkS cs) none (some (n : Int)) = mkS (cs.take n) := by
  unfold cutS
  rw [HT.sIx_nat, HT.sIx_none, List.drop_zero, Nat.sub_zero, mkS_cps, mkS_len]
  show mkS (cs.take (min n cs.length)) = _
  by_cases c : n ≤ cs.length
  · rw [Nat.min_eq_left c]
  · rw [Nat.min_eq_right (by omega), List.take_length, List.take_of_length_le (by omega)]
section
variable {P : Program} {w : World} {K : PySem.W.Frag} {mg : Str → Option Value} {base : Heap}
/-! ### _law_after -/
def spAf : Sp := fun vs H Q _ => ∃ cs : List Nat, vs = [.str (mkS cs)] ∧ Wd cs ∧ Q (.str (mkS (aft cs))) H
theorem ok_af {f : Addr} {fd : FuncData} {k : Nat} (F : Fun K "_law_after" "_law_after" sAf f fd) (m_len : mg "len" = none) : FnOk P w K mg base CX0 (k + 1) f fd ["_law_word_here"] spAf := by
  refine F.ok scAf (fun vs H Q E h => ?_) (fun cdv A outer s H vs Q E hr h => ?_)
  · obtain ⟨cs, rfl, _⟩ := h
    rfl
  · obtain ⟨cs, rfl, wd, q⟩ := h
    refine ⟨_, (pss_cons (ps_set (i := 1) scAf.nd rfl (.inl rfl) pe_str)
      (pss_cons (ps_if (pt_cmpR op_lt (pe_callB call_len_str (by rfl) m_len (by decide +kernel) (pa_cons (pv 0) pa_nil)) pe_int (nomark _)) (pss_one (ps_ret (pe_op op_add_str (pv 0) pe_str))) pss_nil)
      (pss_cons (ps_set (i := 2) scAf.nd rfl (.inl rfl) pe_int)
      (pss_cons (ps_cut (ps_while PassesOwn.never (PW.pt (pw_and (pt_cmpR op_gt (pv 2) pe_int (nomark _)) (pw_and1 (pt_cmpR op_eq (pe_ix ix_str (pv 0) (pv 2) (fun _ _ => rfl)) pe_str (nomark _))))) (pss_one (ps_aug (i := 2) scAf.nd rfl (.inl rfl) pe_int ip_sub))))
      (pss_cons (ps_set (i := 3) scAf.nd rfl (.inl rfl) (pe_ix ix_str (pv 1) (pe_op op_mod (pe_op op_add (pe_bm PySem.F.plainAttrs_str PySem.F.slot_str_index PySem.F.type_str_index mt_sindex (pv 1) (pa_cons (pe_ix ix_str (pv 0) (pv 2) (fun _ _ => rfl)) pa_nil)) pe_int) pe_int) (fun _ _ => rfl)))
      (pss_one (ps_ret (pe_op op_add_str (pe_op op_add_str (pe_slice sl_str (pv 0) po_none (po_some (pv 2))) (pv 3)) (pe_op op_mul_str pe_str (pe_op op_sub pe_int (pv 2))))))))))), ?_⟩
    have n1 := wd.n1
    have sz : ∀ {n : Nat}, n ≤ 1000 → n ≤ sizeLine := fun {n} h => by rw [sizeLine_eq]; omega
    show tSeq _ _ _ [some (.str (mkS cs)), some (.str abc), none, none] _
    refine ⟨_, rfl, mkS cs, rfl, sz (by rw [mkS_len]; omega), _, _, rfl, rfl, _, rfl, ?_⟩
    change ite _ _ _
    refine ite2 (fun c => ?_) (fun c => ?_)
    · have c' : cs.length < 8 := by
        have := of_decide_eq_true c
        rw [mkS_len] at this
        omega
      refine ⟨_, rfl, mkS cs, Str.ofString "a", rfl, rfl, sz (by rw [mkS_len]; show cs.length + 1 ≤ 1000; omega), ?_⟩
      have ea : Str.ofString "a" = mkS [97] := by decide +kernel
      have e : aft cs = cs ++ [97] := if_pos c'
      rw [e, ← mkS_app, ← ea] at q
      exact q
    · have c' : cs.length = 8 := by
        have : ¬ ((mkS cs).length : Int) < 8 := fun z => c (decide_eq_true z)
        rw [mkS_len] at this
        omega
      refine ⟨fun σ' H' => ∃ a c : Nat, σ' = [some (.str (mkS cs)), some (.str abc), some (.int (a : Int)), none] ∧ H' = H ∧ a ≤ 7 ∧ cs[a]? = some c ∧ (∀ i, a < i → i ≤ 7 → cs[i]? = some 122) ∧ (a = 0 ∨ c ≠ 122), ?_, ?_⟩
      · refine ⟨fun m σ H' => ∃ a : Nat, a ≤ 7 ∧ m = a ∧ σ = [some (.str (mkS cs)), some (.str abc), some (.int (a : Int)), none] ∧ H' = H ∧ ∀ i, a < i → i ≤ 7 → cs[i]? = some 122, ⟨7, 7, Nat.le_refl _, rfl, rfl, rfl, fun i h1 h2 => by omega⟩, ?_⟩
        rintro a σ H' ⟨_, ha, rfl, rfl, rfl, hz⟩
        have hc : cs[a]? = some (cs.getD a 0) := by
          rw [List.getElem?_eq_getElem (by omega), List.getD_eq_getElem?_getD, List.getElem?_eq_getElem (by omega)]
          rfl
        generalize cs.getD a 0 = x at *
        have hat : atI (mkS cs).cps.toList (a : Int) = some x := by
          rw [mkS_cps]
          exact atI_nat hc
        have szc : (mkS cs).length ≤ sizeLine := sz (by rw [mkS_len]; omega)
        refine ⟨_, rfl, _, _, rfl, rfl, _, rfl, ?_⟩
        change ite _ _ _
        refine ite2 (fun c1 => ?_) (fun c1 => ?_)
        · have a0 : 0 < a := by
            have := of_decide_eq_true c1
            omega
          refine ⟨_, rfl, _, rfl, mkS cs, (a : Int), x, rfl, rfl, szc, hat, rfl, _, rfl, ?_⟩
          change ite _ _ _
          refine ite2 (fun c2 => ?_) (fun c2 => ?_)
          · have x2 : x = 122 := by
              have := V.str.inj (of_decide_eq_true c2)
              have := congrArg (fun z : Str => z.cps.toList) this
              simp at this
              first
                | exact this
                | (have h9 : ([x] : List Nat) = [122] := this; exact (List.cons.inj h9).1)
            refine ⟨fun σ' H2 => ∃ b : Nat, b + 1 = a ∧ σ' = [some (.str (mkS cs)), some (.str abc), some (.int (b : Int)), none] ∧ H2 = H', ?_, ?_⟩
            · rintro σ' H2 ⟨b, rfl, rfl, rfl⟩
              refine ⟨b, Nat.lt_succ_self _, b, by omega, rfl, rfl, rfl, fun i h1 h2 => ?_⟩
              by_cases e : i = b + 1
              · rw [e, hc, x2]
              · exact hz i (by omega) h2
            · refine ⟨_, rfl, _, _, rfl, rfl, a - 1, by omega, ?_, rfl⟩
              have : ((a - 1 : Nat) : Int) = (a : Int) - 1 := by omega
              rw [this]
              rfl
          · refine ⟨a, x, rfl, rfl, ha, hc, hz, .inr fun e => c2 (decide_eq_true ?_)⟩
            rw [e]
            rfl
        · refine iteF ⟨a, _, rfl, rfl, ha, hc, hz, .inl ?_⟩
          exact Decidable.byContradiction fun e => c1 (decide_eq_true (by omega))
      rintro σ H' ⟨a, x, rfl, rfl, ha, hc, hz, hx⟩
      have lt := wd.lt _ (List.mem_of_getElem? hc)
      have hat : atI (mkS cs).cps.toList (a : Int) = some x := by
        rw [mkS_cps]
        exact atI_nat hc
      have szc : (mkS cs).length ≤ sizeLine := sz (by rw [mkS_len]; omega)
      obtain ⟨k, rfl, hk⟩ : ∃ k : Nat, x = 97 + k ∧ k < 26 := ⟨x - 97, by have := lt.1; omega, by have := lt.2; omega⟩
      have fnd := abc_find ⟨k, hk⟩
      have abl : abc.length ≤ sizeLine := sz (by decide +kernel)
      have hn : atI abc.cps.toList (((k : Int) + 1) % 26) = some (nxt (97 + k)) := by
        by_cases e : k = 25
        · subst e
          decide +kernel
        · have e1 : ((k : Int) + 1) % 26 = ((k + 1 : Nat) : Int) := by omega
          rw [e1, abc_at ⟨k + 1, by omega⟩]
          unfold nxt
          rw [if_neg (by omega)]
          rfl
      refine ⟨_, rfl, _, rfl, rfl, ?_⟩
      refine ⟨_, rfl, _, rfl, mkS cs, (a : Int), 97 + k, rfl, rfl, szc, hat, abc, mkS [97 + k], k, [], rfl, rfl, fnd, _, _, rfl, rfl, _, _, rfl, rfl, by show (0 : Int) < 26; decide, abc, _, nxt (97 + k), rfl, rfl, abl, hn, ?_⟩
      refine ⟨_, rfl, _, rfl, _, rfl, ?_⟩
      try (show rSlS _ none (some (a : Int)) _ _)
      have ecut : cutS (mkS cs) none (some (a : Int)) = mkS (cs.take a) := cutS_take cs a
      refine ⟨mkS cs, rfl, szc, ?_⟩
      rw [ecut]
      refine ⟨_, rfl, mkS (cs.take a), mkS [nxt (97 + k)], rfl, rfl, sz (by rw [mkS_len, mkS_len, List.length_take]; show _ + 1 ≤ 1000; omega), ?_⟩
      obtain ⟨em, mo⟩ := a_times ⟨7 - a, by omega⟩
      have e7 : ((7 - a : Nat) : Int) = 7 - (a : Int) := by omega
      rw [e7] at em mo
      refine ⟨_, rfl, _, _, rfl, rfl, Str.ofString "a", 7 - (a : Int), rfl, rfl, mo, ?_⟩
      rw [em, mkS_app]
      refine ⟨_, _, rfl, rfl, sz (by rw [mkS_len, mkS_len, List.length_append, List.length_take, List.length_replicate]; show _ + 1 + _ ≤ 1000; omega), ?_⟩
      rw [mkS_app, ← aft_cut c' ha hc hz hx]
      exact q
end
end K06

set_option Elab.async false
set_option linter.all false
set_option maxRecDepth 100000
set_option maxHeartbeats 2000000
namespace K06
open PySem PySem.Spec PyProof.Rows L2 TB

theorem scWd : FnScope ["_law_feed_here", "_law_found", "_law_letters", "_law_way", "_law_word_here", "_law_k", "_law_own"] ["_law_feed_here", "_law_found"] (defScope sWd) := ⟨rfl, rfl, rfl, by decide +kernel, rfl, by decide +kernel, by decide +kernel⟩
def wStrs (ws : List (List Nat)) : List V := ws.map fun c => V.str (mkS c)
theorem mkS_inj {a b : List Nat} (h : mkS a = mkS b) : a = b := by
  have := congrArg (fun z : Str => z.cps.toList) h
  simp only [mkS_cps] at this
  exact this
theorem wStrs_flat (ws : List (List Nat)) : (wStrs ws).all flatV = true := by
  rw [List.all_eq_true]
  intro x hx
  obtain ⟨c, _, rfl⟩ := List.mem_map.mp hx
  rfl
theorem in_wStrs (c : List Nat) (ws : List (List Nat)) : inV (.str (mkS c)) (wStrs ws) = decide (c ∈ ws) := by
  unfold inV wStrs
  rw [List.any_map]
  by_cases h : c ∈ ws
  · rw [decide_eq_true h, List.any_eq_true]
    refine ⟨c, h, ?_⟩
    show (mkS c == mkS c) = true
    exact beq_self_eq_true _
  · rw [decide_eq_false h, List.any_eq_false]
    intro x hx z
    have e : (mkS x == mkS c) = true := z
    exact h (mkS_inj (eq_of_beq e) ▸ hx)
theorem abc_pick {v : Int} (h0 : 0 ≤ v) (h1 : v < 26) : ∃ c, Lt c ∧ atI abc.cps.toList v = some c := by
  obtain ⟨k, rfl⟩ := Int.eq_ofNat_of_zero_le h0
  exact ⟨97 + k, ⟨by omega, by omega⟩, abc_at ⟨k, by omega⟩⟩
theorem abc_size : abc.length ≤ sizeLine := by rw [sizeLine_eq]; decide +kernel
theorem Wd.one {c : Nat} (h : Lt c) : Wd [c] := ⟨Nat.zero_lt_one, by show (1 : Nat) ≤ 8; decide, fun x hx => by rw [List.mem_singleton.mp hx]; exact h⟩
theorem Wd.snoc {cs : List Nat} {c : Nat} (h : ∀ x ∈ cs, Lt x) (hl : cs.length ≤ 7) (hc : Lt c) : Wd (cs ++ [c]) := by
  refine ⟨by rw [List.length_append]; exact Nat.lt_of_lt_of_le (by decide : 0 < 1) (Nat.le_add_left _ _), by rw [List.length_append]; show _ + 1 ≤ 8; omega, fun x hx => ?_⟩
  rcases List.mem_append.mp hx with z | z
  · exact h x z
  · rw [List.mem_singleton.mp z]
    exact hc
theorem Wd.take {cs : List Nat} {n : Nat} (h : Wd cs) (hn : 0 < n) : Wd (cs.take n) := by
  have := h.n0
  have := h.n1
  exact ⟨by rw [List.length_take]; omega, by rw [List.length_take]; omega, fun x hx => h.lt x (List.mem_of_mem_take hx)⟩
def dStrs (ws : List (List Nat)) : List PyData := ws.map fun c => PyData.str (mkS c)
theorem eqv_wStrs : ∀ ws : List (List Nat), PyData.eqv (.list (dStrs ws)) (.list []) = decide (ws = [])
  | [] => by simp [dStrs, PyData.eqv, PyData.eqvAll]
  | n :: ns => by simp [dStrs, PyData.eqv, PyData.eqvAll]
theorem szs_dStrs : ∀ ws : List (List Nat), szs (dStrs ws) = ws.length
  | [] => rfl
  | n :: ns => by
    show sz (.str (mkS n)) + szs (dStrs ns) = _
    rw [szs_dStrs ns]
    simp [sz]
    omega
theorem fit_wStrs {ws : List (List Nat)} (wd : ∀ c ∈ ws, Wd c) (wl : ws.length ≤ 30) : Fit 31 1 0 (.list (dStrs ws)) := fit_lst (by rw [szs_dStrs]; exact wl) fun d hd => by
  obtain ⟨c, hc, rfl⟩ := List.mem_map.mp hd
  refine ⟨by simp [PyData.depth], ?_⟩
  simp only [Ats]
  refine ⟨fun x hx => ?_, ?_⟩
  · rw [mkS_cps] at hx
    have := ((wd c hc).lt x hx).2
    omega
  · rw [mkS_len]
    have := (wd c hc).n1
    omega
section
variable {P : Program} {w : World} {K : PySem.W.Frag} {mg : Str → Option Value} {base : Heap}
theorem dp_wStrs {H : Hp} : ∀ ws : List (List Nat), DpAll K H (wStrs ws) (dStrs ws)
  | [] => .nil
  | c :: ws => .cons (.str _) (dp_wStrs ws)
/-! ### _law_word -/
def spWd (K : PySem.W.Frag) : Sp := fun vs H Q _ => ∃ (L S X : Addr) (T : Int) (ws : List (List Nat)), vs = [.ref L, .ref X] ∧ Feed H L S T ∧ T < 2 ^ 39 ∧ H X = some (.lst (wStrs ws)) ∧ X ≠ L ∧ (∀ c ∈ ws, Wd c) ∧ ws.length ≤ 30 ∧
  ∀ (H' : Hp) (cs : List Nat), But L H H' → Feed H' L S (T + 20) → Wd cs → cs ∉ ws → Q (.str (mkS cs)) H'
theorem ok_wd {f fR fA : Addr} {fd fdR fdA : FuncData} (F : Fun K "_law_word" "_law_word" sWd f fd)
    (GDr : FnOk P w K mg base CX0 1 fR fdR ["_law_feed_here", "_law_many"] spDraw) (kDr : PySem.W.keepIn K (.ref fR) = true) (bDr : Binds K fdR ["_law_feed_here", "_law_many"] []) (gDr : mg "_law_draw" = some (.ref fR))
    (GAf : FnOk P w K mg base CX0 1 fA fdA ["_law_word_here"] spAf) (kAf : PySem.W.keepIn K (.ref fA) = true) (bAf : Binds K fdA ["_law_word_here"] []) (gAf : mg "_law_after" = some (.ref fA))
    (m_range : mg "range" = none) (m_len : mg "len" = none) : FnOk P w K mg base CX0 2 f fd ["_law_feed_here", "_law_found"] (spWd K) := by
  refine F.ok scWd (fun vs H Q E h => ?_) (fun cdv A outer s H vs Q E hr h => ?_)
  · obtain ⟨L, S, X, T, ws, rfl, _⟩ := h
    rfl
  · obtain ⟨L, S, X, T, ws, rfl, f0, T0, eX, nX, wd, wl, q⟩ := h
    refine ⟨_, (pss_cons (ps_set (i := 2) scWd.nd rfl (.inl rfl) pe_str)
      (pss_cons (ps_set (i := 3) scWd.nd rfl (.inl rfl) (pe_call GDr (hr.mono (by decide)) (by rfl) gDr kDr bDr .nil pass0 (pa_cons (pv 0) (pa_cons pe_int pa_nil))))
      (pss_cons (ps_set (i := 4) scWd.nd rfl (.inl rfl) (pe_ix ix_str (pv 2) (pe_call GDr (hr.mono (by decide)) (by rfl) gDr kDr bDr .nil pass0 (pa_cons (pv 0) (pa_cons pe_int pa_nil))) (fun _ _ => rfl)))
      (pss_cons (ps_cut (ps_if (PW.pt (pw_or (pt_cmpR op_gt (pv 3) pe_int (nomark _)) (pw_or1 (pt_cmpR (op_eqD hr.units) (pv 1) (pe_lst pa_nil) (nomark _))))) (pss_one (ps_for PassesOwn.never rfl (pi_range1 (by rfl) m_range (pa_cons (pe_call GDr (hr.mono (by decide)) (by rfl) gDr kDr bDr .nil pass0 (pa_cons (pv 0) (pa_cons pe_int pa_nil))) pa_nil)) (pg_name (i := 5) scWd.nd rfl (.inl rfl)) (pss_one (ps_set (i := 4) scWd.nd rfl (.inl rfl) (pe_op op_add_str (pv 4) (pe_ix ix_str (pv 2) (pe_call GDr (hr.mono (by decide)) (by rfl) gDr kDr bDr .nil pass0 (pa_cons (pv 0) (pa_cons pe_int pa_nil))) (fun _ _ => rfl))))))) (pss_cons (ps_set (i := 6) scWd.nd rfl (.inl rfl) (pe_ix ix_list (pv 1) (pe_call GDr (hr.mono (by decide)) (by rfl) gDr kDr bDr .nil pass0 (pa_cons (pv 0) (pa_cons (pe_callB call_len_seq (by rfl) m_len (by decide +kernel) (pa_cons (pv 1) pa_nil)) pa_nil))) (fun _ _ => rfl)))
      (pss_one (ps_set (i := 4) scWd.nd rfl (.inl rfl) (pe_ifExp (pt_cmpR op_eq (pv 3) pe_int (nomark _)) (pe_slice sl_str (pv 6) po_none (po_some (pe_op op_add pe_int (pe_call GDr (hr.mono (by decide)) (by rfl) gDr kDr bDr .nil pass0 (pa_cons (pv 0) (pa_cons (pe_callB call_len_str (by rfl) m_len (by decide +kernel) (pa_cons (pv 6) pa_nil)) pa_nil)))))) (pe_op op_add_str (pe_slice sl_str (pv 6) po_none (po_some pe_int)) (pe_ix ix_str (pv 2) (pe_call GDr (hr.mono (by decide)) (by rfl) gDr kDr bDr .nil pass0 (pa_cons (pv 0) (pa_cons pe_int pa_nil))) (fun _ _ => rfl)))))))))
      (pss_cons (ps_for PassesOwn.never rfl (pi_range1 (by rfl) m_range (pa_cons pe_int pa_nil)) (pg_name (i := 5) scWd.nd rfl (.inl rfl)) (pss_cons (ps_if (pt_cmpR op_notIn_seq (pv 4) (pv 1) (by rfl)) (pss_one ps_break) pss_nil)
      (pss_one (ps_set (i := 4) scWd.nd rfl (.inl rfl) (pe_call GAf (hr.mono (by decide)) (by rfl) gAf kAf bAf .nil pass0 (pa_cons (pv 4) pa_nil))))))
      (pss_one (ps_ret (pv 4)))))))), ?_⟩
    refine ⟨_, rfl, L, S, 5, T, rfl, by decide, by decide, f0, by omega, fun H1 v1 k1 f1 l1 u1 => ?_⟩
    refine ⟨.str abc, rfl, _, rfl, L, S, 26, _, rfl, by decide, by decide, f1, by omega, fun H2 v2 k2 f2 l2 u2 => ?_⟩
    obtain ⟨c2, lt2, hc2⟩ := abc_pick l2 u2
    refine ⟨abc, v2, c2, rfl, rfl, abc_size, hc2, ?_⟩
    show tSeq _ _ _ [some (.ref L), some (.ref X), some (.str abc), some (.int v1), some (.str (mkS [c2])), none, none] _
    have eX2 := k2 _ _ nX (k1 _ _ nX eX)
    have kk2 := k1.trans k2
    refine ⟨fun σ' H' => ∃ cs y5 y6, σ' = [some (.ref L), some (.ref X), some (.str abc), some (.int v1), some (.str (mkS cs)), y5, y6] ∧ But L H H' ∧ Feed H' L S (T + 20) ∧ Wd cs, ?_, ?_⟩
    · refine ⟨_, rfl, _, _, rfl, rfl, _, rfl, ite2 (fun c => ?_) (fun c => ?_)⟩
      · change ite _ _ _
        refine iteT ?_
        have s3 := Same.refl H2
        refine ⟨_, rfl, L, S, 8, _, rfl, by decide, by decide, f2.same s3, by omega, fun H4 n k4 f4 l4 u4 => ⟨n, rfl, by omega, by omega, ?_⟩⟩
        refine for_range (lo := 0) (n := n.toNat) (fun i σ H5 => ∃ cs y5, σ = [some (.ref L), some (.ref X), some (.str abc), some (.int v1), some (.str (mkS cs)), y5, none] ∧ But L H H5 ∧ Feed H5 L S (T + 3 + i) ∧ Wd cs ∧ cs.length = i + 1)
          ⟨[c2], _, rfl, (kk2.same s3).trans k4, f4.mono (by omega), Wd.one lt2, rfl⟩ ?_ ?_
        · rintro i σ H5 hi ⟨cs, y5, rfl, k5, f5, wc, cl⟩
          refine ⟨_, rfl, .str abc, rfl, _, rfl, L, S, 26, _, rfl, by decide, by decide, f5, by omega, fun H6 v6 k6 f6 l6 u6 => ?_⟩
          obtain ⟨c6, lt6, hc6⟩ := abc_pick l6 u6
          refine ⟨abc, v6, c6, rfl, rfl, abc_size, hc6, mkS cs, mkS [c6], rfl, rfl, ?_, ?_⟩
          · rw [mkS_len, mkS_len, sizeLine_eq]
            show cs.length + 1 ≤ _
            omega
          · refine ⟨cs ++ [c6], some (.int (0 + (i : Int))), ?_, k5.trans k6, f6.mono (by push_cast; omega), Wd.snoc wc.lt (by omega) lt6, by rw [List.length_append, cl]; rfl⟩
            rw [← mkS_app]
            rfl
        · rintro σ H5 ⟨cs, y5, rfl, k5, f5, wc, cl⟩
          exact ⟨cs, _, _, rfl, k5, f5.mono (by omega), wc⟩
      · refine ⟨_, rfl, Nat.zero_le _, fun z3 nz3 => ?_⟩
        have s3 := same_upd (o := .lst []) nz3
        have eZ : (upd H2 z3 (.lst [])) z3 = some (.lst []) := upd_same
        generalize upd H2 z3 (.lst []) = H3 at *
        have eX3 := s3 _ _ eX2
        refine ⟨.list (dStrs ws), .list [], .lst (.inl (.inl eX3)) (dp_wStrs ws), .lst (.inl (.inl eZ)) .nil, (fit_wStrs wd wl).shaped (by decide) (by decide), rfl, _, rfl, ?_⟩
        rw [eqv_wStrs]
        change ite _ _ _
        refine ite2 (fun c3 => ?_) (fun c3 => ?_)
        · skip
          refine ⟨_, rfl, L, S, 8, _, rfl, by decide, by decide, f2.same s3, by omega, fun H4 n k4 f4 l4 u4 => ⟨n, rfl, by omega, by omega, ?_⟩⟩
          refine for_range (lo := 0) (n := n.toNat) (fun i σ H5 => ∃ cs y5, σ = [some (.ref L), some (.ref X), some (.str abc), some (.int v1), some (.str (mkS cs)), y5, none] ∧ But L H H5 ∧ Feed H5 L S (T + 3 + i) ∧ Wd cs ∧ cs.length = i + 1)
            ⟨[c2], _, rfl, (kk2.same s3).trans k4, f4.mono (by omega), Wd.one lt2, rfl⟩ ?_ ?_
          · rintro i σ H5 hi ⟨cs, y5, rfl, k5, f5, wc, cl⟩
            refine ⟨_, rfl, .str abc, rfl, _, rfl, L, S, 26, _, rfl, by decide, by decide, f5, by omega, fun H6 v6 k6 f6 l6 u6 => ?_⟩
            obtain ⟨c6, lt6, hc6⟩ := abc_pick l6 u6
            refine ⟨abc, v6, c6, rfl, rfl, abc_size, hc6, mkS cs, mkS [c6], rfl, rfl, ?_, ?_⟩
            · rw [mkS_len, mkS_len, sizeLine_eq]
              show cs.length + 1 ≤ _
              omega
            · refine ⟨cs ++ [c6], some (.int (0 + (i : Int))), ?_, k5.trans k6, f6.mono (by push_cast; omega), Wd.snoc wc.lt (by omega) lt6, by rw [List.length_append, cl]; rfl⟩
              rw [← mkS_app]
              rfl
          · rintro σ H5 ⟨cs, y5, rfl, k5, f5, wc, cl⟩
            exact ⟨cs, _, _, rfl, k5, f5.mono (by omega), wc⟩
        · have w0 : 0 < ws.length := by
            cases ws with
            | nil => exact absurd rfl c3
            | cons x ws => exact Nat.succ_pos _
          have wsl : (wStrs ws).length = ws.length := List.length_map _
          refine ⟨_, rfl, _, rfl, _, rfl, X, _, rfl, .inl (.inl (.inl eX3)), L, S, _, _, rfl, by rw [wsl]; omega, by rw [wsl]; omega, f2.same s3, by omega, fun H4 v4 k4 f4 l4 u4 => ?_⟩
          obtain ⟨j, rfl⟩ := Int.eq_ofNat_of_zero_le l4
          have hj : j < ws.length := by
            rw [wsl] at u4
            omega
          have ej : (wStrs ws)[j]? = some (.str (mkS ws[j])) := by
            unfold wStrs
            rw [List.getElem?_map, List.getElem?_eq_getElem hj]
            rfl
          have wo := wd _ (List.getElem_mem hj)
          generalize ws[j] = own at *
          have on0 := wo.n0
          have on1 := wo.n1
          have osz : (mkS own).length ≤ sizeLine := by rw [mkS_len, sizeLine_eq]; omega
          refine ⟨X, _, _, _, rfl, rfl, .inl (.inl (k4 _ _ nX eX3)), atI_nat ej, ?_⟩
          have kk4 := (kk2.same s3).trans k4
          refine ⟨_, rfl, rfl, _, rfl, ?_⟩
          change ite _ _ _
          refine ite2 (fun c5 => ?_) (fun c5 => ?_)
          · refine ⟨_, rfl, _, rfl, _, rfl, mkS own, rfl, osz, L, S, _, _, rfl, by rw [mkS_len]; omega, by rw [mkS_len]; omega, f4, by omega, fun H5 v5 k5 f5 l5 u5 => ?_⟩
            refine ⟨_, _, rfl, rfl, _, rfl, mkS own, rfl, osz, ?_⟩
            obtain ⟨n, rfl⟩ := Int.eq_ofNat_of_zero_le l5
            have e1 : (1 : Int) + (n : Int) = ((n + 1 : Nat) : Int) := by omega
            rw [e1, cutS_take]
            exact ⟨own.take (n + 1), _, _, rfl, kk4.trans k5, f5.mono (by omega), wo.take (Nat.succ_pos _)⟩
          · refine ⟨_, rfl, _, rfl, mkS own, rfl, osz, ?_⟩
            have e7 : cutS (mkS own) none (some 7) = mkS (own.take 7) := cutS_take own 7
            rw [e7]
            refine ⟨.str abc, rfl, _, rfl, L, S, 26, _, rfl, by decide, by decide, f4, by omega, fun H6 v6 k6 f6 l6 u6 => ?_⟩
            obtain ⟨c6, lt6, hc6⟩ := abc_pick l6 u6
            refine ⟨abc, v6, c6, rfl, rfl, abc_size, hc6, mkS (own.take 7), mkS [c6], rfl, rfl, ?_, ?_⟩
            · rw [mkS_len, mkS_len, List.length_take, sizeLine_eq]
              show _ + 1 ≤ _
              omega
            · refine ⟨own.take 7 ++ [c6], none, some (.str (mkS own)), ?_, kk4.trans k6, f6.mono (by omega), Wd.snoc (fun x hx => wo.lt x (List.mem_of_mem_take hx)) (by rw [List.length_take]; omega) lt6⟩
              rw [← mkS_app]
              rfl
    · rintro σ H3 ⟨cs, y5, y6, rfl, k3, f3, hcs⟩
      have eX3 := k3 _ _ nX eX
      refine ⟨60, rfl, by decide, by decide, ?_⟩
      refine for_range (lo := 0) (n := (60 : Int).toNat) (fun i σ H' => ∃ y5 y6, σ = [some (.ref L), some (.ref X), some (.str abc), some (.int v1), some (.str (mkS (it cs i))), y5, y6] ∧ H' = H3 ∧ ∀ k, k < i → it cs k ∈ ws) ⟨_, _, rfl, rfl, fun k hk => by omega⟩ ?_ ?_
      · rintro i σ H' hi ⟨y5, y6, rfl, rfl, all⟩
        refine ⟨_, rfl, _, rfl, X, wStrs ws, rfl, .inl (.inl (.inl eX3)), rfl, wStrs_flat ws, _, rfl, ?_⟩
        rw [in_wStrs]
        change ite _ _ _
        refine ite2 (fun c => ?_) (fun c => ?_)
        · have c' : it cs i ∉ ws := fun z => by
            rw [decide_eq_true z] at c
            cases c
          exact ⟨_, rfl, q _ _ k3 f3 (hcs.it i) c'⟩
        · have c' : it cs i ∈ ws := Decidable.byContradiction fun z => c (by rw [decide_eq_false z]; rfl)
          refine ⟨_, rfl, it cs i, rfl, hcs.it i, ?_⟩
          refine ⟨_, _, rfl, rfl, fun k hk => ?_⟩
          by_cases e : k = i
          · rw [e]
            exact c'
          · exact all k (by omega)
      · rintro σ H' ⟨y5, y6, rfl, rfl, all⟩
        exact absurd all (it_out hcs (by show ws.length < 60; omega) (by decide))
end
end K06

set_option Elab.async false
set_option linter.all false
set_option maxRecDepth 100000
set_option maxHeartbeats 2000000
namespace K06
open PySem PySem.Spec PyProof.Rows L2 TB

theorem scPr : FnScope ["_law_feed_here", "_law_found", "_law_begin", "_law_k", "_law_pence"] ["_law_feed_here"] (defScope sPr) := ⟨rfl, rfl, rfl, by decide +kernel, rfl, by decide +kernel, by decide +kernel⟩
def dPair (r : Int × Int) : PyData := .tuple [.int r.1, .int r.2]
def dPr (rows : List (Int × Int)) : PyData := .tuple (rows.map dPair)
/-- so far, the next one from b on -/
structure Ris (rows : List (Int × Int)) (b : Int) : Prop where
  hd : ((rows ++ [(b, (0 : Int))]).map Prod.fst).head? = some 0
  up : (rows.map Prod.fst).Pairwise fun x y => x < y
  lo : ∀ r ∈ rows, 0 ≤ r.1 ∧ r.1 < b ∧ 0 ≤ r.2 ∧ r.2 ≤ 100000
  b0 : 0 ≤ b
theorem Ris.more {rows : List (Int × Int)} {b p c : Int} (h : Ris rows b) (p0 : 0 ≤ p) (p1 : p ≤ 100000) (hc : b < c) : Ris (rows ++ [(b, p)]) c := by
  refine ⟨?_, ?_, fun r hr => ?_, by have := h.b0; omega⟩
  · have := h.hd
    cases rows with
    | nil => exact this
    | cons x rows => exact this
  · rw [List.map_append, List.pairwise_append]
    refine ⟨h.up, List.pairwise_singleton _ _, fun x hx y hy => ?_⟩
    obtain ⟨r, hr, rfl⟩ := List.mem_map.mp hx
    rw [List.map_cons, List.map_nil, List.mem_singleton] at hy
    rw [hy]
    exact (h.lo r hr).2.1
  · have := h.b0
    rcases List.mem_append.mp hr with z | z
    · obtain ⟨a, b', c', d⟩ := h.lo r z
      exact ⟨a, by omega, c', d⟩
    · rw [List.mem_singleton.mp z]
      exact ⟨h.b0, hc, p0, p1⟩
section
variable {P : Program} {w : World} {K : PySem.W.Frag} {mg : Str → Option Value} {base : Heap}
/-! ### _law_prices -/
def spPr (K : PySem.W.Frag) : Sp := fun vs H Q _ => ∃ (L S : Addr) (T : Int), vs = [.ref L] ∧ Feed H L S T ∧ T < 2 ^ 39 ∧
  ∀ (H' : Hp) (r : Addr) (rows : List (Int × Int)) (b : Int), But L H H' → Feed H' L S (T + 40) → Dp K H' (.ref r) (dPr rows) → Ris rows b → b ≤ 200000 → 0 < rows.length → rows.length ≤ 4 → Q (.ref r) H'
theorem ok_pr {f fR : Addr} {fd fdR : FuncData} (F : Fun K "_law_prices" "_law_prices" sPr f fd)
    (GDr : FnOk P w K mg base CX0 1 fR fdR ["_law_feed_here", "_law_many"] spDraw) (kDr : PySem.W.keepIn K (.ref fR) = true) (bDr : Binds K fdR ["_law_feed_here", "_law_many"] []) (gDr : mg "_law_draw" = some (.ref fR))
    (m_range : mg "range" = none) (m_tuple : mg "tuple" = none) : FnOk P w K mg base CX0 2 f fd ["_law_feed_here"] (spPr K) := by
  refine F.ok scPr (fun vs H Q E h => ?_) (fun cdv A outer s H vs Q E hr h => ?_)
  · obtain ⟨L, S, T, rfl, _⟩ := h
    rfl
  · obtain ⟨L, S, T, rfl, f0, T0, q⟩ := h
    refine ⟨_, (pss_cons (ps_par (i := 1) (j := 2) (by rfl) scPr.nd rfl rfl (by decide) rfl rfl (pa_cons (pe_lst pa_nil) (pa_cons pe_int pa_nil)) (by rfl))
      (pss_cons (ps_for PassesOwn.never rfl (pi_range1 (by rfl) m_range (pa_cons (pe_op op_add pe_int (pe_call GDr (hr.mono (by decide)) (by rfl) gDr kDr bDr .nil pass0 (pa_cons (pv 0) (pa_cons pe_int pa_nil)))) pa_nil)) (pg_name (i := 3) scPr.nd rfl (.inl rfl)) (pss_cons (ps_set (i := 4) scPr.nd rfl (.inl rfl) (pe_tup (pa_cons pe_int (pa_cons pe_int (pa_cons (pe_call GDr (hr.mono (by decide)) (by rfl) gDr kDr bDr .nil pass0 (pa_cons (pv 0) (pa_cons pe_int pa_nil))) (pa_cons (pe_op op_sub pe_int (pe_call GDr (hr.mono (by decide)) (by rfl) gDr kDr bDr .nil pass0 (pa_cons (pv 0) (pa_cons pe_int pa_nil)))) (pa_cons (pe_call GDr (hr.mono (by decide)) (by rfl) gDr kDr bDr .nil pass0 (pa_cons (pv 0) (pa_cons pe_int pa_nil))) pa_nil)))))))
      (pss_cons (ps_expr (pe_bm PySem.F.plainAttrs_list PySem.F.slot_list_append PySem.F.type_list_append mt_append (pv 1) (pa_cons (pe_tup (pa_cons (pv 2) (pa_cons (pe_ix ix_tup (pv 4) (pe_call GDr (hr.mono (by decide)) (by rfl) gDr kDr bDr .nil pass0 (pa_cons (pv 0) (pa_cons pe_int pa_nil))) (fun _ _ => rfl)) pa_nil))) pa_nil)))
      (pss_one (ps_aug (i := 2) scPr.nd rfl (.inl rfl) (pe_op op_add pe_int (pe_ix ix_tup (pe_tup (pa_cons pe_int (pa_cons (pe_call GDr (hr.mono (by decide)) (by rfl) gDr kDr bDr .nil pass0 (pa_cons (pv 0) (pa_cons pe_int pa_nil))) (pa_cons (pe_call GDr (hr.mono (by decide)) (by rfl) gDr kDr bDr .nil pass0 (pa_cons (pv 0) (pa_cons pe_int pa_nil))) pa_nil)))) (pe_call GDr (hr.mono (by decide)) (by rfl) gDr kDr bDr .nil pass0 (pa_cons (pv 0) (pa_cons pe_int pa_nil))) (fun _ _ => rfl))) ip_add)))))
      (pss_one (ps_ret (pe_callTy call_tuple_of (by rfl) m_tuple (by decide +kernel) (pa_cons (pv 1) pa_nil)))))), ?_⟩
    refine ⟨Nat.zero_le _, fun D nD => ?_⟩
    have s0 := same_upd (o := .lst []) nD
    have DL := (f0.ne nD).1
    have DS := (f0.ne nD).2
    have f1 := f0.same s0
    have ac : Acc K (upd H D (.lst [])) D [] := Acc.start
    refine ⟨_, _, rfl, ?_⟩
    generalize upd H D (.lst []) = H0 at *
    show tSeq _ _ _ [some (.ref L), some (.ref D), some (.int 0), none, none] _
    refine ⟨_, rfl, L, S, 4, _, rfl, by decide, by decide, f1, by omega, fun H1 n k1 f2 l1 u1 => ?_⟩
    obtain ⟨z0, ez0⟩ := f1.there
    refine ⟨_, _, rfl, rfl, 1 + n, rfl, by omega, by omega, ?_⟩
    have dropD : ∀ {G : Hp} {o : HO}, But L H G → But L H (upd G D o) := fun {G o} k b x nb e => by
      have nb' : b ≠ D := fun z => by
        rw [z, nD] at e
        cases e
      rw [upd_ne nb']
      exact k b x nb e
    refine for_range (lo := 0) (n := (1 + n).toNat) (fun i σ G => ∃ y3 y4 b rows, σ = [some (.ref L), some (.ref D), some (.int b), y3, y4] ∧ But L H G ∧ Feed G L S (T + 1 + 8 * i) ∧ Acc K G D (rows.map dPair) ∧ rows.length = i ∧ Ris rows b ∧ b ≤ 40000 * i)
      ⟨_, _, 0, [], rfl, fun b o nb e => k1 b o nb (s0 b o e), f2.mono (by omega), ac.but k1 ez0 DL, rfl, ⟨rfl, List.Pairwise.nil, fun r hr => (by cases hr), Int.le_refl _⟩, by omega⟩ ?_ ?_
    · rintro i σ G hi ⟨y3, y4, b, rows, rfl, k2, f3, ac2, rl, ri, bi⟩
      obtain ⟨z1, ez1⟩ := f3.there
      refine ⟨_, rfl, L, S, 100, _, rfl, by decide, by decide, f3, by omega, fun G1 v1 g1 e1 a1 b1 => ?_⟩
      obtain ⟨z2, ez2⟩ := e1.there
      refine ⟨_, rfl, L, S, 3, _, rfl, by decide, by decide, e1, by omega, fun G2 v2 g2 e2 a2 b2 => ⟨_, _, rfl, rfl, ?_⟩⟩
      obtain ⟨z3, ez3⟩ := e2.there
      refine ⟨_, rfl, L, S, 100001, _, rfl, by decide, by decide, e2, by omega, fun G3 v3 g3 e3 a3 b3 => ?_⟩
      refine ⟨by show (5 : Nat) ≤ sizeLine; decide, fun Z nZ => ?_⟩
      have sZ := same_upd (o := .tup [.int 0, .int 1, .int v1, .int (100000 - v2), .int v3]) nZ
      have ac3 := (((ac2.but g1 ez1 DL).but g2 ez2 DL).but g3 ez3 DL).same sZ
      have hZ : SqT K (upd G3 Z (.tup [.int 0, .int 1, .int v1, .int (100000 - v2), .int v3])) Z [.int 0, .int 1, .int v1, .int (100000 - v2), .int v3] := .inl (.inl upd_same)
      have e4 := e3.same sZ
      have k4 := (((k2.trans g1).trans g2).trans g3).same sZ
      generalize upd G3 Z (.tup [.int 0, .int 1, .int v1, .int (100000 - v2), .int v3]) = G4 at *
      show tSeq _ _ _ [some (.ref L), some (.ref D), some (.int b), some (.int (0 + (i : Int))), some (.ref Z)] _
      obtain ⟨us3, eD3, _⟩ := ac3.ex
      refine ⟨_, rfl, .inl ⟨rfl, _, .inl (.inl eD3)⟩, _, rfl, _, rfl, _, rfl, L, S, 5, _, rfl, by decide, by decide, e4, by omega, fun G5 v5 g5 e5 a5 b5 => ?_⟩
      obtain ⟨z4, ez4⟩ := e4.there
      obtain ⟨p, hp, p0, p1⟩ : ∃ p : Int, atI [V.int 0, .int 1, .int v1, .int (100000 - v2), .int v3] v5 = some (.int p) ∧ 0 ≤ p ∧ p ≤ 100000 := by
        have c : v5 = 0 ∨ v5 = 1 ∨ v5 = 2 ∨ v5 = 3 ∨ v5 = 4 := by omega
        rcases c with rfl | rfl | rfl | rfl | rfl
        · exact ⟨0, rfl, by decide, by decide⟩
        · exact ⟨1, rfl, by decide, by decide⟩
        · exact ⟨v1, rfl, a1, by omega⟩
        · exact ⟨100000 - v2, rfl, by omega, by omega⟩
        · exact ⟨v3, rfl, a3, by omega⟩
      refine ⟨Z, _, _, .int p, rfl, rfl, SqT.but g5 ez4 hZ, hp, by show (2 : Nat) ≤ sizeLine; decide, fun Y nY => ?_⟩
      have sY := same_upd (o := .tup [.int b, .int p]) nY
      have ac5 := (ac3.but g5 ez4 DL).same sY
      have dY : Dp K (upd G5 Y (.tup [.int b, .int p])) (.ref Y) (dPair (b, p)) := .tup (.inl (.inl upd_same)) (.cons (.int _) (.cons (.int _) .nil))
      have e6 := e5.same sY
      have k6 := (k4.trans g5).same sY
      generalize upd G5 Y (.tup [.int b, .int p]) = G6 at *
      obtain ⟨us, eD, ul, ac7⟩ := ac5.more dY rfl (by rw [List.length_map]; omega)
      refine ⟨D, us, _, rfl, rfl, eD, ul, ?_⟩
      have k7 := dropD (o := .lst (us ++ [.ref Y])) k6
      have e7 : Feed (upd G6 D (.lst (us ++ [.ref Y]))) L S _ := Feed.upd e6 ⟨DL, DS⟩
      generalize upd G6 D (.lst (us ++ [.ref Y])) = G7 at *
      obtain ⟨z7, ez7⟩ := e7.there
      refine ⟨_, rfl, _, rfl, L, S, 90, _, rfl, by decide, by decide, e7, by omega, fun G8 v8 g8 e8 a8 b8 => ?_⟩
      obtain ⟨z8, ez8⟩ := e8.there
      refine ⟨_, rfl, L, S, 30000, _, rfl, by decide, by decide, e8, by omega, fun G9 v9 g9 e9 a9 b9 => ?_⟩
      refine ⟨by show (3 : Nat) ≤ sizeLine; decide, fun U nU => ?_⟩
      have sU := same_upd (o := .tup [.int 0, .int v8, .int v9]) nU
      have ac9 := ((ac7.but g8 ez7 DL).but g9 ez8 DL).same sU
      have hU : SqT K (upd G9 U (.tup [.int 0, .int v8, .int v9])) U [.int 0, .int v8, .int v9] := .inl (.inl upd_same)
      have e10 := e9.same sU
      have k10 := ((k7.trans g8).trans g9).same sU
      generalize upd G9 U (.tup [.int 0, .int v8, .int v9]) = GU at *
      obtain ⟨zu, ezu⟩ := e10.there
      refine ⟨_, rfl, L, S, 3, _, rfl, by decide, by decide, e10, by omega, fun GV v10 g10 e11 a10 b10 => ?_⟩
      obtain ⟨d, hd, d0, d1⟩ : ∃ d : Int, atI [V.int 0, .int v8, .int v9] v10 = some (.int d) ∧ 0 ≤ d ∧ d ≤ 30000 := by
        have c : v10 = 0 ∨ v10 = 1 ∨ v10 = 2 := by omega
        rcases c with rfl | rfl | rfl
        · exact ⟨0, rfl, by decide, by decide⟩
        · exact ⟨v8, rfl, a8, by omega⟩
        · exact ⟨v9, rfl, a9, by omega⟩
      refine ⟨U, _, _, .int d, rfl, rfl, SqT.but g10 ezu hU, hd, _, _, rfl, rfl, _, _, rfl, rfl, ?_⟩
      refine ⟨_, _, b + (1 + d), rows ++ [(b, p)], rfl, k10.trans g10, e11.mono (by push_cast; omega), ?_, by rw [List.length_append, rl]; rfl, ri.more p0 p1 (by omega), by push_cast; omega⟩
      rw [List.map_append]
      exact ac9.but g10 ezu DL
    · rintro σ G ⟨y3, y4, b, rows, rfl, k2, f3, ac2, rl, ri, bi⟩
      obtain ⟨us, eD, dv⟩ := ac2.ex
      refine ⟨_, rfl, D, _, rfl, .inl ⟨.inl (.inl eD), fun r nr => ?_⟩⟩
      have sr := same_upd (o := .tup us) nr
      exact q _ r rows b (k2.same sr) ((f3.same sr).mono (by omega)) (Acc.tuple (D := D) dv nr) ri (by omega) (by omega) (by omega)
end
end K06

set_option Elab.async false
set_option linter.all false
set_option maxRecDepth 100000
set_option maxHeartbeats 2000000
namespace K06
open PySem PySem.Spec PyProof.Rows L2 TB

theorem scMn : FnScope ["_law_feed_here", "_law_many", "_law_words", "_law_k", "_law_word_here"] ["_law_feed_here", "_law_many"] (defScope sMn) := ⟨rfl, rfl, rfl, by decide +kernel, rfl, by decide +kernel, by decide +kernel⟩
abbrev Row := List Nat × Int × List (Int × Int)
def dRow (r : Row) : PyData := .tuple [.str (mkS r.1), .int r.2.1, dPr r.2.2]
def dMenu (rows : List Row) : PyData := .tuple (rows.map dRow)
structure OkRow (r : Row) : Prop where
  wd : Wd r.1
  w0 : 0 ≤ r.2.1
  w1 : r.2.1 ≤ 60
  pr : ∃ b, Ris r.2.2 b ∧ b ≤ 200000
  n0 : 0 < r.2.2.length
  n1 : r.2.2.length ≤ 4
theorem noL_pr (rows : List (Int × Int)) : noL (dPr rows) = true := by
  show noLs (rows.map dPair) = true
  refine noLs_of fun d hd => ?_
  obtain ⟨r, _, rfl⟩ := List.mem_map.mp hd
  rfl
theorem noL_row (r : Row) : noL (dRow r) = true := by
  have := noL_pr r.2.2
  show noLs [.str (mkS r.1), .int r.2.1, dPr r.2.2] = true
  simp only [noLs, noL, this, Bool.and_self]
theorem perm_words : ∀ {ys : List Str} {ws : List (List Nat)}, ys.Perm (ws.map mkS) → ∃ zs : List (List Nat), ys = zs.map mkS ∧ zs.Perm ws := fun {ys ws} h => by
  have e : ∀ z : Str, mkS z.cps.toList = z := fun z => rfl
  refine ⟨ys.map fun z => z.cps.toList, ?_, ?_⟩
  · rw [List.map_map]
    have : (mkS ∘ fun z : Str => z.cps.toList) = id := funext e
    rw [this, List.map_id]
  · have := h.map fun z : Str => z.cps.toList
    rw [List.map_map] at this
    have e2 : ((fun z : Str => z.cps.toList) ∘ mkS) = id := funext fun c => mkS_cps c
    rw [e2, List.map_id] at this
    exact this
section
variable {P : Program} {w : World} {K : PySem.W.Frag} {mg : Str → Option Value} {base : Heap}
/-! ### _law_menu -/
def spMn (K : PySem.W.Frag) : Sp := fun vs H Q _ => ∃ (L S : Addr) (T : Int) (n : Nat), vs = [.ref L, .int (n : Int)] ∧ Feed H L S T ∧ T < 2 ^ 38 ∧ n ≤ 30 ∧
  ∀ (H' : Hp) (r : Addr) (rows : List Row), But L H H' → Feed H' L S (T + 100 * n) → Dp K H' (.ref r) (dMenu rows) → (∀ r ∈ rows, OkRow r) → rows.length = n → sortedS (rows.map fun r => mkS r.1) = true → (rows.map Prod.fst).Nodup → Q (.ref r) H'
theorem ok_mn {f fR fW fP : Addr} {fd fdR fdW fdP : FuncData} (F : Fun K "_law_menu" "_law_menu" sMn f fd)
    (GDr : FnOk P w K mg base CX0 1 fR fdR ["_law_feed_here", "_law_many"] spDraw) (kDr : PySem.W.keepIn K (.ref fR) = true) (bDr : Binds K fdR ["_law_feed_here", "_law_many"] []) (gDr : mg "_law_draw" = some (.ref fR))
    (GWd : FnOk P w K mg base CX0 2 fW fdW ["_law_feed_here", "_law_found"] (spWd K)) (kWd : PySem.W.keepIn K (.ref fW) = true) (bWd : Binds K fdW ["_law_feed_here", "_law_found"] []) (gWd : mg "_law_word" = some (.ref fW))
    (GPr : FnOk P w K mg base CX0 2 fP fdP ["_law_feed_here"] (spPr K)) (kPr : PySem.W.keepIn K (.ref fP) = true) (bPr : Binds K fdP ["_law_feed_here"] []) (gPr : mg "_law_prices" = some (.ref fP))
    (m_range : mg "range" = none) (m_tuple : mg "tuple" = none) (m_sorted : mg "sorted" = none) : FnOk P w K mg base CX0 3 f fd ["_law_feed_here", "_law_many"] (spMn K) := by
  refine F.ok scMn (fun vs H Q E h => ?_) (fun cdv A outer s H vs Q E hr h => ?_)
  · obtain ⟨L, S, T, n, rfl, _⟩ := h
    rfl
  · obtain ⟨L, S, T, n, rfl, f0, T0, n30, q⟩ := h
    refine ⟨_, (pss_cons (ps_set (i := 2) scMn.nd rfl (.inl rfl) (pe_lst pa_nil))
      (pss_cons (ps_for PassesOwn.never rfl (pi_range1 (by rfl) m_range (pa_cons (pv 1) pa_nil)) (pg_name (i := 3) scMn.nd rfl (.inl rfl)) (pss_one (ps_expr (pe_bm PySem.F.plainAttrs_list PySem.F.slot_list_append PySem.F.type_list_append mt_append (pv 2) (pa_cons (pe_call GWd (hr.mono (by decide)) (by rfl) gWd kWd bWd .nil pass0 (pa_cons (pv 0) (pa_cons (pv 2) pa_nil))) pa_nil)))))
      (pss_one (ps_ret (pe_callTy call_tuple_of (by rfl) m_tuple (by decide +kernel) (pa_cons (pe_lc (own := [("_law_word_here", 4)]) (g := gName 4) (tt := tYes) rfl scMn.nd (pi_list (pe_callB cr_sortedS (by rfl) m_sorted (by decide +kernel) (pa_cons (pv 2) pa_nil))) (blkOk_by (own := [("_law_word_here", 4)]) (N := ["_law_feed_here", "_law_many", "_law_words", "_law_k", "_law_word_here"]) (sc := defScope sMn) (by decide +kernel)) (fun _ _ _ _ _ => (pg_name (i := 4) scMn.nd rfl (.inl rfl))) (fun _ _ _ _ _ => pts_nil) (fun _ _ _ _ _ => (pe_tup (pa_cons (pv 4) (pa_cons (pe_call GDr (hr.mono (by decide)) (by rfl) gDr kDr bDr .nil pass0 (pa_cons (pv 0) (pa_cons pe_int pa_nil))) (pa_cons (pe_call GPr (hr.mono (by decide)) (by rfl) gPr kPr bPr .nil pass0 (pa_cons (pv 0) pa_nil)) pa_nil)))))) pa_nil)))))), ?_⟩
    refine ⟨Nat.zero_le _, fun X nX => ?_⟩
    have s0 := same_upd (o := .lst []) nX
    have XL := (f0.ne nX).1
    have XS := (f0.ne nX).2
    have f1 := f0.same s0
    have eX : (upd H X (.lst [])) X = some (.lst (wStrs [])) := upd_same
    have k0 : But L H (upd H X (.lst [])) := fun b o _ e => s0 b o e
    generalize upd H X (.lst []) = H0 at *
    show tSeq _ _ _ [some (.ref L), some (.int (n : Int)), some (.ref X), none, none] _
    refine ⟨_, rfl, (n : Int), rfl, by omega, by omega, ?_⟩
    refine for_range (lo := 0) (n := (n : Int).toNat) (fun i σ G => ∃ y3 ws, σ = [some (.ref L), some (.int (n : Int)), some (.ref X), y3, none] ∧ But L H G ∧ Feed G L S (T + 20 * i) ∧ G X = some (.lst (wStrs ws)) ∧ (∀ c ∈ ws, Wd c) ∧ ws.length = i ∧ ws.Nodup)
      ⟨_, [], rfl, k0, f1.mono (by omega), eX, fun c hc => (by cases hc), rfl, List.Pairwise.nil⟩ ?_ ?_
    · rintro i σ G hi ⟨y3, ws, rfl, k1, f2, e1, wd, wl, nd⟩
      rw [Int.toNat_natCast] at hi
      refine ⟨_, rfl, .inl ⟨rfl, _, .inl (.inl e1)⟩, _, rfl, _, rfl, L, S, X, _, ws, rfl, f2, by omega, e1, XL, wd, by omega, fun G1 cs k2 f3 wc nc => ?_⟩
      have e2 := k2 _ _ XL e1
      have wsl : (wStrs ws).length = ws.length := List.length_map _
      refine ⟨X, _, _, rfl, rfl, e2, small1000 (by omega), ?_⟩
      refine ⟨_, ws ++ [cs], rfl, fun b o nb e => ?_, (Feed.upd f3 ⟨XL, XS⟩).mono (by push_cast; omega), ?_, fun c hc => ?_, by rw [List.length_append, wl]; rfl, ?_⟩
      · have nb' : b ≠ X := fun z => by
          rw [z, nX] at e
          cases e
        rw [upd_ne nb']
        exact k2 b o nb (k1 b o nb e)
      · rw [upd_same]
        unfold wStrs
        rw [List.map_append]
        rfl
      · rcases List.mem_append.mp hc with z | z
        · exact wd c z
        · rw [List.mem_singleton.mp z]
          exact wc
      · refine List.nodup_append.mpr ⟨nd, List.pairwise_singleton _ _, fun a ha b hb e => ?_⟩
        rw [List.mem_singleton.mp hb] at e
        exact nc (e ▸ ha)
    · rintro σ G ⟨y3, ws, rfl, k1, f2, e1, wd, wl, nd⟩
      rw [Int.toNat_natCast] at wl f2
      have es : wStrs ws = (ws.map mkS).map V.str := by
        unfold wStrs
        rw [List.map_map]
        rfl
      rw [es] at e1
      refine ⟨_, rfl, X, ws.map mkS, rfl, .inl (.inl e1), by rw [List.length_map]; omega, fun ys p pe so np => ?_⟩
      obtain ⟨zs, rfl, pz⟩ := perm_words pe
      have zl : zs.length = n := by rw [pz.length_eq, wl]
      have zd : ∀ c ∈ zs, Wd c := fun c hc => wd c (pz.mem_iff.mp hc)
      have sp := same_upd (o := .lst ((zs.map mkS).map V.str)) np
      have ep : (upd G p (.lst ((zs.map mkS).map V.str))) p = some (.lst ((zs.map mkS).map V.str)) := upd_same
      have pL := (f2.ne np).1
      have f3 := f2.same sp
      have k3 := k1.same sp
      generalize upd G p (.lst ((zs.map mkS).map V.str)) = G1 at *
      refine ⟨p, rfl, ⟨_, .inl (.inl ep)⟩, fun D nD => ?_⟩
      have DL := (f3.ne nD).1
      have DS := (f3.ne nD).2
      have pD : p ≠ D := fun z => by
        rw [z, nD] at ep
        cases ep
      obtain ⟨z3, ez3⟩ := f3.there
      have nDH : H D = none := k3.free ez3 nD
      have sD := same_upd (o := .lst []) nD
      refine lc_list (xs := (zs.map mkS).map V.str) (fun i G2 => ∃ rows : List Row, But L H G2 ∧ Feed G2 L S (T + 20 * n + 50 * i) ∧ G2 p = some (.lst ((zs.map mkS).map V.str)) ∧ Acc K G2 D (rows.map dRow) ∧ rows.map Prod.fst = zs.take i ∧ ∀ r ∈ rows, OkRow r)
        ⟨[], k3.same sD, (f3.same sD).mono (by omega), sD _ _ ep, Acc.start, rfl, fun r hr => (by cases hr)⟩ ?_ ?_ ?_
      · rintro i G2 _ ⟨rows, _, _, e2, _⟩
        exact .inl (.inl e2)
      · rintro i x G2 hx ⟨rows, k4, f4, e2, ac, rz, ro⟩
        rw [List.map_map] at hx
        obtain ⟨c, hc, hxe⟩ := map_get hx
        obtain rfl : x = .str (mkS c) := hxe
        have il : i < zs.length := (List.getElem?_eq_some_iff.mp hc).1
        obtain ⟨z4, ez4⟩ := f4.there
        have rl : rows.length ≤ 30 := by
          have := congrArg List.length rz
          rw [List.length_map, List.length_take] at this
          omega
        refine ⟨rfl, yes (iteT ?_)⟩
        refine ⟨_, rfl, _, rfl, L, S, 61, _, rfl, by decide, by decide, f4, by omega, fun G3 v3 k5 f5 l5 u5 => ?_⟩
        obtain ⟨z5, ez5⟩ := f5.there
        refine ⟨_, rfl, L, S, _, rfl, f5, by omega, fun G4 pr prs b k6 f6 dp ris b1 p0 p1 => ?_⟩
        refine ⟨by show (3 : Nat) ≤ sizeLine; decide, fun Y nY => ?_⟩
        have sY := same_upd (o := .tup [.str (mkS c), .int v3, .ref pr]) nY
        have dY : Dp K (upd G4 Y (.tup [.str (mkS c), .int v3, .ref pr])) (.ref Y) (dRow (c, v3, prs)) := .tup (.inl (.inl upd_same)) (.cons (.str _) (.cons (.int _) (.cons (Dp.same sY _ _ dp) .nil)))
        have ac4 := ((ac.but k5 ez4 DL).but k6 ez5 DL).same sY
        have f7 := f6.same sY
        have k7 := ((k4.trans k5).trans k6).same sY
        have e7 := sY _ _ (k6 _ _ pL (k5 _ _ pL e2))
        generalize upd G4 Y (.tup [.str (mkS c), .int v3, .ref pr]) = G5 at *
        obtain ⟨us, eD, ul, ac8⟩ := ac4.more dY (noL_row _) (by rw [List.length_map]; omega)
        refine ⟨us, eD, ul, rows ++ [(c, v3, prs)], fun b o nb e => ?_, (Feed.upd f7 ⟨DL, DS⟩).mono (by push_cast; omega), by rw [upd_ne pD]; exact e7, by rw [List.map_append]; exact ac8, ?_, fun r hr => ?_⟩
        · have nb' : b ≠ D := fun z => by
            rw [z, nDH] at e
            cases e
          rw [upd_ne nb']
          exact k7 b o nb e
        · rw [List.map_append, rz, take_more hc]
          rfl
        · rcases List.mem_append.mp hr with z | z
          · exact ro r z
          · rw [List.mem_singleton.mp z]
            exact ⟨zd c (List.mem_of_getElem? hc), l5, by show v3 ≤ 60; omega, ⟨b, ris, b1⟩, p0, p1⟩
      · rintro G2 ⟨rows, k4, f4, e2, ac, rz, ro⟩
        rw [List.length_map, List.length_map, List.take_length] at rz
        rw [List.length_map, List.length_map] at f4
        obtain ⟨us, eD, dv⟩ := ac.ex
        refine ⟨D, _, rfl, .inl ⟨.inl (.inl eD), fun r nr => ?_⟩⟩
        have sr := same_upd (o := .tup us) nr
        refine q _ r rows (k4.same sr) ((f4.same sr).mono (by omega)) (Acc.tuple (D := D) dv nr) ro ?_ ?_ ?_
        · have := congrArg List.length rz
          rw [List.length_map] at this
          omega
        · have e : (rows.map fun r => mkS r.1) = (rows.map Prod.fst).map mkS := by
            rw [List.map_map]
            rfl
          rw [e, rz]
          exact so
        · rw [rz]
          exact pz.symm.nodup nd
end
end K06

set_option Elab.async false
set_option linter.all false
set_option maxRecDepth 100000
set_option maxHeartbeats 2000000
namespace TB
open PySem PySem.Spec PyProof.Rows L2
section
variable {prog : Program} {w : World} {A : Around} {R : Result → Shared → Prop} {I : Addr} {fp wr : List Addr} {G : Array GenState → Array GenState → Prop} {n : Nat} {P : Nat → Value → Prop} {St : Nat → Shared → Prop}

/-- the loop behind the first thing, whatever default goes along -/
theorem max_goes (Wk : WalksS prog w A.in1 I fp wr G n P St) (bt : Nat → Nat → Bool) (cm : CmpOf prog w A.in1 .Gt P bt) (S : Addr) (out : S ∉ fp) (kw : List (Str × Value)) :
    ∀ (k j : Nat) (s : Shared) (b0 : Value) (c : Nat), n - (j + 1) = k → j + 1 ≤ n → St (j + 1) s → P (argBest bt j) b0 →
      s.heap.get? S = some { cls := .type "list", dict := none, data := .seq #[b0, b0] c, slots := #[] } →
      (∀ v s2, P (argBest bt (n - 1)) v → Moved (S :: wr) G s s2 → R (.ok (.ret v)) s2) → codeAny (model prog w) A (.builtin "max.loop" ⟨[.ref I, .none, .ref S], kw⟩) R s := by
  have outw : S ∉ wr := fun z => out (Wk.sub _ z)
  have sub : ∀ b ∈ wr, b ∈ S :: wr := fun b z => List.mem_cons_of_mem _ z
  have nm : (toString "max" ++ toString ".loop" : String) = "max.loop" := by decide
  have apart : ∀ {b : Addr}, b ∉ S :: wr → S ≠ b := fun z y => z (by rw [y]; exact List.mem_cons_self)
  intro k
  induction k with
  | zero =>
    intro j s b0 c ek lj st pb at_S rr
    have ej : j + 1 = n := by omega
    refine codeAny_builtin PySem.F.entry_max_loop ?_
    rw [Around.under_plainId PySem.F.plain_max_loop _]
    show wpAny _ A.in1 (seqItems? (.ref S) >>= _) _ _ _
    refine wpAny_bind (wpAny_seqItems at_S rfl ?_)
    show wpAny _ A.in1 (tryCatch (pyNext (.ref I)) _ >>= _) _ _ _
    refine wpAny_bind (wpAny_tryCatch (Wk.done s _ _ (ej ▸ st) fun s1 mv => ?_))
    have at1 := mv.heap S _ outw at_S
    show wpAny _ A.in1 (updateSeq S (fun _ => #[]) >>= _) _ _ s1
    refine wpAny_bind ?_
    refine wpAny_updateSeq at1 rfl (wpAny_bind (wpAny_letGo (wpAny_pure ?_)))
    refine rr b0 _ (by rw [← ej]; exact pb) ((mv.mono sub).then_heap (tk := s1.toks) (Nat.le_refl _) fun b o z e => ?_)
    exact (Heap.get?_update_other _ _ (apart z)).trans e
  | succ k ih =>
    intro j s b0 c ek lj st pb at_S rr
    have lt : j + 1 < n := by omega
    refine codeAny_builtin PySem.F.entry_max_loop ?_
    rw [Around.under_plainId PySem.F.plain_max_loop _]
    show wpAny _ A.in1 (seqItems? (.ref S) >>= _) _ _ _
    refine wpAny_bind (wpAny_seqItems at_S rfl ?_)
    show wpAny _ A.in1 (tryCatch (pyNext (.ref I)) _ >>= _) _ _ _
    refine wpAny_bind (wpAny_tryCatch (Wk.item (j + 1) s _ _ lt st fun v s1 pv st1 mv => ?_))
    have at1 := mv.heap S _ outw at_S
    show wpAny _ A.in1 (tryCatch (holding [v, v] (richCompare .Gt v b0 >>= _)) _ >>= _) _ _ s1
    refine wpAny_bind (wpAny_tryCatch (wpAny_holding (wpAny_bind (cm (j + 1) (argBest bt j) v b0 _ _ _ pv pb ?_))))
    refine wpAny_bind (wpAny_holding (wpAny_truthy_bool ?_))
    refine wpAny_bind (wpAny_letGo (wpAny_pure ?_))
    cases eb : bt (j + 1) (argBest bt j) with
    | true =>
      simp only [if_true]
      refine wpAny_bind ?_
      refine wpAny_updateSeq at1 rfl (wpAny_bind (wpAny_letGo ?_))
      rw [nm]
      refine wpAny_pure ⟨plainId_quiet PySem.F.plain_max_loop _, ih (j + 1) _ v _ (by omega) lt (Wk.frame _ s1 _ s1.toks st1 (Nat.le_refl _) fun b z o e => ?_) (by simp only [argBest, eb, if_true]; exact pv) (Heap.get?_update_self _ at1 rfl) fun v2 s2 p2 m2 => ?_⟩
      · exact (Heap.get?_update_other _ _ (fun y : S = b => out (by rw [y]; exact z))).trans e
      · refine rr v2 s2 p2 (Moved.trans Wk.gtrans ((mv.mono sub).then_heap (by first | exact Nat.le_refl _ | exact Nat.le_succ _ | omega) fun b o z e => ?_) m2)
        exact (Heap.get?_update_other _ _ (apart z)).trans e
    | false =>
      simp only [Bool.false_eq_true, if_false]
      refine wpAny_bind (wpAny_letGo ?_)
      rw [nm]
      refine wpAny_pure ⟨plainId_quiet PySem.F.plain_max_loop _, ih (j + 1) _ b0 c (by omega) lt st1 (by simp only [argBest, eb, Bool.false_eq_true, if_false]; exact pb) at1 fun v2 s2 p2 m2 => ?_⟩
      exact rr v2 s2 p2 (Moved.trans Wk.gtrans (mv.mono sub) m2)
theorem max_starts (Wk : WalksS prog w A.in1 I fp wr G n P St) (bt : Nat → Nat → Bool) (cm : CmpOf prog w A.in1 .Gt P bt) (S : Addr) (out : S ∉ fp) (kx : Str) (dv : Value) {s : Shared} {c : Nat} (st : St 0 s)
    (at_S : s.heap.get? S = some { cls := .type "list", dict := none, data := .seq #[] c, slots := #[] })
    (r0 : n = 0 → ∀ s2, Moved (S :: wr) G s s2 → R (.ok (.ret dv)) s2)
    (rr : 0 < n → ∀ v s2, P (argBest bt (n - 1)) v → Moved (S :: wr) G s s2 → R (.ok (.ret v)) s2) : codeAny (model prog w) A (.builtin "max.loop" ⟨[.ref I, .none, .ref S], [(kx, dv)]⟩) R s := by
  have outw : S ∉ wr := fun z => out (Wk.sub _ z)
  have sub : ∀ b ∈ wr, b ∈ S :: wr := fun b z => List.mem_cons_of_mem _ z
  have nm : (toString "max" ++ toString ".loop" : String) = "max.loop" := by decide
  have apart : ∀ {b : Addr}, b ∉ S :: wr → S ≠ b := fun z y => z (by rw [y]; exact List.mem_cons_self)
  refine codeAny_builtin PySem.F.entry_max_loop ?_
  rw [Around.under_plainId PySem.F.plain_max_loop _]
  show wpAny _ A.in1 (seqItems? (.ref S) >>= _) _ _ _
  refine wpAny_bind (wpAny_seqItems at_S rfl ?_)
  show wpAny _ A.in1 (tryCatch (pyNext (.ref I)) _ >>= _) _ _ _
  by_cases c0 : n = 0
  · refine wpAny_bind (wpAny_tryCatch (Wk.done s _ _ (by rw [c0]; exact st) fun s1 mv => ?_))
    refine wpAny_bind (wpAny_rule ?_)
    exact wpAny_pure (r0 c0 _ (mv.mono sub))
  · have np : 0 < n := by omega
    refine wpAny_bind (wpAny_tryCatch (Wk.item 0 s _ _ np st fun v s1 pv st1 mv => ?_))
    have at1 := mv.heap S _ outw at_S
    show wpAny _ A.in1 (updateSeq S (fun _ => #[v, v]) >>= _) _ _ s1
    refine wpAny_bind ?_
    refine wpAny_updateSeq at1 rfl ?_
    rw [nm]
    refine wpAny_pure ⟨plainId_quiet PySem.F.plain_max_loop _, max_goes Wk bt cm S out _ _ 0 _ v _ rfl np (Wk.frame _ s1 _ s1.toks st1 (Nat.le_refl _) fun b z o e => ?_) pv (Heap.get?_update_self _ at1 rfl) fun v2 s2 p2 m2 => ?_⟩
    · exact (Heap.get?_update_other _ _ (fun y : S = b => out (by rw [y]; exact z))).trans e
    · refine rr np v2 s2 p2 (Moved.trans Wk.gtrans ((mv.mono sub).then_heap (by first | exact Nat.le_refl _ | exact Nat.le_succ _ | omega) fun b o z e => ?_) m2)
      exact (Heap.get?_update_other _ _ (apart z)).trans e

/-- the loop behind the first thing, whatever default goes along -/
theorem min_goes (Wk : WalksS prog w A.in1 I fp wr G n P St) (bt : Nat → Nat → Bool) (cm : CmpOf prog w A.in1 .Lt P bt) (S : Addr) (out : S ∉ fp) (kw : List (Str × Value)) :
    ∀ (k j : Nat) (s : Shared) (b0 : Value) (c : Nat), n - (j + 1) = k → j + 1 ≤ n → St (j + 1) s → P (argBest bt j) b0 →
      s.heap.get? S = some { cls := .type "list", dict := none, data := .seq #[b0, b0] c, slots := #[] } →
      (∀ v s2, P (argBest bt (n - 1)) v → Moved (S :: wr) G s s2 → R (.ok (.ret v)) s2) → codeAny (model prog w) A (.builtin "min.loop" ⟨[.ref I, .none, .ref S], kw⟩) R s := by
  have outw : S ∉ wr := fun z => out (Wk.sub _ z)
  have sub : ∀ b ∈ wr, b ∈ S :: wr := fun b z => List.mem_cons_of_mem _ z
  have nm : (toString "min" ++ toString ".loop" : String) = "min.loop" := by decide
  have apart : ∀ {b : Addr}, b ∉ S :: wr → S ≠ b := fun z y => z (by rw [y]; exact List.mem_cons_self)
  intro k
  induction k with
  | zero =>
    intro j s b0 c ek lj st pb at_S rr
    have ej : j + 1 = n := by omega
    refine codeAny_builtin PySem.F.entry_min_loop ?_
    rw [Around.under_plainId PySem.F.plain_min_loop _]
    show wpAny _ A.in1 (seqItems? (.ref S) >>= _) _ _ _
    refine wpAny_bind (wpAny_seqItems at_S rfl ?_)
    show wpAny _ A.in1 (tryCatch (pyNext (.ref I)) _ >>= _) _ _ _
    refine wpAny_bind (wpAny_tryCatch (Wk.done s _ _ (ej ▸ st) fun s1 mv => ?_))
    have at1 := mv.heap S _ outw at_S
    show wpAny _ A.in1 (updateSeq S (fun _ => #[]) >>= _) _ _ s1
    refine wpAny_bind ?_
    refine wpAny_updateSeq at1 rfl (wpAny_bind (wpAny_letGo (wpAny_pure ?_)))
    refine rr b0 _ (by rw [← ej]; exact pb) ((mv.mono sub).then_heap (tk := s1.toks) (Nat.le_refl _) fun b o z e => ?_)
    exact (Heap.get?_update_other _ _ (apart z)).trans e
  | succ k ih =>
    intro j s b0 c ek lj st pb at_S rr
    have lt : j + 1 < n := by omega
    refine codeAny_builtin PySem.F.entry_min_loop ?_
    rw [Around.under_plainId PySem.F.plain_min_loop _]
    show wpAny _ A.in1 (seqItems? (.ref S) >>= _) _ _ _
    refine wpAny_bind (wpAny_seqItems at_S rfl ?_)
    show wpAny _ A.in1 (tryCatch (pyNext (.ref I)) _ >>= _) _ _ _
    refine wpAny_bind (wpAny_tryCatch (Wk.item (j + 1) s _ _ lt st fun v s1 pv st1 mv => ?_))
    have at1 := mv.heap S _ outw at_S
    show wpAny _ A.in1 (tryCatch (holding [v, v] (richCompare .Lt v b0 >>= _)) _ >>= _) _ _ s1
    refine wpAny_bind (wpAny_tryCatch (wpAny_holding (wpAny_bind (cm (j + 1) (argBest bt j) v b0 _ _ _ pv pb ?_))))
    refine wpAny_bind (wpAny_holding (wpAny_truthy_bool ?_))
    refine wpAny_bind (wpAny_letGo (wpAny_pure ?_))
    cases eb : bt (j + 1) (argBest bt j) with
    | true =>
      simp only [if_true]
      refine wpAny_bind ?_
      refine wpAny_updateSeq at1 rfl (wpAny_bind (wpAny_letGo ?_))
      rw [nm]
      refine wpAny_pure ⟨plainId_quiet PySem.F.plain_min_loop _, ih (j + 1) _ v _ (by omega) lt (Wk.frame _ s1 _ s1.toks st1 (Nat.le_refl _) fun b z o e => ?_) (by simp only [argBest, eb, if_true]; exact pv) (Heap.get?_update_self _ at1 rfl) fun v2 s2 p2 m2 => ?_⟩
      · exact (Heap.get?_update_other _ _ (fun y : S = b => out (by rw [y]; exact z))).trans e
      · refine rr v2 s2 p2 (Moved.trans Wk.gtrans ((mv.mono sub).then_heap (by first | exact Nat.le_refl _ | exact Nat.le_succ _ | omega) fun b o z e => ?_) m2)
        exact (Heap.get?_update_other _ _ (apart z)).trans e
    | false =>
      simp only [Bool.false_eq_true, if_false]
      refine wpAny_bind (wpAny_letGo ?_)
      rw [nm]
      refine wpAny_pure ⟨plainId_quiet PySem.F.plain_min_loop _, ih (j + 1) _ b0 c (by omega) lt st1 (by simp only [argBest, eb, Bool.false_eq_true, if_false]; exact pb) at1 fun v2 s2 p2 m2 => ?_⟩
      exact rr v2 s2 p2 (Moved.trans Wk.gtrans (mv.mono sub) m2)
theorem min_starts (Wk : WalksS prog w A.in1 I fp wr G n P St) (bt : Nat → Nat → Bool) (cm : CmpOf prog w A.in1 .Lt P bt) (S : Addr) (out : S ∉ fp) (kx : Str) (dv : Value) {s : Shared} {c : Nat} (st : St 0 s)
    (at_S : s.heap.get? S = some { cls := .type "list", dict := none, data := .seq #[] c, slots := #[] })
    (r0 : n = 0 → ∀ s2, Moved (S :: wr) G s s2 → R (.ok (.ret dv)) s2)
    (rr : 0 < n → ∀ v s2, P (argBest bt (n - 1)) v → Moved (S :: wr) G s s2 → R (.ok (.ret v)) s2) : codeAny (model prog w) A (.builtin "min.loop" ⟨[.ref I, .none, .ref S], [(kx, dv)]⟩) R s := by
  have outw : S ∉ wr := fun z => out (Wk.sub _ z)
  have sub : ∀ b ∈ wr, b ∈ S :: wr := fun b z => List.mem_cons_of_mem _ z
  have nm : (toString "min" ++ toString ".loop" : String) = "min.loop" := by decide
  have apart : ∀ {b : Addr}, b ∉ S :: wr → S ≠ b := fun z y => z (by rw [y]; exact List.mem_cons_self)
  refine codeAny_builtin PySem.F.entry_min_loop ?_
  rw [Around.under_plainId PySem.F.plain_min_loop _]
  show wpAny _ A.in1 (seqItems? (.ref S) >>= _) _ _ _
  refine wpAny_bind (wpAny_seqItems at_S rfl ?_)
  show wpAny _ A.in1 (tryCatch (pyNext (.ref I)) _ >>= _) _ _ _
  by_cases c0 : n = 0
  · refine wpAny_bind (wpAny_tryCatch (Wk.done s _ _ (by rw [c0]; exact st) fun s1 mv => ?_))
    refine wpAny_bind (wpAny_rule ?_)
    exact wpAny_pure (r0 c0 _ (mv.mono sub))
  · have np : 0 < n := by omega
    refine wpAny_bind (wpAny_tryCatch (Wk.item 0 s _ _ np st fun v s1 pv st1 mv => ?_))
    have at1 := mv.heap S _ outw at_S
    show wpAny _ A.in1 (updateSeq S (fun _ => #[v, v]) >>= _) _ _ s1
    refine wpAny_bind ?_
    refine wpAny_updateSeq at1 rfl ?_
    rw [nm]
    refine wpAny_pure ⟨plainId_quiet PySem.F.plain_min_loop _, min_goes Wk bt cm S out _ _ 0 _ v _ rfl np (Wk.frame _ s1 _ s1.toks st1 (Nat.le_refl _) fun b z o e => ?_) pv (Heap.get?_update_self _ at1 rfl) fun v2 s2 p2 m2 => ?_⟩
    · exact (Heap.get?_update_other _ _ (fun y : S = b => out (by rw [y]; exact z))).trans e
    · refine rr np v2 s2 p2 (Moved.trans Wk.gtrans ((mv.mono sub).then_heap (by first | exact Nat.le_refl _ | exact Nat.le_succ _ | omega) fun b o z e => ?_) m2)
      exact (Heap.get?_update_other _ _ (apart z)).trans e
end
theorem moved_eq {wr : List Addr} {s s2 : Shared} (h : Moved wr (fun a b => b = a) s s2) : s2 = { s with heap := s2.heap, toks := s2.toks } := by
  obtain ⟨hp, g, d, tk, os⟩ := s
  obtain ⟨hp2, g2, d2, tk2, os2⟩ := s2
  obtain ⟨_, a, b, c, _⟩ := h
  cases a
  cases b
  cases c
  rfl
section
variable {prog : Program} {w : World} {A : Around} {E : Value → Shared → Prop} {s : Shared}

theorem max_args (a v : Value) : argsOk "max" ⟨[a], [(Str.ofString "default", v)]⟩ := by
  unfold argsOk
  kernel_rfl
theorem max_dflt {its : List Value} {ns : List Int} {l : Addr} {dv : Value} {Q : Value → Shared → Prop} (hh : A.handled = none) (hl : s.heap.IsList l its.toArray) (hi : IntsAre its ns)
    (h0 : ns = [] → ∀ h' tk, (∀ b o, s.heap.get? b = some o → h'.get? b = some o) → Q dv { s with heap := h', toks := tk })
    (h : ∀ h' tk M t', (∀ b o, s.heap.get? b = some o → h'.get? b = some o) → M ∈ ns → (∀ a, a ∈ ns → a ≤ M) → Q (.int M t') { s with heap := h', toks := tk }) :
    wpAny (model prog w) A (call (.builtin "max") [.ref l] [(Str.ofString "default", dv)]) Q E s := by
  obtain ⟨xs, e⟩ := hi.allInts.items
  have hn : numsOf (intItems xs).toList = ns := by rw [← e]; exact hi.numsOf
  rw [nums_intItems] at hn
  subst hn
  rw [e] at hl
  have nm : (toString "max" ++ toString ".loop" : String) = "max.loop" := by decide
  refine kmk_tree PySem.F.kind_max PySem.F.plain_max PySem.F.entry_max (max_args _ _) ?_
  show wpAny _ A.in1 (Builtin.Builtins.bindParams "max" ["key", "default"] 0 ⟨[], [(Str.ofString "default", dv)]⟩ >>= _) _ _ s
  refine wpAny_bind (wpAny_of_eq (show Builtin.Builtins.bindParams "max" ["key", "default"] 0 ⟨[], [(Str.ofString "default", dv)]⟩ = pure [none, some dv] from rfl) ?_)
  refine wpAny_bind (wpAny_pure ?_)
  refine wpAny_bind (iter_intList hl fun s2 es st hfp hlI => ?_)
  subst es
  refine wpAny_bind (wpAny_newObj_type ?_)
  rw [nm]
  have Wk := (Walks.list (prog := prog) (w := w) (A := A.in1) hh s.heap.objs.size l hlI (intItems xs)).toS
  refine wpAny_pure ⟨plainId_quiet PySem.F.plain_max_loop _, max_starts Wk _ (CmpOf.ints_gt (numAt xs) (fun _ _ => intItems_at)) _ ?_ _ dv (Wk.frame 0 _ _ _ st (Nat.le_refl _) fun b _ o z => Heap.get?_push_of_some _ z) (Heap.get?_push_size _ rfl) (fun z s2 mv => ?_) (fun z v s2 pv mv => ?_)⟩
  · exact fun z => Nat.lt_irrefl _ (hfp _ z)
  · have m2 := Moved.drop_new (tk := s.toks) mv (Nat.le_refl _)
    have hz : xs.toList = [] := by
      have : xs.size = 0 := by simpa [intItems] using z
      exact List.eq_nil_of_length_eq_zero (by rw [Array.length_toList]; exact this)
    show Q dv s2
    rw [moved_eq m2]
    exact h0 (by rw [hz]; rfl) _ _ (old_kept m2.heap)
  · have m2 := Moved.drop_new (tk := s.toks) mv (Nat.le_refl _)
    have hsz : 0 < xs.size := by simpa [intItems] using z
    have pv2 : (intItems xs)[argBest (fun i j => decide (numAt xs i > numAt xs j)) ((intItems xs).size - 1)]? = some v := pv
    obtain ⟨t, rfl⟩ := intItems_at pv2
    have esz : (intItems xs).size = xs.size := by simp [intItems]
    obtain ⟨h1, h2⟩ := argBest_gt (numAt xs) ((intItems xs).size - 1)
    rw [esz] at h1 h2
    show Q (.int _ t) s2
    rw [moved_eq m2, esz]
    refine h _ _ _ t (old_kept m2.heap) ?_ fun a ha => ?_
    · rw [numAt_eq]
      exact PySem.getD_mem (by rw [List.length_map, Array.length_toList]; omega)
    · obtain ⟨j, hj, rfl⟩ := mem_getD ha
      rw [List.length_map, Array.length_toList] at hj
      rw [← numAt_eq]
      exact h2 j (by omega)

theorem min_args (a v : Value) : argsOk "min" ⟨[a], [(Str.ofString "default", v)]⟩ := by
  unfold argsOk
  kernel_rfl
theorem min_dflt {its : List Value} {ns : List Int} {l : Addr} {dv : Value} {Q : Value → Shared → Prop} (hh : A.handled = none) (hl : s.heap.IsList l its.toArray) (hi : IntsAre its ns)
    (h0 : ns = [] → ∀ h' tk, (∀ b o, s.heap.get? b = some o → h'.get? b = some o) → Q dv { s with heap := h', toks := tk })
    (h : ∀ h' tk M t', (∀ b o, s.heap.get? b = some o → h'.get? b = some o) → M ∈ ns → (∀ a, a ∈ ns → M ≤ a) → Q (.int M t') { s with heap := h', toks := tk }) :
    wpAny (model prog w) A (call (.builtin "min") [.ref l] [(Str.ofString "default", dv)]) Q E s := by
  obtain ⟨xs, e⟩ := hi.allInts.items
  have hn : numsOf (intItems xs).toList = ns := by rw [← e]; exact hi.numsOf
  rw [nums_intItems] at hn
  subst hn
  rw [e] at hl
  have nm : (toString "min" ++ toString ".loop" : String) = "min.loop" := by decide
  refine kmk_tree PySem.F.kind_min PySem.F.plain_min PySem.F.entry_min (min_args _ _) ?_
  show wpAny _ A.in1 (Builtin.Builtins.bindParams "min" ["key", "default"] 0 ⟨[], [(Str.ofString "default", dv)]⟩ >>= _) _ _ s
  refine wpAny_bind (wpAny_of_eq (show Builtin.Builtins.bindParams "min" ["key", "default"] 0 ⟨[], [(Str.ofString "default", dv)]⟩ = pure [none, some dv] from rfl) ?_)
  refine wpAny_bind (wpAny_pure ?_)
  refine wpAny_bind (iter_intList hl fun s2 es st hfp hlI => ?_)
  subst es
  refine wpAny_bind (wpAny_newObj_type ?_)
  rw [nm]
  have Wk := (Walks.list (prog := prog) (w := w) (A := A.in1) hh s.heap.objs.size l hlI (intItems xs)).toS
  refine wpAny_pure ⟨plainId_quiet PySem.F.plain_min_loop _, min_starts Wk _ (CmpOf.ints_lt (numAt xs) (fun _ _ => intItems_at)) _ ?_ _ dv (Wk.frame 0 _ _ _ st (Nat.le_refl _) fun b _ o z => Heap.get?_push_of_some _ z) (Heap.get?_push_size _ rfl) (fun z s2 mv => ?_) (fun z v s2 pv mv => ?_)⟩
  · exact fun z => Nat.lt_irrefl _ (hfp _ z)
  · have m2 := Moved.drop_new (tk := s.toks) mv (Nat.le_refl _)
    have hz : xs.toList = [] := by
      have : xs.size = 0 := by simpa [intItems] using z
      exact List.eq_nil_of_length_eq_zero (by rw [Array.length_toList]; exact this)
    show Q dv s2
    rw [moved_eq m2]
    exact h0 (by rw [hz]; rfl) _ _ (old_kept m2.heap)
  · have m2 := Moved.drop_new (tk := s.toks) mv (Nat.le_refl _)
    have hsz : 0 < xs.size := by simpa [intItems] using z
    have pv2 : (intItems xs)[argBest (fun i j => decide (numAt xs i < numAt xs j)) ((intItems xs).size - 1)]? = some v := pv
    obtain ⟨t, rfl⟩ := intItems_at pv2
    have esz : (intItems xs).size = xs.size := by simp [intItems]
    obtain ⟨h1, h2⟩ := argBest_lt (numAt xs) ((intItems xs).size - 1)
    rw [esz] at h1 h2
    show Q (.int _ t) s2
    rw [moved_eq m2, esz]
    refine h _ _ _ t (old_kept m2.heap) ?_ fun a ha => ?_
    · rw [numAt_eq]
      exact PySem.getD_mem (by rw [List.length_map, Array.length_toList]; omega)
    · obtain ⟨j, hj, rfl⟩ := mem_getD ha
      rw [List.length_map, Array.length_toList] at hj
      rw [← numAt_eq]
      exact h2 j (by omega)
end
section
variable {X : Cx}
def rMaxDf (K : PySem.W.Frag) : List V → List V → Hp → VK → Prop := fun vs zs H Q => ∃ (a : Addr) (ns : List Int) (d : V), vs = [V.ref a] ∧ zs = [d] ∧ SqL K H a (ns.map V.int) ∧ (ns = [] → Q d H) ∧ ∀ m, m ∈ ns → (∀ y, y ∈ ns → y ≤ m) → Q (.int m) H
def rMinDf (K : PySem.W.Frag) : List V → List V → Hp → VK → Prop := fun vs zs H Q => ∃ (a : Addr) (ns : List Int) (d : V), vs = [V.ref a] ∧ zs = [d] ∧ SqL K H a (ns.map V.int) ∧ (ns = [] → Q d H) ∧ ∀ m, m ∈ ns → (∀ y, y ∈ ns → m ≤ y) → Q (.int m) H
theorem cr_maxDf (calm : X.calm = true) : CallRK X (.builtin "max") ["default"] (rMaxDf X.K) := by
  intro pins s σ H xs zs us ws Q I rx rz h
  obtain ⟨a, ns, d, rfl, rfl, at_a, q0, q1⟩ := h
  obtain ⟨its, rv, hl, _⟩ := I.list at_a
  obtain ⟨u, rfl, ru⟩ := rz.one
  rw [Vals.ref1 rx]
  exact max_dflt (I.ok.hd calm) hl.isList rv.ints (fun z h' tk hk => ⟨d, H, I.kept hk, ru, q0 z⟩) fun h' tk m t' hk h1 h2 => ⟨.int m, H, I.kept hk, ⟨_, rfl⟩, q1 m h1 h2⟩
theorem cr_minDf (calm : X.calm = true) : CallRK X (.builtin "min") ["default"] (rMinDf X.K) := by
  intro pins s σ H xs zs us ws Q I rx rz h
  obtain ⟨a, ns, d, rfl, rfl, at_a, q0, q1⟩ := h
  obtain ⟨its, rv, hl, _⟩ := I.list at_a
  obtain ⟨u, rfl, ru⟩ := rz.one
  rw [Vals.ref1 rx]
  exact min_dflt (I.ok.hd calm) hl.isList rv.ints (fun z h' tk hk => ⟨d, H, I.kept hk, ru, q0 z⟩) fun h' tk m t' hk h1 h2 => ⟨.int m, H, I.kept hk, ⟨_, rfl⟩, q1 m h1 h2⟩
end
end TB

set_option Elab.async false
set_option linter.all false
set_option maxRecDepth 100000
set_option maxHeartbeats 1000000
namespace K06
open PySem PySem.Spec PyProof.Rows L2 TB

theorem scNu : FnScope ["thing"] ["thing"] (defScope sNu) := ⟨rfl, rfl, rfl, by decide +kernel, rfl, by decide +kernel, by decide +kernel⟩
theorem scCo : FnScope ["thing"] ["thing"] (defScope sCo) := ⟨rfl, rfl, rfl, by decide +kernel, rfl, by decide +kernel, by decide +kernel⟩
theorem scTu : FnScope ["thing", "many"] ["thing", "many"] (defScope sTu) := ⟨rfl, rfl, rfl, by decide +kernel, rfl, by decide +kernel, by decide +kernel⟩
theorem scAc : FnScope ["thing", "many", "part"] ["thing", "many"] (defScope sAc) := ⟨rfl, rfl, rfl, by decide +kernel, rfl, by decide +kernel, by decide +kernel⟩
theorem scWo : FnScope ["thing", "sign"] ["thing"] (defScope sWo) := ⟨rfl, rfl, rfl, by decide +kernel, rfl, by decide +kernel, by decide +kernel⟩
def inAz (c : Nat) : Bool := decide (97 ≤ c ∧ c ≤ 122)
def isWrd : PyData → Bool
  | .str z => decide (1 ≤ z.length ∧ z.length ≤ 8) && z.cps.toList.all inAz
  | _ => false
/-! ### kinds of things -/
def isNum : PyData → Bool
  | .int _ => true
  | _ => false
def isCnt : PyData → Bool
  | .int i => decide (0 ≤ i)
  | _ => false
def isTup (m : Int) : PyData → Bool
  | .tuple ds => decide ((ds.length : Int) = m)
  | _ => false
def cnts (m : Int) : PyData → Bool
  | .tuple ds => decide ((ds.length : Int) = m) && ds.all isCnt
  | _ => false
theorem cnts_tup (m : Int) (ds : List PyData) : cnts m (.tuple ds) = (decide ((ds.length : Int) = m) && ds.all isCnt) := rfl
section
variable {K : PySem.W.Frag} {H : Hp}
theorem ty_lst {a : Addr} {xs : List V} (h : SqL K H a xs) : TyX K H (.ref a) (.type "list") := by
  rcases h with (h | ⟨o, h⟩) | ⟨o, its, n, e, c, _⟩
  · exact .base (.lst h)
  · exact .base (.frz h)
  · exact .kList e c
theorem ty_tup {a : Addr} {xs : List V} (h : SqT K H a xs) : TyX K H (.ref a) (.type "tuple") := by
  rcases h with (h | ⟨o, h⟩) | ⟨o, its, n, e, c, _⟩
  · exact .base (.tup h)
  · exact .fTuple h
  · exact .kTuple e c
def isTp : PyData → Bool
  | .tuple _ => true
  | _ => false
theorem isiT {v : V} {d : PyData} (hd : Dp K H v d) : ∃ t : Value, TyX K H v t ∧ PySem.W.kitOne K t (.type "tuple") = some (isTp d) := by
  cases hd with
  | non => exact ⟨_, .base .non, (kit_ty (r := false) (by decide +kernel))⟩
  | bl b => exact ⟨_, .base (.bl b), (kit_ty (r := false) (by decide +kernel))⟩
  | int i => exact ⟨_, .base (.int i), (kit_ty (r := false) (by decide +kernel))⟩
  | str x => exact ⟨_, .base (.str x), (kit_ty (r := false) (by decide +kernel))⟩
  | lst h _ => exact ⟨_, ty_lst h, (kit_ty (r := false) (by decide +kernel))⟩
  | tup h _ => exact ⟨_, ty_tup h, (kit_ty (r := true) (by decide +kernel))⟩
def isIn : PyData → Bool
  | .int _ => true
  | .bool _ => true
  | _ => false
theorem isiI {v : V} {d : PyData} (hd : Dp K H v d) : ∃ t : Value, TyX K H v t ∧ PySem.W.kitOne K t (.type "int") = some (isIn d) := by
  cases hd with
  | non => exact ⟨_, .base .non, (kit_ty (r := false) (by decide +kernel))⟩
  | bl b => exact ⟨_, .base (.bl b), (kit_ty (r := true) (by decide +kernel))⟩
  | int i => exact ⟨_, .base (.int i), (kit_ty (r := true) (by decide +kernel))⟩
  | str x => exact ⟨_, .base (.str x), (kit_ty (r := false) (by decide +kernel))⟩
  | lst h _ => exact ⟨_, ty_lst h, (kit_ty (r := false) (by decide +kernel))⟩
  | tup h _ => exact ⟨_, ty_tup h, (kit_ty (r := false) (by decide +kernel))⟩
def isBo : PyData → Bool
  | .bool _ => true
  | _ => false
theorem isiB {v : V} {d : PyData} (hd : Dp K H v d) : ∃ t : Value, TyX K H v t ∧ PySem.W.kitOne K t (.type "bool") = some (isBo d) := by
  cases hd with
  | non => exact ⟨_, .base .non, (kit_ty (r := false) (by decide +kernel))⟩
  | bl b => exact ⟨_, .base (.bl b), (kit_ty (r := true) (by decide +kernel))⟩
  | int i => exact ⟨_, .base (.int i), (kit_ty (r := false) (by decide +kernel))⟩
  | str x => exact ⟨_, .base (.str x), (kit_ty (r := false) (by decide +kernel))⟩
  | lst h _ => exact ⟨_, ty_lst h, (kit_ty (r := false) (by decide +kernel))⟩
  | tup h _ => exact ⟨_, ty_tup h, (kit_ty (r := false) (by decide +kernel))⟩
end
theorem dec_int' {i j : Int} : decide (V.int i = V.int j) = decide (i = j) := by
  by_cases c : i = j
  · rw [c, decide_eq_true rfl, decide_eq_true rfl]
  · rw [decide_eq_false c, decide_eq_false fun z => c (V.int.inj z)]
section
variable {P : Program} {w : World} {K : PySem.W.Frag} {mg : Str → Option Value} {base : Heap}
def spKind (K : PySem.W.Frag) (f : PyData → Bool) : Sp := fun vs H Q _ => ∃ (v : V) (d : PyData), vs = [v] ∧ Dp K H v d ∧ ∀ H', Same H H' → Q (.bl (f d)) H'
theorem ok_n {f : Addr} {fd : FuncData} {k : Nat} (F : Fun K "is_number" "is_number" sNu f fd) (m_isinstance : mg "isinstance" = none) (m_int : mg "int" = none) (m_bool : mg "bool" = none) :
    FnOk P w K mg base CX0 (k + 1) f fd ["thing"] (spKind K isNum) := by
  refine F.ok scNu (fun vs H Q E h => ?_) (fun cdv A outer s H vs Q E hr h => ?_)
  · obtain ⟨v, d, rfl, _⟩ := h
    rfl
  · obtain ⟨v, d, rfl, hd, q⟩ := h
    have q := q H (Same.refl H)
    refine ⟨_, (pss_one (ps_ret (pe_and (pe_callB call_isi (by rfl) m_isinstance (by decide +kernel) (pa_cons (pv 0) (pa_cons (pe_bltn (v := .ty "int") (u := .type "int") (by rfl) m_int (by decide +kernel) rfl) pa_nil))) (pe_one (pe_not (pe_callB call_isi (by rfl) m_isinstance (by decide +kernel) (pa_cons (pv 0) (pa_cons (pe_bltn (v := .ty "bool") (u := .type "bool") (by rfl) m_bool (by decide +kernel) rfl) pa_nil)))))))), ?_⟩
    cases hd with
    | non => exact ⟨_, rfl, _, .ty "int", _, .type "int", false, rfl, .ty _, .base .non, kit_ty (by decide +kernel), false, rfl, iteF q⟩
    | bl b => exact ⟨_, rfl, _, .ty "int", _, .type "int", true, rfl, .ty _, .base (.bl b), kit_ty (by decide +kernel), true, rfl, iteT ⟨_, rfl, _, .ty "bool", _, .type "bool", true, rfl, .ty _, .base (.bl b), kit_ty (by decide +kernel), true, rfl, q⟩⟩
    | int i => exact ⟨_, rfl, _, .ty "int", _, .type "int", true, rfl, .ty _, .base (.int i), kit_ty (by decide +kernel), true, rfl, iteT ⟨_, rfl, _, .ty "bool", _, .type "bool", false, rfl, .ty _, .base (.int i), kit_ty (by decide +kernel), false, rfl, q⟩⟩
    | str x => exact ⟨_, rfl, _, .ty "int", _, .type "int", false, rfl, .ty _, .base (.str x), kit_ty (by decide +kernel), false, rfl, iteF q⟩
    | lst h _ => exact ⟨_, rfl, _, .ty "int", _, .type "int", false, rfl, .ty _, ty_lst h, kit_ty (by decide +kernel), false, rfl, iteF q⟩
    | tup h _ => exact ⟨_, rfl, _, .ty "int", _, .type "int", false, rfl, .ty _, ty_tup h, kit_ty (by decide +kernel), false, rfl, iteF q⟩
theorem ok_c {f fNu : Addr} {fd fdNu : FuncData} (F : Fun K "is_count" "is_count" sCo f fd) (GNu : FnOk P w K mg base CX0 1 fNu fdNu ["thing"] (spKind K isNum)) (kNu : PySem.W.keepIn K (.ref fNu) = true) (bNu : Binds K fdNu ["thing"] []) (gNu : mg "is_number" = some (.ref fNu)) :
    FnOk P w K mg base CX0 2 f fd ["thing"] (spKind K isCnt) := by
  refine F.ok scCo (fun vs H Q E h => ?_) (fun cdv A outer s H vs Q E hr h => ?_)
  · obtain ⟨v, d, rfl, _⟩ := h
    rfl
  · obtain ⟨v, d, rfl, hd, q⟩ := h
    refine ⟨_, (pss_one (ps_ret (pe_and (pe_call GNu (hr.mono (by decide)) (by rfl) gNu kNu bNu .nil pass0 (pa_cons (pv 0) pa_nil)) (pe_one (pe_cmpR op_ge (pv 0) pe_int (nomark _)))))), ?_⟩
    refine ⟨_, rfl, v, d, rfl, hd, fun H1 s1 => ⟨_, rfl, ?_⟩⟩
    have q1 := q H1 s1
    cases hd with
    | int i => exact iteT ⟨_, rfl, i, 0, rfl, rfl, q1⟩
    | non => exact iteF q1
    | bl b => exact iteF q1
    | str x => exact iteF q1
    | lst h _ => exact iteF q1
    | tup h _ => exact iteF q1
def spTup (K : PySem.W.Frag) (g : Int → PyData → Bool) : Sp := fun vs H Q _ => ∃ (v : V) (d : PyData) (m : Int), vs = [v, .int m] ∧ m ≤ 100 ∧ Dp K H v d ∧ ∀ H', Same H H' → Q (.bl (g m d)) H'
theorem ok_t {f : Addr} {fd : FuncData} {k : Nat} (F : Fun K "is_tuple_of" "is_tuple_of" sTu f fd) (m_isinstance : mg "isinstance" = none) (m_tuple : mg "tuple" = none) (m_len : mg "len" = none) :
    FnOk P w K mg base CX0 (k + 1) f fd ["thing", "many"] (spTup K isTup) := by
  refine F.ok scTu (fun vs H Q E h => ?_) (fun cdv A outer s H vs Q E hr h => ?_)
  · obtain ⟨v, d, m, rfl, _⟩ := h
    rfl
  · obtain ⟨v, d, m, rfl, hm, hd, q⟩ := h
    have q := q H (Same.refl H)
    refine ⟨_, (pss_one (ps_ret (pe_and (pe_callB call_isi (by rfl) m_isinstance (by decide +kernel) (pa_cons (pv 0) (pa_cons (pe_bltn (v := .ty "tuple") (u := .type "tuple") (by rfl) m_tuple (by decide +kernel) rfl) pa_nil))) (pe_one (pe_cmpR op_eq (pe_callB call_len_seq (by rfl) m_len (by decide +kernel) (pa_cons (pv 0) pa_nil)) (pv 1) (nomark _)))))), ?_⟩
    obtain ⟨t, ty, kt⟩ := isiT hd
    refine ⟨_, rfl, _, .ty "tuple", t, .type "tuple", _, rfl, .ty _, ty, kt, _, rfl, ?_⟩
    cases hd with
    | tup h t =>
      refine iteT ⟨_, rfl, _, _, rfl, .inr h, _, rfl, rfl, ?_⟩
      have ln := DpAll.len t
      rw [ln]
      show Q (.bl (decide (V.int _ = V.int m))) H
      rw [dec_int']
      exact q
    | non => exact iteF q
    | bl b => exact iteF q
    | int i => exact iteF q
    | str x => exact iteF q
    | lst h _ => exact iteF q
theorem ok_ac {f fCo fTu : Addr} {fd fdCo fdTu : FuncData} (F : Fun K "are_counts" "are_counts" sAc f fd) (GCo : FnOk P w K mg base CX0 2 fCo fdCo ["thing"] (spKind K isCnt)) (kCo : PySem.W.keepIn K (.ref fCo) = true) (bCo : Binds K fdCo ["thing"] []) (gCo : mg "is_count" = some (.ref fCo))
    (GTu : FnOk P w K mg base CX0 1 fTu fdTu ["thing", "many"] (spTup K isTup)) (kTu : PySem.W.keepIn K (.ref fTu) = true) (bTu : Binds K fdTu ["thing", "many"] []) (gTu : mg "is_tuple_of" = some (.ref fTu)) (m_all : mg "all" = none) :
    FnOk P w K mg base CX0 3 f fd ["thing", "many"] (spTup K cnts) := by
  refine F.ok scAc (fun vs H Q E h => ?_) (fun cdv A outer s H vs Q E hr h => ?_)
  · obtain ⟨v, d, m, rfl, _⟩ := h
    rfl
  · obtain ⟨v, d, m, rfl, hm, hd, q⟩ := h
    refine ⟨_, (pss_one (ps_ret (pe_and (pe_call GTu (hr.mono (by decide)) (by rfl) gTu kTu bTu .nil pass0 (pa_cons (pv 0) (pa_cons (pv 1) pa_nil))) (pe_one (pe_callB (cr_all rfl) (by rfl) m_all (by decide +kernel) (pa_cons (pe_lc (own := [("part", 2)]) (g := gName 2) (tt := tYes) rfl scAc.nd (pi_tup (pv 0)) (blkOk_by (own := [("part", 2)]) (N := ["thing", "many", "part"]) (sc := defScope sAc) (by decide +kernel)) (fun _ _ _ _ _ => (pg_name (i := 2) scAc.nd rfl (.inl rfl))) (fun _ _ _ _ _ => pts_nil) (fun _ _ _ _ _ => (pe_call GCo (hr.mono (by decide)) (by rfl) gCo kCo bCo .nil pass0 (pa_cons (pv 2) pa_nil)))) pa_nil)))))), ?_⟩
    refine ⟨_, rfl, _, rfl, v, d, m, rfl, hm, hd, fun H1 s1 => ⟨_, rfl, ?_⟩⟩
    have q1 := q H1 s1
    cases hd with
    | @tup _ xs ds h t =>
      have ln := DpAll.len t
      change ite (decide ((ds.length : Int) = m) = true) _ _
      refine ite2 (fun c => ?_) (fun c => ?_)
      · have c1 : (ds.length : Int) = m := of_decide_eq_true c
        refine ⟨_, rfl, _, rfl, ⟨_, TB.Same.tup s1 h⟩, fun D nD => ?_⟩
        refine lc_tup (xs := xs) (fun i H2 => Same H1 H2 ∧ H2 D = some (.lst (((ds.take i).map isCnt).map V.bl))) ⟨same_upd nD, upd_same⟩ (fun i H2 _ hP => TB.Same.tup (s1.trans hP.1) h) (fun i x H2 hx hP => ?_) (fun H2 hP => ?_)
        · obtain ⟨s2, e2⟩ := hP
          obtain ⟨d, hdi, dx⟩ := DpAll.get t hx
          refine ⟨rfl, yes (iteT ?_)⟩
          refine ⟨_, rfl, x, d, rfl, Dp.same (s1.trans s2) _ _ dx, fun H3 s3 => ?_⟩
          refine ⟨_, s3 _ _ e2, ?_, same_new nD (s2.trans s3), ?_⟩
          · rw [List.length_map, List.length_map]
            have := List.length_take_le' i ds
            exact small1000 (by omega)
          · rw [upd_same, map_take_more hdi, List.map_append]
            rfl
        · obtain ⟨s2, e2⟩ := hP
          rw [List.take_of_length_le (by omega)] at e2
          refine ⟨D, _, rfl, .inl (.inl e2), ?_⟩
          have := q H2 (s1.trans s2)
          rw [cnts_tup, c, Bool.true_and] at this
          rw [List.all_map]
          exact this
      · rw [cnts_tup, show decide ((ds.length : Int) = m) = false by simpa using c, Bool.false_and] at q1
        exact q1
    | non => exact iteF q1
    | bl b => exact iteF q1
    | int i => exact iteF q1
    | str x => exact iteF q1
    | lst h _ => exact iteF q1
end
theorem lt_one (a b : Nat) : decide ([a] < [b]) = decide (a < b) := by
  by_cases h : a < b
  · rw [decide_eq_true h]
    exact decide_eq_true (List.cons_lt_cons_iff.mpr (.inl h))
  · rw [decide_eq_false h]
    refine decide_eq_false fun z => ?_
    rcases List.cons_lt_cons_iff.mp z with q | ⟨_, q⟩
    · exact h q
    · cases q
theorem az_of (c : Nat) : (if (!decide ([c] < [97])) = true then (!decide ([122] < [c])) else false) = inAz c := by
  rw [lt_one, lt_one]
  unfold inAz
  by_cases h1 : c < 97
  · have : ¬ (97 ≤ c ∧ c ≤ 122) := by omega
    simp [h1, this]
  · by_cases h2 : 122 < c
    · have : ¬ (97 ≤ c ∧ c ≤ 122) := by omega
      simp [h1, h2, this]
    · have : 97 ≤ c ∧ c ≤ 122 := by omega
      simp [h1, h2, this]
theorem at_take {z : Str} {i c : Nat} (h : z.cps[i]? = some c) : z.cps.toList[i]? = some c := by
  rw [Array.getElem?_toList]
  exact h
theorem wrd_str (z : Str) : isWrd (.str z) = (decide (1 ≤ z.length ∧ z.length ≤ 8) && z.cps.toList.all inAz) := rfl
section
variable {P : Program} {w : World} {K : PySem.W.Frag} {mg : Str → Option Value} {base : Heap}
def fitT : PyData → Prop
  | .str z => z.length ≤ 3000 ∧ asc z
  | _ => True
def spKindT (K : PySem.W.Frag) (f : PyData → Bool) : Sp := fun vs H Q _ => ∃ (v : V) (d : PyData), vs = [v] ∧ Dp K H v d ∧ fitT d ∧ ∀ H', Same H H' → Q (.bl (f d)) H'
theorem ok_w {f : Addr} {fd : FuncData} {k : Nat} {tL : Value} (F : Fun K "is_word" "is_word" sWo f fd) (m_isinstance : mg "isinstance" = none) (m_str : mg "str" = none) (m_len : mg "len" = none) (m_all : mg "all" = none) (mgL : mg "LONGEST_WORD" = some tL) (rL : RelV (.int 8) tL) :
    FnOk P w K mg base CX0 (k + 1) f fd ["thing"] (spKindT K isWrd) := by
  refine F.ok scWo (fun vs H Q E h => ?_) (fun cdv A outer s H vs Q E hr h => ?_)
  · obtain ⟨v, d, rfl, _⟩ := h
    rfl
  · obtain ⟨v, d, rfl, hd, hz, q⟩ := h
    refine ⟨_, (pss_one (ps_ret (pe_and (pe_callB call_isi (by rfl) m_isinstance (by decide +kernel) (pa_cons (pv 0) (pa_cons (pe_bltn (v := .ty "str") (u := .type "str") (by rfl) m_str (by decide +kernel) rfl) pa_nil))) (pe_and (pe_chain op_le op_le pe_int (pe_callB call_len_str (by rfl) m_len (by decide +kernel) (pa_cons (pv 0) pa_nil)) (pe_glob (v := .int 8) rfl mgL rL)) (pe_one (pe_callB (cr_all rfl) (by rfl) m_all (by decide +kernel) (pa_cons (pe_lc (own := [("sign", 1)]) (g := gName 1) (tt := tYes) rfl scWo.nd (pi_str (pv 0)) (blkOk_by (own := [("sign", 1)]) (N := ["thing", "sign"]) (sc := defScope sWo) (by decide +kernel)) (fun _ _ _ _ _ => (pg_name (i := 1) scWo.nd rfl (.inl rfl))) (fun _ _ _ _ _ => pts_nil) (fun _ _ _ _ _ => (pe_chain op_le_str op_le_str pe_str (pv 1) pe_str))) pa_nil))))))), ?_⟩
    have q0 := q H (Same.refl H)
    cases hd with
    | non => exact ⟨_, rfl, _, .ty "str", _, .type "str", false, rfl, .ty _, .base .non, kit_ty (by decide +kernel), false, rfl, iteF q0⟩
    | bl b => exact ⟨_, rfl, _, .ty "str", _, .type "str", false, rfl, .ty _, .base (.bl b), kit_ty (by decide +kernel), false, rfl, iteF q0⟩
    | int i => exact ⟨_, rfl, _, .ty "str", _, .type "str", false, rfl, .ty _, .base (.int i), kit_ty (by decide +kernel), false, rfl, iteF q0⟩
    | lst h _ => exact ⟨_, rfl, _, .ty "str", _, .type "str", false, rfl, .ty _, ty_lst h, kit_ty (by decide +kernel), false, rfl, iteF q0⟩
    | tup h _ => exact ⟨_, rfl, _, .ty "str", _, .type "str", false, rfl, .ty _, ty_tup h, kit_ty (by decide +kernel), false, rfl, iteF q0⟩
    | str z =>
      have hzl : z.length ≤ 3000 := hz.1
      have hsz : z.length ≤ sizeLine := Nat.le_trans hzl (by rw [sizeLine_eq]; decide)
      refine ⟨_, rfl, _, .ty "str", _, .type "str", true, rfl, .ty _, .base (.str z), kit_ty (by decide +kernel), true, rfl, iteT ?_⟩
      refine ⟨_, rfl, z, rfl, hsz, _, _, rfl, rfl, _, rfl, ite2 (fun c => ?_) (fun c => ?_)⟩
      · have c1 : (1 : Int) ≤ (z.length : Int) := of_decide_eq_true c
        refine ⟨_, _, rfl, rfl, _, rfl, ite2 (fun c => ?_) (fun c => ?_)⟩
        · have c2 : (z.length : Int) ≤ 8 := of_decide_eq_true c
          refine ⟨_, rfl, z, rfl, fun D nD => ?_⟩
          refine lc_it walk_str (fun i H1 => Same H H1 ∧ H1 D = some (.lst (((z.cps.toList.take i).map inAz).map V.bl))) ⟨same_upd nD, upd_same⟩ (fun _ _ _ _ => trivial) ?_ ?_
          · rintro i x H1 H1' hi ⟨sm, eD⟩ ⟨rfl, c, hc, rfl⟩
            refine ⟨rfl, yes (iteT ?_)⟩
            have fin : ∀ b : Bool, b = inAz c → ∃ acc, H1' D = some (.lst acc) ∧ acc.length < sizeLine ∧ (Same H (upd H1' D (.lst (acc ++ [.bl b]))) ∧ (upd H1' D (.lst (acc ++ [.bl b]))) D = some (.lst (((z.cps.toList.take (i + 1)).map inAz).map V.bl))) := by
              rintro b rfl
              refine ⟨_, eD, ?_, same_new nD sm, ?_⟩
              · rw [List.length_map, List.length_map, List.length_take]
                have : z.cps.toList.length ≤ 3000 := by rw [Array.length_toList]; exact hzl
                rw [sizeLine_eq]
                omega
              · rw [upd_same, map_take_more (at_take hc), List.map_append]
                rfl
            refine ⟨_, rfl, _, _, rfl, rfl, _, rfl, ite2 (fun c3 => ?_) (fun c3 => ?_)⟩
            · refine ⟨_, _, rfl, rfl, fin _ ?_⟩
              have c4 : (!decide ([c] < [97])) = true := c3
              show (!decide ([122] < [c])) = inAz c
              rw [← az_of c, if_pos c4]
            · refine fin _ ?_
              have c4 : ¬ (!decide ([c] < [97])) = true := c3
              rw [← az_of c, if_neg c4]
          · rintro H1 ⟨sm, eD⟩
            rw [List.take_of_length_le (by rw [Array.length_toList]; exact Nat.le_refl _)] at eD
            refine ⟨D, _, rfl, .inl (.inl eD), ?_⟩
            have := q H1 sm
            rw [wrd_str, decide_eq_true (by omega), Bool.true_and] at this
            rw [List.all_map]
            exact this
        · have c2 : ¬ (z.length : Int) ≤ 8 := fun w => c (decide_eq_true w)
          rw [wrd_str, decide_eq_false (by omega), Bool.false_and] at q0
          exact q0
      · have c1 : ¬ (1 : Int) ≤ (z.length : Int) := fun w => c (decide_eq_true w)
        rw [wrd_str, decide_eq_false (by omega), Bool.false_and] at q0
        exact ⟨false, rfl, iteF q0⟩

end
end K06

set_option Elab.async false
set_option linter.all false
set_option maxRecDepth 100000
set_option maxHeartbeats 1000000
namespace K06
open PySem PySem.Spec PyProof.Rows L2 TB

theorem scRi : FnScope ["things", "low", "high"] ["things"] (defScope sRi) := ⟨rfl, rfl, rfl, by decide +kernel, rfl, by decide +kernel, by decide +kernel⟩
def LtV (x y : V) : Prop := (∃ i j : Int, x = .int i ∧ y = .int j ∧ i < j) ∨ ∃ a b : Str, x = .str a ∧ y = .str b ∧ a.cps.toList < b.cps.toList
theorem cut_one (xs : List V) : cutV xs (some 1) none = xs.drop 1 := by
  unfold cutV
  rw [show (some (1 : Int)) = some ((1 : Nat) : Int) from rfl, HT.sIx_nat, HT.sIx_none]
  cases xs with
  | nil => rfl
  | cons x xs =>
    rw [Nat.min_eq_left (by simp), List.take_of_length_le (by simp)]
theorem sqL_same {K : PySem.W.Frag} {H H' : Hp} {a : Addr} {xs : List V} (e : Same H H') (h : SqL K H a xs) : SqL K H' a xs := by
  rcases h with (z | ⟨o, z⟩) | z
  · exact .inl (.inl (e _ _ z))
  · exact .inl (.inr ⟨o, e _ _ z⟩)
  · exact .inr z
section
variable {P : Program} {w : World} {K : PySem.W.Frag} {mg : Str → Option Value} {base : Heap}
def spRi (K : PySem.W.Frag) : Sp := fun vs H Q _ => ∃ (a : Addr) (xs : List V), vs = [.ref a] ∧ (SqL K H a xs ∨ SqT K H a xs) ∧ xs.length ≤ 60 ∧ (∀ (i : Nat) (x y : V), xs[i]? = some x → xs[i + 1]? = some y → LtV x y) ∧ ∀ H', Same H H' → Q (.bl true) H'
theorem ok_ri {f : Addr} {fd : FuncData} {k : Nat} (F : Fun K "rises" "rises" sRi f fd) (m_all : mg "all" = none) (m_zip : mg "zip" = none) : FnOk P w K mg base CX0 (k + 1) f fd ["things"] (spRi K) := by
  refine F.ok scRi (fun vs H Q E h => ?_) (fun cdv A outer s H vs Q E hr h => ?_)
  · obtain ⟨a, xs, rfl, _⟩ := h
    rfl
  · obtain ⟨a, xs, rfl, hs, hl, lt, q⟩ := h
    refine ⟨_, (pss_one (ps_ret (pe_callB (cr_all rfl) (by rfl) m_all (by decide +kernel) (pa_cons (pe_lc (own := [("low", 1), ("high", 2)]) (g := gTup K 2 (gCons (gName 1) (gCons (gName 2) gNil))) (tt := tYes) rfl scRi.nd (RZ.pi_zipA (by rfl) m_zip (pa_cons (pv 0) (pa_cons (pe_slice (SlR.or sl_list sl_tupA) (pv 0) (po_some pe_int) po_none) pa_nil))) (blkOk_by (own := [("low", 1), ("high", 2)]) (N := ["things", "low", "high"]) (sc := defScope sRi) (by decide +kernel)) (fun _ _ _ _ _ => (pg_tup rfl (pgs_cons (pg_name (i := 1) scRi.nd rfl (.inl rfl)) (pgs_cons (pg_name (i := 2) scRi.nd rfl (.inl rfl)) pgs_nil)))) (fun _ _ _ _ _ => pts_nil) (fun _ _ _ _ _ => (pe_cmpR (OpR.or op_lt op_lt_str) (pv 1) (pv 2) (nomark _)))) pa_nil)))), ?_⟩
    have nx : ∀ {i : Nat} {y : V}, (xs.drop 1)[i]? = some y → xs[i + 1]? = some y := fun {i y} h => by
      rw [List.getElem?_drop, Nat.add_comm] at h
      exact h
    refine ⟨_, rfl, _, rfl, _, rfl, ?_⟩
    rcases hs with hs | hs
    · refine .inl ⟨a, xs, rfl, hs, fun p np => ?_⟩
      have s1 := same_upd (o := .lst (cutV xs (some 1) none)) np
      have ep : (upd H p (.lst (cutV xs (some 1) none))) p = some (.lst (xs.drop 1)) := by
        rw [upd_same, cut_one]
      generalize upd H p (.lst (cutV xs (some 1) none)) = H1 at *
      refine ⟨a, p, _, _, rfl, .inl ⟨sqL_same s1 hs, .inl (.inl ep), fun D nD => ?_⟩⟩
      refine lc_it (walk_zip (xs := xs) (ys := xs.drop 1) (n := (xs.drop 1).length) (by rw [List.length_drop]; omega)) (fun i G => Same H1 G ∧ G D = some (.lst ((List.replicate i true).map V.bl)) ∧ i ≤ 60) ⟨same_upd nD, upd_same, by decide⟩ ?_ ?_ ?_
      · rintro i G _ ⟨sg, _⟩
        exact ⟨sqL_same (s1.trans sg) hs, .inl (.inl (sg _ _ ep))⟩
      · rintro i x G G2 hi ⟨sg, eD, i60⟩ ⟨T, u, v, rfl, nT, rfl, hu, hv⟩
        have sT := same_upd (o := .tup [u, v]) nT
        refine ⟨T, _, rfl, .inl (.inl upd_same), rfl, _, _, rfl, _, _, rfl, rfl, rfl, yes (iteT ?_)⟩
        have hi2 : i < xs.length - 1 := by rwa [List.length_drop] at hi
        have more : ∀ b : Bool, b = true → ∃ acc, (upd G T (.tup [u, v])) D = some (.lst acc) ∧ acc.length < sizeLine ∧ (Same H1 (upd (upd G T (.tup [u, v])) D (.lst (acc ++ [.bl b]))) ∧ (upd (upd G T (.tup [u, v])) D (.lst (acc ++ [.bl b]))) D = some (.lst ((List.replicate (i + 1) true).map V.bl)) ∧ i + 1 ≤ 60) := fun b hb => by
          subst hb
          refine ⟨_, sT _ _ eD, ?_, same_new nD (sg.trans sT), ?_, by omega⟩
          · rw [List.length_map, List.length_replicate]
            exact small1000 (by omega)
          · rw [upd_same, List.replicate_succ', List.map_append]
            rfl
        rcases lt i u v hu (nx hv) with ⟨p, q', rfl, rfl, pq⟩ | ⟨p, q', rfl, rfl, pq⟩
        · exact ⟨_, rfl, _, rfl, .inl ⟨_, _, rfl, rfl, more _ (decide_eq_true pq)⟩⟩
        · exact ⟨_, rfl, _, rfl, .inr ⟨_, _, rfl, rfl, more _ (decide_eq_true pq)⟩⟩
      · rintro G ⟨sg, eD, _⟩
        refine ⟨D, _, rfl, .inl (.inl eD), ?_⟩
        rw [show (List.replicate (xs.drop 1).length true).all id = true from List.all_eq_true.mpr fun b hb => (List.mem_replicate.mp hb).2]
        exact q _ (s1.trans sg)
    · refine .inr (slA hs fun H1 p s1 ep => ?_)
      rw [cut_one] at ep
      refine ⟨a, p, _, _, rfl, .inr ⟨TB.Same.tup s1 hs, ep, fun D nD => ?_⟩⟩
      refine lc_it (walk_zT (xs := xs) (ys := xs.drop 1) (n := (xs.drop 1).length) (by rw [List.length_drop]; omega)) (fun i G => Same H1 G ∧ G D = some (.lst ((List.replicate i true).map V.bl)) ∧ i ≤ 60) ⟨same_upd nD, upd_same, by decide⟩ ?_ ?_ ?_
      · rintro i G _ ⟨sg, _⟩
        exact ⟨TB.Same.tup (s1.trans sg) hs, TB.Same.tup sg ep⟩
      · rintro i x G G2 hi ⟨sg, eD, i60⟩ ⟨T, u, v, rfl, nT, rfl, hu, hv⟩
        have sT := same_upd (o := .tup [u, v]) nT
        refine ⟨T, _, rfl, .inl (.inl upd_same), rfl, _, _, rfl, _, _, rfl, rfl, rfl, yes (iteT ?_)⟩
        have hi2 : i < xs.length - 1 := by rwa [List.length_drop] at hi
        have more : ∀ b : Bool, b = true → ∃ acc, (upd G T (.tup [u, v])) D = some (.lst acc) ∧ acc.length < sizeLine ∧ (Same H1 (upd (upd G T (.tup [u, v])) D (.lst (acc ++ [.bl b]))) ∧ (upd (upd G T (.tup [u, v])) D (.lst (acc ++ [.bl b]))) D = some (.lst ((List.replicate (i + 1) true).map V.bl)) ∧ i + 1 ≤ 60) := fun b hb => by
          subst hb
          refine ⟨_, sT _ _ eD, ?_, same_new nD (sg.trans sT), ?_, by omega⟩
          · rw [List.length_map, List.length_replicate]
            exact small1000 (by omega)
          · rw [upd_same, List.replicate_succ', List.map_append]
            rfl
        rcases lt i u v hu (nx hv) with ⟨p, q', rfl, rfl, pq⟩ | ⟨p, q', rfl, rfl, pq⟩
        · exact ⟨_, rfl, _, rfl, .inl ⟨_, _, rfl, rfl, more _ (decide_eq_true pq)⟩⟩
        · exact ⟨_, rfl, _, rfl, .inr ⟨_, _, rfl, rfl, more _ (decide_eq_true pq)⟩⟩
      · rintro G ⟨sg, eD, _⟩
        refine ⟨D, _, rfl, .inl (.inl eD), ?_⟩
        rw [show (List.replicate (xs.drop 1).length true).all id = true from List.all_eq_true.mpr fun b hb => (List.mem_replicate.mp hb).2]
        exact q _ (s1.trans sg)
end
end K06

set_option Elab.async false
set_option linter.all false
set_option maxRecDepth 100000
set_option maxHeartbeats 1000000
namespace K06
open PySem PySem.Spec PyProof.Rows L2 TB

theorem scAp : FnScope ["thing", "pair"] ["thing"] (defScope sAp) := ⟨rfl, rfl, rfl, by decide +kernel, rfl, by decide +kernel, by decide +kernel⟩
theorem scMr : FnScope ["thing"] ["thing"] (defScope sMr) := ⟨rfl, rfl, rfl, by decide +kernel, rfl, by decide +kernel, by decide +kernel⟩
theorem scMe : FnScope ["thing", "row"] ["thing"] (defScope sMe) := ⟨rfl, rfl, rfl, by decide +kernel, rfl, by decide +kernel, by decide +kernel⟩
theorem scRw : FnScope ["thing", "word"] ["thing"] (defScope sRw) := ⟨rfl, rfl, rfl, by decide +kernel, rfl, by decide +kernel, by decide +kernel⟩
theorem scOf : FnScope ["thing"] ["thing"] (defScope sOf) := ⟨rfl, rfl, rfl, by decide +kernel, rfl, by decide +kernel, by decide +kernel⟩
theorem scOs : FnScope ["thing", "off"] ["thing"] (defScope sOs) := ⟨rfl, rfl, rfl, by decide +kernel, rfl, by decide +kernel, by decide +kernel⟩
def Rsg (ws : List (List Nat)) : Prop := ∀ (i : Nat) (a b : List Nat), ws[i]? = some a → ws[i + 1]? = some b → a < b
theorem rsg_of : ∀ ws : List (List Nat), sortedS (ws.map mkS) = true → ws.Nodup → Rsg ws
  | [], _, _ => fun i a b h => by simp at h
  | [x], _, _ => fun i a b _ h => by simp at h
  | x :: y :: ws, h, n => by
    have h1 : (!ltCps (mkS y).cps.toList (mkS x).cps.toList && risingS (mkS y) (ws.map mkS)) = true := h
    rw [Bool.and_eq_true] at h1
    have n1 := List.nodup_cons.mp n
    intro i a b ha hb
    cases i with
    | zero =>
      have ea : x = a := by simpa using ha
      have eb : y = b := by simpa using hb
      subst ea
      subst eb
      have z := h1.1
      rw [ltCps_eq] at z
      have z2 : ¬ (y < x) := fun k => by
        rw [show decide ((mkS y).cps.toList < (mkS x).cps.toList) = true from decide_eq_true k] at z
        cases z
      exact Std.lt_of_le_of_ne z2 fun k => n1.1 (by rw [k]; exact List.mem_cons_self)
    | succ i => exact rsg_of (y :: ws) h1.2 n1.2 i a b (by simpa using ha) (by simpa using hb)
structure OkM (rows : List Row) : Prop where
  ok : ∀ r ∈ rows, OkRow r
  n0 : 0 < rows.length
  n1 : rows.length ≤ 12
  up : Rsg (rows.map Prod.fst)
  nd : (rows.map Prod.fst).Nodup
abbrev Off := List (List Nat) × Int × Int × Int
def dStr (c : List Nat) : PyData := .str (mkS c)
def dOff (o : Off) : PyData := .tuple [.tuple (o.1.map dStr), .int o.2.1, .int o.2.2.1, .int o.2.2.2]
def dOffs (os : List Off) : PyData := .tuple (os.map dOff)
structure OkO (o : Off) : Prop where
  wd : ∀ c ∈ o.1, Wd c
  up : Rsg o.1
  n1 : o.1.length ≤ 20
  l0 : 0 ≤ o.2.1
  l1 : o.2.1 ≤ 200000
  h0 : 0 ≤ o.2.2.1
  h1 : o.2.2.1 ≤ 200000
  p0 : 0 ≤ o.2.2.2
  p1 : o.2.2.2 ≤ 100
theorem wd_is {c : List Nat} (h : Wd c) : isWrd (.str (mkS c)) = true := by
  rw [wrd_str, mkS_len, decide_eq_true ⟨h.n0, h.n1⟩, Bool.true_and]
  exact List.all_eq_true.mpr fun x hx => decide_eq_true (h.lt x hx)
theorem wd_fit {c : List Nat} (h : Wd c) : fitT (.str (mkS c)) := ⟨by rw [mkS_len]; have := h.n1; omega, fun x hx => by
  have := h.lt x hx
  unfold Lt at this
  omega⟩
theorem rep_turn {H1 G3 : Hp} {D : Addr} {i : Nat} (nD : H1 D = none) (sg : Same H1 G3) (e3 : G3 D = some (.lst ((List.replicate i true).map V.bl))) (hi : i ≤ 100) :
    ∃ acc, G3 D = some (.lst acc) ∧ acc.length < sizeLine ∧ (Same H1 (upd G3 D (.lst (acc ++ [.bl true]))) ∧ (upd G3 D (.lst (acc ++ [.bl true]))) D = some (.lst ((List.replicate (i + 1) true).map V.bl))) := by
  refine ⟨_, e3, ?_, same_new nD sg, ?_⟩
  · rw [List.length_map, List.length_replicate]
    exact small1000 (by omega)
  · rw [upd_same, List.replicate_succ', List.map_append]
    rfl
theorem rep_all (n : Nat) : (List.replicate n true).all id = true := List.all_eq_true.mpr fun b hb => (List.mem_replicate.mp hb).2
section
variable {P : Program} {w : World} {K : PySem.W.Frag} {mg : Str → Option Value} {base : Heap}
theorem dp_pair {H : Hp} {v : V} {p : Int × Int} (h : Dp K H v (dPair p)) : ∃ a, v = .ref a ∧ SqT K H a [.int p.1, .int p.2] := by
  obtain ⟨a, xs, rfl, hq, t⟩ := Dp.tup_inv h
  obtain ⟨x, r1, rfl, h1, t⟩ := DpAll.cons_inv t
  obtain ⟨y, r2, rfl, h2, t⟩ := DpAll.cons_inv t
  rw [Dp.int_inv h1, Dp.int_inv h2, DpAll.nil_inv t] at hq
  exact ⟨a, rfl, hq⟩
theorem dp_row {H : Hp} {v : V} {r : Row} (h : Dp K H v (dRow r)) : ∃ a p, v = .ref a ∧ SqT K H a [.str (mkS r.1), .int r.2.1, p] ∧ Dp K H p (dPr r.2.2) := by
  obtain ⟨a, xs, rfl, hq, t⟩ := Dp.tup_inv h
  obtain ⟨x, r1, rfl, h1, t⟩ := DpAll.cons_inv t
  obtain ⟨y, r2, rfl, h2, t⟩ := DpAll.cons_inv t
  obtain ⟨z, r3, rfl, h3, t⟩ := DpAll.cons_inv t
  rw [Dp.int_inv h2, DpAll.nil_inv t] at hq
  cases h1
  exact ⟨a, z, rfl, hq, h3⟩
theorem dp_off {H : Hp} {v : V} {o : Off} (h : Dp K H v (dOff o)) : ∃ a p, v = .ref a ∧ SqT K H a [p, .int o.2.1, .int o.2.2.1, .int o.2.2.2] ∧ Dp K H p (.tuple (o.1.map dStr)) := by
  obtain ⟨a, xs, rfl, hq, t⟩ := Dp.tup_inv h
  obtain ⟨x, r1, rfl, h1, t⟩ := DpAll.cons_inv t
  obtain ⟨y, r2, rfl, h2, t⟩ := DpAll.cons_inv t
  obtain ⟨z, r3, rfl, h3, t⟩ := DpAll.cons_inv t
  obtain ⟨u, r4, rfl, h4, t⟩ := DpAll.cons_inv t
  rw [Dp.int_inv h2, Dp.int_inv h3, Dp.int_inv h4, DpAll.nil_inv t] at hq
  exact ⟨a, x, rfl, hq, h1⟩
theorem dp_at {α : Type} {f : α → PyData} {H : Hp} {xs : List V} {ps : List α} (da : DpAll K H xs (ps.map f)) {i : Nat} {x : V} (hx : xs[i]? = some x) : ∃ p, ps[i]? = some p ∧ Dp K H x (f p) := by
  obtain ⟨d, hdi, dx⟩ := DpAll.get da hx
  rw [List.getElem?_map] at hdi
  obtain ⟨p, hp, rfl⟩ := Option.map_eq_some_iff.mp hdi
  exact ⟨p, hp, dx⟩
theorem strs_at {H : Hp} : ∀ {cs : List (List Nat)} {xs : List V}, DpAll K H xs (cs.map dStr) → xs = cs.map fun c => V.str (mkS c)
  | [], _, h => DpAll.nil_inv h
  | c :: cs, _, h => by
    obtain ⟨x, r, rfl, h1, t⟩ := DpAll.cons_inv h
    cases h1
    rw [strs_at t]
    rfl
theorem ltv_ints {ns : List Int} (h : ns.Pairwise fun x y => x < y) : ∀ (i : Nat) (x y : V), (ns.map V.int)[i]? = some x → (ns.map V.int)[i + 1]? = some y → LtV x y := fun i x y hx hy => by
  rw [List.getElem?_map] at hx hy
  obtain ⟨a, ha, rfl⟩ := Option.map_eq_some_iff.mp hx
  obtain ⟨b, hb, rfl⟩ := Option.map_eq_some_iff.mp hy
  obtain ⟨la, ea⟩ := List.getElem?_eq_some_iff.mp ha
  obtain ⟨lb, eb⟩ := List.getElem?_eq_some_iff.mp hb
  refine .inl ⟨a, b, rfl, rfl, ?_⟩
  rw [← ea, ← eb]
  exact List.pairwise_iff_getElem.mp h i (i + 1) la lb (by omega)
theorem ltv_strs {cs : List (List Nat)} (h : Rsg cs) : ∀ (i : Nat) (x y : V), (cs.map fun c => V.str (mkS c))[i]? = some x → (cs.map fun c => V.str (mkS c))[i + 1]? = some y → LtV x y := fun i x y hx hy => by
  rw [List.getElem?_map] at hx hy
  obtain ⟨a, ha, rfl⟩ := Option.map_eq_some_iff.mp hx
  obtain ⟨b, hb, rfl⟩ := Option.map_eq_some_iff.mp hy
  exact .inr ⟨mkS a, mkS b, rfl, rfl, h i a b ha hb⟩
def spYes (K : PySem.W.Frag) {α : Type} (f : α → PyData) (ok : α → Prop) : Sp := fun vs H Q _ => ∃ (v : V) (a : α), vs = [v] ∧ Dp K H v (f a) ∧ ok a ∧ ∀ H', Same H H' → Q (.bl true) H'
def okPs (rows : List (Int × Int)) : Prop := (∃ b, Ris rows b) ∧ 0 < rows.length ∧ rows.length ≤ 4
theorem ok_ap {f fAc fRi : Addr} {fd fdAc fdRi : FuncData} (F : Fun K "are_prices" "are_prices" sAp f fd)
    (GAc : FnOk P w K mg base CX0 3 fAc fdAc ["thing", "many"] (spTup K cnts)) (kAc : PySem.W.keepIn K (.ref fAc) = true) (bAc : Binds K fdAc ["thing", "many"] []) (gAc : mg "are_counts" = some (.ref fAc))
    (GRi : FnOk P w K mg base CX0 1 fRi fdRi ["things"] (spRi K)) (kRi : PySem.W.keepIn K (.ref fRi) = true) (bRi : Binds K fdRi ["things"] []) (gRi : mg "rises" = some (.ref fRi))
    (m_isinstance : mg "isinstance" = none) (m_tuple : mg "tuple" = none) (m_all : mg "all" = none) (m_len : mg "len" = none) :
    FnOk P w K mg base CX0 4 f fd ["thing"] (spYes K dPr okPs) := by
  refine F.ok scAp (fun vs H Q E h => ?_) (fun cdv A outer s H vs Q E hr h => ?_)
  · obtain ⟨v, p, rfl, _⟩ := h
    rfl
  · obtain ⟨v, rows, rfl, hd, ⟨⟨b, ris⟩, n0, n4⟩, q⟩ := h
    refine ⟨_, (pss_one (ps_ret (pe_and (pe_callB call_isi (by rfl) m_isinstance (by decide +kernel) (pa_cons (pv 0) (pa_cons (pe_bltn (v := .ty "tuple") (u := .type "tuple") (by rfl) m_tuple (by decide +kernel) rfl) pa_nil))) (pe_and (pe_cmpR op_gt (pe_callB call_len_seq (by rfl) m_len (by decide +kernel) (pa_cons (pv 0) pa_nil)) pe_int (nomark _)) (pe_and (pe_callB (cr_all rfl) (by rfl) m_all (by decide +kernel) (pa_cons (pe_lc (own := [("pair", 1)]) (g := gName 1) (tt := tYes) rfl scAp.nd (pi_tup (pv 0)) (blkOk_by (own := [("pair", 1)]) (N := ["thing", "pair"]) (sc := defScope sAp) (by decide +kernel)) (fun _ _ _ _ _ => (pg_name (i := 1) scAp.nd rfl (.inl rfl))) (fun _ _ _ _ _ => pts_nil) (fun _ _ _ _ _ => (pe_call GAc (hr.mono (by decide)) (by rfl) gAc kAc bAc .nil pass0 (pa_cons (pv 1) (pa_cons pe_int pa_nil))))) pa_nil)) (pe_and (pe_cmpR op_eq (pe_ix ix_tup (pe_ix ix_tup (pv 0) pe_int (fun _ _ => rfl)) pe_int (fun _ _ => rfl)) pe_int (nomark _)) (pe_one (pe_call GRi (hr.mono (by decide)) (by rfl) gRi kRi bRi .nil pass0 (pa_cons (pe_lc (own := [("pair", 1)]) (g := gName 1) (tt := tYes) (te := tOp (rIxT K) (tVar 1) (tC (.int 0))) rfl scAp.nd (pi_tup (pv 0)) (blkOk_by (own := [("pair", 1)]) (N := ["thing", "pair"]) (sc := defScope sAp) (by decide +kernel)) (fun _ _ _ _ _ => (pg_name (i := 1) scAp.nd rfl (.inl rfl))) (fun _ _ _ _ _ => pts_nil) (fun _ _ _ _ _ => (pe_ix ix_tup (pv 1) pe_int (fun _ _ => rfl)))) pa_nil))))))))), ?_⟩
    obtain ⟨t, ty, kt⟩ := isiT hd
    refine ⟨_, rfl, _, .ty "tuple", t, .type "tuple", _, rfl, .ty _, ty, kt, _, rfl, iteT ?_⟩
    obtain ⟨a, xs, rfl, ha, da⟩ := Dp.tup_inv hd
    have ln := DpAll.len da
    rw [List.length_map] at ln
    refine ⟨_, rfl, a, _, rfl, .inr ha, _, _, rfl, rfl, _, rfl, ?_⟩
    rw [decide_eq_true (show (0 : Int) < (xs.length : Int) by omega)]
    refine iteT ?_
    refine ⟨_, rfl, _, rfl, ⟨_, ha⟩, fun D nD => ?_⟩
    refine lc_tup (xs := xs) (fun i G => Same H G ∧ G D = some (.lst ((List.replicate i true).map V.bl))) ⟨same_upd nD, upd_same⟩ (fun i G _ hP => TB.Same.tup hP.1 ha) (fun i x G hx hP => ?_) (fun G hP => ?_)
    · obtain ⟨sg, eD⟩ := hP
      obtain ⟨p, hp, dx⟩ := dp_at da hx
      have il := (List.getElem?_eq_some_iff.mp hp).1
      have lo := ris.lo p (List.mem_of_getElem? hp)
      refine ⟨rfl, yes (iteT ?_)⟩
      refine ⟨_, rfl, x, _, 2, rfl, by decide, Dp.same sg _ _ dx, fun G3 s3 => ?_⟩
      have cn : cnts 2 (dPair p) = true := by
        show (decide (((2 : Nat) : Int) = 2) && (decide (0 ≤ p.1) && (decide (0 ≤ p.2) && true))) = true
        rw [decide_eq_true lo.1, decide_eq_true lo.2.2.1]
        rfl
      rw [cn]
      exact rep_turn nD (sg.trans s3) (s3 _ _ eD) (by omega)
    obtain ⟨sg, eD⟩ := hP
    refine ⟨D, _, rfl, .inl (.inl eD), _, rfl, ?_⟩
    rw [rep_all]
    refine iteT ?_
    have hd0 : ∃ r0 rest, rows = r0 :: rest ∧ r0.1 = 0 := by
      cases rows with
      | nil => simp at n0
      | cons r0 rest =>
        refine ⟨r0, rest, rfl, ?_⟩
        have := ris.hd
        simpa using this
    obtain ⟨r0, rest, er, e0⟩ := hd0
    have hx0 : ∃ x0, xs[0]? = some x0 := ⟨_, List.getElem?_eq_getElem (by omega)⟩
    obtain ⟨x0, hx0⟩ := hx0
    obtain ⟨p0, hp0, dx0⟩ := dp_at da hx0
    rw [er] at hp0
    obtain rfl := Option.some.inj hp0
    obtain ⟨b0, rfl, hb0⟩ := dp_pair (Dp.same sg _ _ dx0)
    refine ⟨_, rfl, a, _, 0, _, rfl, rfl, TB.Same.tup sg ha, atI_nat (j := 0) hx0, b0, _, 0, _, rfl, rfl, hb0, atI_nat (j := 0) rfl, rfl, _, rfl, ?_⟩
    rw [e0]
    refine iteT ?_
    refine ⟨_, rfl, _, rfl, ⟨_, TB.Same.tup sg ha⟩, fun D2 nD2 => ?_⟩
    refine lc_tup (xs := xs) (fun i G3 => Same G G3 ∧ G3 D2 = some (.lst (((rows.take i).map Prod.fst).map V.int))) ⟨same_upd nD2, upd_same⟩ (fun i G3 _ hP => TB.Same.tup (sg.trans hP.1) ha) (fun i x G3 hx hP => ?_) (fun G3 hP => ?_)
    · obtain ⟨s3, e3⟩ := hP
      obtain ⟨p, hp, dx⟩ := dp_at da hx
      obtain ⟨b1, rfl, hb1⟩ := dp_pair (Dp.same (sg.trans s3) _ _ dx)
      refine ⟨rfl, yes (iteT ?_)⟩
      refine ⟨_, rfl, b1, _, 0, _, rfl, rfl, hb1, atI_nat (j := 0) rfl, _, e3, ?_, same_new nD2 s3, ?_⟩
      · rw [List.length_map, List.length_map]
        have := List.length_take_le' i rows
        exact small1000 (by omega)
      · rw [upd_same, map_take_more hp, List.map_append]
        rfl
    obtain ⟨s3, e3⟩ := hP
    rw [List.take_of_length_le (by omega)] at e3
    exact ⟨D2, _, rfl, .inl (.inl (.inl e3)), by rw [List.length_map, List.length_map]; omega, ltv_ints ris.up, fun H4 s4 => q _ (sg.trans (s3.trans s4))⟩
end
end K06

set_option Elab.async false
set_option linter.all false
set_option maxRecDepth 100000
set_option maxHeartbeats 1000000
namespace K06
open PySem PySem.Spec PyProof.Rows L2 TB

section
variable {P : Program} {w : World} {K : PySem.W.Frag} {mg : Str → Option Value} {base : Heap}
theorem ok_mr {f fTu fWo fCo fAp : Addr} {fd fdTu fdWo fdCo fdAp : FuncData} (F : Fun K "is_menu_row" "is_menu_row" sMr f fd)
    (GTu : FnOk P w K mg base CX0 1 fTu fdTu ["thing", "many"] (spTup K isTup)) (kTu : PySem.W.keepIn K (.ref fTu) = true) (bTu : Binds K fdTu ["thing", "many"] []) (gTu : mg "is_tuple_of" = some (.ref fTu))
    (GWo : FnOk P w K mg base CX0 1 fWo fdWo ["thing"] (spKindT K isWrd)) (kWo : PySem.W.keepIn K (.ref fWo) = true) (bWo : Binds K fdWo ["thing"] []) (gWo : mg "is_word" = some (.ref fWo))
    (GCo : FnOk P w K mg base CX0 2 fCo fdCo ["thing"] (spKind K isCnt)) (kCo : PySem.W.keepIn K (.ref fCo) = true) (bCo : Binds K fdCo ["thing"] []) (gCo : mg "is_count" = some (.ref fCo))
    (GAp : FnOk P w K mg base CX0 4 fAp fdAp ["thing"] (spYes K dPr okPs)) (kAp : PySem.W.keepIn K (.ref fAp) = true) (bAp : Binds K fdAp ["thing"] []) (gAp : mg "are_prices" = some (.ref fAp)) :
    FnOk P w K mg base CX0 5 f fd ["thing"] (spYes K dRow OkRow) := by
  refine F.ok scMr (fun vs H Q E h => ?_) (fun cdv A outer s H vs Q E hr h => ?_)
  · obtain ⟨v, p, rfl, _⟩ := h
    rfl
  · obtain ⟨v, r, rfl, hd, ok, q⟩ := h
    refine ⟨_, (pss_one (ps_ret (pe_and (pe_call GTu (hr.mono (by decide)) (by rfl) gTu kTu bTu .nil pass0 (pa_cons (pv 0) (pa_cons pe_int pa_nil))) (pe_and (pe_call GWo (hr.mono (by decide)) (by rfl) gWo kWo bWo .nil pass0 (pa_cons (pe_ix ix_tup (pv 0) pe_int (fun _ _ => rfl)) pa_nil)) (pe_and (pe_call GCo (hr.mono (by decide)) (by rfl) gCo kCo bCo .nil pass0 (pa_cons (pe_ix ix_tup (pv 0) pe_int (fun _ _ => rfl)) pa_nil)) (pe_one (pe_call GAp (hr.mono (by decide)) (by rfl) gAp kAp bAp .nil pass0 (pa_cons (pe_ix ix_tup (pv 0) pe_int (fun _ _ => rfl)) pa_nil)))))))), ?_⟩
    refine ⟨_, rfl, v, _, 3, rfl, by decide, hd, fun H1 s1 => ⟨_, rfl, iteT ?_⟩⟩
    obtain ⟨a, p, rfl, ha, dp⟩ := dp_row hd
    refine ⟨_, rfl, a, _, 0, _, rfl, rfl, TB.Same.tup s1 ha, atI_nat (j := 0) rfl, _, .str (mkS r.1), rfl, .str _, wd_fit ok.wd, fun H2 s2 => ⟨_, rfl, ?_⟩⟩
    rw [wd_is ok.wd]
    have s12 := s1.trans s2
    refine iteT ⟨_, rfl, a, _, 1, _, rfl, rfl, TB.Same.tup s12 ha, atI_nat (j := 1) rfl, _, .int r.2.1, rfl, .int _, fun H3 s3 => ⟨_, rfl, ?_⟩⟩
    rw [show isCnt (.int r.2.1) = true from decide_eq_true ok.w0]
    have s13 := s12.trans s3
    obtain ⟨b, rb, _⟩ := ok.pr
    exact iteT ⟨_, rfl, a, _, 2, _, rfl, rfl, TB.Same.tup s13 ha, atI_nat (j := 2) rfl, _, r.2.2, rfl, Dp.same s13 _ _ dp, ⟨⟨b, rb⟩, ok.n0, ok.n1⟩, fun H4 s4 => q _ (s13.trans s4)⟩
theorem ok_me {f fMr fRi : Addr} {fd fdMr fdRi : FuncData} (F : Fun K "is_menu" "is_menu" sMe f fd)
    (GMr : FnOk P w K mg base CX0 5 fMr fdMr ["thing"] (spYes K dRow OkRow)) (kMr : PySem.W.keepIn K (.ref fMr) = true) (bMr : Binds K fdMr ["thing"] []) (gMr : mg "is_menu_row" = some (.ref fMr))
    (GRi : FnOk P w K mg base CX0 1 fRi fdRi ["things"] (spRi K)) (kRi : PySem.W.keepIn K (.ref fRi) = true) (bRi : Binds K fdRi ["things"] []) (gRi : mg "rises" = some (.ref fRi))
    (m_isinstance : mg "isinstance" = none) (m_tuple : mg "tuple" = none) (m_all : mg "all" = none) (m_len : mg "len" = none) :
    FnOk P w K mg base CX0 6 f fd ["thing"] (spYes K dMenu OkM) := by
  refine F.ok scMe (fun vs H Q E h => ?_) (fun cdv A outer s H vs Q E hr h => ?_)
  · obtain ⟨v, p, rfl, _⟩ := h
    rfl
  · obtain ⟨v, rows, rfl, hd, ok, q⟩ := h
    refine ⟨_, (pss_one (ps_ret (pe_and (pe_callB call_isi (by rfl) m_isinstance (by decide +kernel) (pa_cons (pv 0) (pa_cons (pe_bltn (v := .ty "tuple") (u := .type "tuple") (by rfl) m_tuple (by decide +kernel) rfl) pa_nil))) (pe_and (pe_cmpR op_gt (pe_callB call_len_seq (by rfl) m_len (by decide +kernel) (pa_cons (pv 0) pa_nil)) pe_int (nomark _)) (pe_and (pe_callB (cr_all rfl) (by rfl) m_all (by decide +kernel) (pa_cons (pe_lc (own := [("row", 1)]) (g := gName 1) (tt := tYes) rfl scMe.nd (pi_tup (pv 0)) (blkOk_by (own := [("row", 1)]) (N := ["thing", "row"]) (sc := defScope sMe) (by decide +kernel)) (fun _ _ _ _ _ => (pg_name (i := 1) scMe.nd rfl (.inl rfl))) (fun _ _ _ _ _ => pts_nil) (fun _ _ _ _ _ => (pe_call GMr (hr.mono (by decide)) (by rfl) gMr kMr bMr .nil pass0 (pa_cons (pv 1) pa_nil)))) pa_nil)) (pe_one (pe_call GRi (hr.mono (by decide)) (by rfl) gRi kRi bRi .nil pass0 (pa_cons (pe_lc (own := [("row", 1)]) (g := gName 1) (tt := tYes) (te := tOp (rIxT K) (tVar 1) (tC (.int 0))) rfl scMe.nd (pi_tup (pv 0)) (blkOk_by (own := [("row", 1)]) (N := ["thing", "row"]) (sc := defScope sMe) (by decide +kernel)) (fun _ _ _ _ _ => (pg_name (i := 1) scMe.nd rfl (.inl rfl))) (fun _ _ _ _ _ => pts_nil) (fun _ _ _ _ _ => (pe_ix ix_tup (pv 1) pe_int (fun _ _ => rfl)))) pa_nil)))))))), ?_⟩
    obtain ⟨t, ty, kt⟩ := isiT hd
    refine ⟨_, rfl, _, .ty "tuple", t, .type "tuple", _, rfl, .ty _, ty, kt, _, rfl, iteT ?_⟩
    obtain ⟨a, xs, rfl, ha, da⟩ := Dp.tup_inv hd
    have ln := DpAll.len da
    rw [List.length_map] at ln
    have n0 := ok.n0
    have n1 := ok.n1
    refine ⟨_, rfl, a, _, rfl, .inr ha, _, _, rfl, rfl, _, rfl, ?_⟩
    rw [decide_eq_true (show (0 : Int) < (xs.length : Int) by omega)]
    refine iteT ?_
    refine ⟨_, rfl, _, rfl, ⟨_, ha⟩, fun D nD => ?_⟩
    refine lc_tup (xs := xs) (fun i G => Same H G ∧ G D = some (.lst ((List.replicate i true).map V.bl))) ⟨same_upd nD, upd_same⟩ (fun i G _ hP => TB.Same.tup hP.1 ha) (fun i x G hx hP => ?_) (fun G hP => ?_)
    · obtain ⟨sg, eD⟩ := hP
      obtain ⟨p, hp, dx⟩ := dp_at da hx
      have il := (List.getElem?_eq_some_iff.mp hp).1
      refine ⟨rfl, yes (iteT ?_)⟩
      exact ⟨_, rfl, x, p, rfl, Dp.same sg _ _ dx, ok.ok p (List.mem_of_getElem? hp), fun G3 s3 => rep_turn nD (sg.trans s3) (s3 _ _ eD) (by omega)⟩
    obtain ⟨sg, eD⟩ := hP
    refine ⟨D, _, rfl, .inl (.inl eD), _, rfl, ?_⟩
    rw [rep_all]
    refine iteT ?_
    refine ⟨_, rfl, _, rfl, ⟨_, TB.Same.tup sg ha⟩, fun D2 nD2 => ?_⟩
    refine lc_tup (xs := xs) (fun i G3 => Same G G3 ∧ G3 D2 = some (.lst (((rows.take i).map Prod.fst).map fun c => V.str (mkS c)))) ⟨same_upd nD2, upd_same⟩ (fun i G3 _ hP => TB.Same.tup (sg.trans hP.1) ha) (fun i x G3 hx hP => ?_) (fun G3 hP => ?_)
    · obtain ⟨s3, e3⟩ := hP
      obtain ⟨p, hp, dx⟩ := dp_at da hx
      obtain ⟨b1, y, rfl, hb1, _⟩ := dp_row (Dp.same (sg.trans s3) _ _ dx)
      refine ⟨rfl, yes (iteT ?_)⟩
      refine ⟨_, rfl, b1, _, 0, _, rfl, rfl, hb1, atI_nat (j := 0) rfl, _, e3, ?_, same_new nD2 s3, ?_⟩
      · rw [List.length_map, List.length_map]
        have := List.length_take_le' i rows
        exact small1000 (by omega)
      · rw [upd_same, map_take_more hp, List.map_append]
        rfl
    obtain ⟨s3, e3⟩ := hP
    rw [List.take_of_length_le (by omega)] at e3
    exact ⟨D2, _, rfl, .inl (.inl (.inl e3)), by rw [List.length_map, List.length_map]; omega, ltv_strs ok.up, fun H4 s4 => q _ (sg.trans (s3.trans s4))⟩
def dWs (cs : List (List Nat)) : PyData := .tuple (cs.map dStr)
structure OkWs (cs : List (List Nat)) : Prop where
  wd : ∀ c ∈ cs, Wd c
  up : Rsg cs
  n1 : cs.length ≤ 20
theorem ok_rw {f fWo fRi : Addr} {fd fdWo fdRi : FuncData} (F : Fun K "are_rising_words" "are_rising_words" sRw f fd)
    (GWo : FnOk P w K mg base CX0 1 fWo fdWo ["thing"] (spKindT K isWrd)) (kWo : PySem.W.keepIn K (.ref fWo) = true) (bWo : Binds K fdWo ["thing"] []) (gWo : mg "is_word" = some (.ref fWo))
    (GRi : FnOk P w K mg base CX0 1 fRi fdRi ["things"] (spRi K)) (kRi : PySem.W.keepIn K (.ref fRi) = true) (bRi : Binds K fdRi ["things"] []) (gRi : mg "rises" = some (.ref fRi))
    (m_isinstance : mg "isinstance" = none) (m_tuple : mg "tuple" = none) (m_all : mg "all" = none) :
    FnOk P w K mg base CX0 2 f fd ["thing"] (spYes K dWs OkWs) := by
  refine F.ok scRw (fun vs H Q E h => ?_) (fun cdv A outer s H vs Q E hr h => ?_)
  · obtain ⟨v, p, rfl, _⟩ := h
    rfl
  · obtain ⟨v, cs, rfl, hd, ok, q⟩ := h
    refine ⟨_, (pss_one (ps_ret (pe_and (pe_callB call_isi (by rfl) m_isinstance (by decide +kernel) (pa_cons (pv 0) (pa_cons (pe_bltn (v := .ty "tuple") (u := .type "tuple") (by rfl) m_tuple (by decide +kernel) rfl) pa_nil))) (pe_and (pe_callB (cr_all rfl) (by rfl) m_all (by decide +kernel) (pa_cons (pe_lc (own := [("word", 1)]) (g := gName 1) (tt := tYes) rfl scRw.nd (pi_tup (pv 0)) (blkOk_by (own := [("word", 1)]) (N := ["thing", "word"]) (sc := defScope sRw) (by decide +kernel)) (fun _ _ _ _ _ => (pg_name (i := 1) scRw.nd rfl (.inl rfl))) (fun _ _ _ _ _ => pts_nil) (fun _ _ _ _ _ => (pe_call GWo (hr.mono (by decide)) (by rfl) gWo kWo bWo .nil pass0 (pa_cons (pv 1) pa_nil)))) pa_nil)) (pe_one (pe_call GRi (hr.mono (by decide)) (by rfl) gRi kRi bRi .nil pass0 (pa_cons (pv 0) pa_nil))))))), ?_⟩
    obtain ⟨t, ty, kt⟩ := isiT hd
    refine ⟨_, rfl, _, .ty "tuple", t, .type "tuple", _, rfl, .ty _, ty, kt, _, rfl, iteT ?_⟩
    obtain ⟨a, xs, rfl, ha, da⟩ := Dp.tup_inv hd
    have ln := DpAll.len da
    rw [List.length_map] at ln
    have n1 := ok.n1
    refine ⟨_, rfl, _, rfl, ⟨_, ha⟩, fun D nD => ?_⟩
    refine lc_tup (xs := xs) (fun i G => Same H G ∧ G D = some (.lst ((List.replicate i true).map V.bl))) ⟨same_upd nD, upd_same⟩ (fun i G _ hP => TB.Same.tup hP.1 ha) (fun i x G hx hP => ?_) (fun G hP => ?_)
    · obtain ⟨sg, eD⟩ := hP
      obtain ⟨p, hp, dx⟩ := dp_at da hx
      have il := (List.getElem?_eq_some_iff.mp hp).1
      have wp := ok.wd p (List.mem_of_getElem? hp)
      refine ⟨rfl, yes (iteT ?_)⟩
      refine ⟨_, rfl, x, _, rfl, Dp.same sg _ _ dx, wd_fit wp, fun G3 s3 => ?_⟩
      rw [show isWrd (dStr p) = true from wd_is wp]
      exact rep_turn nD (sg.trans s3) (s3 _ _ eD) (by omega)
    obtain ⟨sg, eD⟩ := hP
    refine ⟨D, _, rfl, .inl (.inl eD), _, rfl, ?_⟩
    rw [rep_all]
    refine iteT ⟨_, rfl, a, xs, rfl, .inr (TB.Same.tup sg ha), by omega, ?_, fun H4 s4 => q _ (sg.trans s4)⟩
    rw [strs_at da]
    exact ltv_strs ok.up
theorem ok_of {f fTu fRw fAc : Addr} {fd fdTu fdRw fdAc : FuncData} {tW : Value} (F : Fun K "is_off" "is_off" sOf f fd)
    (GTu : FnOk P w K mg base CX0 1 fTu fdTu ["thing", "many"] (spTup K isTup)) (kTu : PySem.W.keepIn K (.ref fTu) = true) (bTu : Binds K fdTu ["thing", "many"] []) (gTu : mg "is_tuple_of" = some (.ref fTu))
    (GRw : FnOk P w K mg base CX0 2 fRw fdRw ["thing"] (spYes K dWs OkWs)) (kRw : PySem.W.keepIn K (.ref fRw) = true) (bRw : Binds K fdRw ["thing"] []) (gRw : mg "are_rising_words" = some (.ref fRw))
    (GAc : FnOk P w K mg base CX0 3 fAc fdAc ["thing", "many"] (spTup K cnts)) (kAc : PySem.W.keepIn K (.ref fAc) = true) (bAc : Binds K fdAc ["thing", "many"] []) (gAc : mg "are_counts" = some (.ref fAc))
    (mgW : mg "WHOLE" = some tW) (rW : RelV (.int 100) tW) :
    FnOk P w K mg base CX0 4 f fd ["thing"] (spYes K dOff OkO) := by
  refine F.ok scOf (fun vs H Q E h => ?_) (fun cdv A outer s H vs Q E hr h => ?_)
  · obtain ⟨v, p, rfl, _⟩ := h
    rfl
  · obtain ⟨v, o, rfl, hd, ok, q⟩ := h
    refine ⟨_, (pss_one (ps_ret (pe_and (pe_call GTu (hr.mono (by decide)) (by rfl) gTu kTu bTu .nil pass0 (pa_cons (pv 0) (pa_cons pe_int pa_nil))) (pe_and (pe_call GRw (hr.mono (by decide)) (by rfl) gRw kRw bRw .nil pass0 (pa_cons (pe_ix ix_tup (pv 0) pe_int (fun _ _ => rfl)) pa_nil)) (pe_and (pe_call GAc (hr.mono (by decide)) (by rfl) gAc kAc bAc .nil pass0 (pa_cons (pe_slice sl_tupA (pv 0) (po_some pe_int) po_none) (pa_cons pe_int pa_nil))) (pe_one (pe_cmpR op_le (pe_ix ix_tup (pv 0) pe_int (fun _ _ => rfl)) (pe_glob (v := .int 100) rfl mgW rW) (nomark _)))))))), ?_⟩
    refine ⟨_, rfl, v, _, 4, rfl, by decide, hd, fun H1 s1 => ⟨_, rfl, iteT ?_⟩⟩
    obtain ⟨a, p, rfl, ha, dp⟩ := dp_off hd
    refine ⟨_, rfl, a, _, 0, _, rfl, rfl, TB.Same.tup s1 ha, atI_nat (j := 0) rfl, p, o.1, rfl, Dp.same s1 _ _ dp, ⟨ok.wd, ok.up, ok.n1⟩, fun H2 s2 => ⟨_, rfl, iteT ?_⟩⟩
    have s12 := s1.trans s2
    refine ⟨_, rfl, _, rfl, ?_⟩
    show tNoPart _ _ _
    unfold tNoPart
    refine slA (TB.Same.tup s12 ha) fun H3 r s3 e3 => ?_
    rw [cut_one] at e3
    have s13 := s12.trans s3
    refine ⟨.ref r, .tuple [.int o.2.1, .int o.2.2.1, .int o.2.2.2], 3, rfl, by decide, .tup e3 (.cons (.int _) (.cons (.int _) (.cons (.int _) .nil))), fun H4 s4 => ⟨_, rfl, ?_⟩⟩
    have cn : cnts 3 (.tuple [.int o.2.1, .int o.2.2.1, .int o.2.2.2]) = true := by
      show (decide (((3 : Nat) : Int) = 3) && (decide (0 ≤ o.2.1) && (decide (0 ≤ o.2.2.1) && (decide (0 ≤ o.2.2.2) && true)))) = true
      rw [decide_eq_true ok.l0, decide_eq_true ok.h0, decide_eq_true ok.p0]
      rfl
    rw [cn]
    have s14 := s13.trans s4
    refine iteT ⟨_, rfl, a, _, 3, _, rfl, rfl, TB.Same.tup s14 ha, atI_nat (j := 3) rfl, _, _, rfl, rfl, ?_⟩
    show Q (.bl (decide (o.2.2.2 ≤ 100))) H4
    rw [decide_eq_true ok.p1]
    exact q _ s14
theorem ok_os {f fOf : Addr} {fd fdOf : FuncData} (F : Fun K "is_offs" "is_offs" sOs f fd)
    (GOf : FnOk P w K mg base CX0 4 fOf fdOf ["thing"] (spYes K dOff OkO)) (kOf : PySem.W.keepIn K (.ref fOf) = true) (bOf : Binds K fdOf ["thing"] []) (gOf : mg "is_off" = some (.ref fOf))
    (m_isinstance : mg "isinstance" = none) (m_tuple : mg "tuple" = none) (m_all : mg "all" = none) :
    FnOk P w K mg base CX0 5 f fd ["thing"] (spYes K dOffs fun os => (∀ o ∈ os, OkO o) ∧ os.length ≤ 20) := by
  refine F.ok scOs (fun vs H Q E h => ?_) (fun cdv A outer s H vs Q E hr h => ?_)
  · obtain ⟨v, p, rfl, _⟩ := h
    rfl
  · obtain ⟨v, os, rfl, hd, ⟨ok, n1⟩, q⟩ := h
    refine ⟨_, (pss_one (ps_ret (pe_and (pe_callB call_isi (by rfl) m_isinstance (by decide +kernel) (pa_cons (pv 0) (pa_cons (pe_bltn (v := .ty "tuple") (u := .type "tuple") (by rfl) m_tuple (by decide +kernel) rfl) pa_nil))) (pe_one (pe_callB (cr_all rfl) (by rfl) m_all (by decide +kernel) (pa_cons (pe_lc (own := [("off", 1)]) (g := gName 1) (tt := tYes) rfl scOs.nd (pi_tup (pv 0)) (blkOk_by (own := [("off", 1)]) (N := ["thing", "off"]) (sc := defScope sOs) (by decide +kernel)) (fun _ _ _ _ _ => (pg_name (i := 1) scOs.nd rfl (.inl rfl))) (fun _ _ _ _ _ => pts_nil) (fun _ _ _ _ _ => (pe_call GOf (hr.mono (by decide)) (by rfl) gOf kOf bOf .nil pass0 (pa_cons (pv 1) pa_nil)))) pa_nil)))))), ?_⟩
    obtain ⟨t, ty, kt⟩ := isiT hd
    refine ⟨_, rfl, _, .ty "tuple", t, .type "tuple", _, rfl, .ty _, ty, kt, _, rfl, iteT ?_⟩
    obtain ⟨a, xs, rfl, ha, da⟩ := Dp.tup_inv hd
    have ln := DpAll.len da
    rw [List.length_map] at ln
    refine ⟨_, rfl, _, rfl, ⟨_, ha⟩, fun D nD => ?_⟩
    refine lc_tup (xs := xs) (fun i G => Same H G ∧ G D = some (.lst ((List.replicate i true).map V.bl))) ⟨same_upd nD, upd_same⟩ (fun i G _ hP => TB.Same.tup hP.1 ha) (fun i x G hx hP => ?_) (fun G hP => ?_)
    · obtain ⟨sg, eD⟩ := hP
      obtain ⟨p, hp, dx⟩ := dp_at da hx
      have il := (List.getElem?_eq_some_iff.mp hp).1
      refine ⟨rfl, yes (iteT ?_)⟩
      exact ⟨_, rfl, x, p, rfl, Dp.same sg _ _ dx, ok p (List.mem_of_getElem? hp), fun G3 s3 => rep_turn nD (sg.trans s3) (s3 _ _ eD) (by omega)⟩
    obtain ⟨sg, eD⟩ := hP
    refine ⟨D, _, rfl, .inl (.inl eD), ?_⟩
    rw [rep_all]
    exact q _ sg
end
end K06

set_option Elab.async false
set_option linter.all false
set_option maxRecDepth 100000
set_option maxHeartbeats 1000000
namespace K06
open PySem PySem.Spec PyProof.Rows L2 TB

theorem scRo : FnScope ["menu", "item", "row"] ["menu", "item"] (defScope sRo) := ⟨rfl, rfl, rfl, by decide +kernel, rfl, by decide +kernel, by decide +kernel⟩
theorem scPc : FnScope ["menu", "item", "minute", "prices", "start", "pence"] ["menu", "item", "minute"] (defScope sPc) := ⟨rfl, rfl, rfl, by decide +kernel, rfl, by decide +kernel, by decide +kernel⟩
theorem scPa : FnScope ["offs", "item", "minute", "items", "start", "until", "percent"] ["offs", "item", "minute"] (defScope sPa) := ⟨rfl, rfl, rfl, by decide +kernel, rfl, by decide +kernel, by decide +kernel⟩
theorem scCs : FnScope ["menu", "offs", "item", "minute", "hundredths"] ["menu", "offs", "item", "minute"] (defScope sCs) := ⟨rfl, rfl, rfl, by decide +kernel, rfl, by decide +kernel, by decide +kernel⟩
theorem row_one {rows : List Row} (nd : (rows.map Prod.fst).Nodup) {p r : Row} (hp : p ∈ rows) (hr : r ∈ rows) (e : p.1 = r.1) : p = r := by
  induction rows with
  | nil => cases hp
  | cons x rows ih =>
    have n := List.nodup_cons.mp nd
    rcases List.mem_cons.mp hp with hp | hp
    · rcases List.mem_cons.mp hr with hr | hr
      · rw [hp, hr]
      · exact absurd (List.mem_map.mpr ⟨r, hr, by rw [← e, hp]⟩) n.1
    · rcases List.mem_cons.mp hr with hr | hr
      · exact absurd (List.mem_map.mpr ⟨p, hp, by rw [e, hr]⟩) n.1
      · exact ih n.2 hp hr
theorem dec_str (a b : List Nat) : decide (V.str (mkS a) = V.str (mkS b)) = decide (a = b) := by
  by_cases c : a = b
  · rw [c, decide_eq_true rfl, decide_eq_true rfl]
  · rw [decide_eq_false c, decide_eq_false fun z => c (mkS_inj (V.str.inj z))]
/-! ### what is told -/
def pcs (ps : List (Int × Int)) (m : Int) : List Int := (ps.filter fun p => decide (p.1 ≤ m)).map Prod.snd
def prc (ps : List (Int × Int)) (m : Int) : Int := (pcs ps m).getLast?.getD 0
def hold (c : List Nat) (m : Int) (o : Off) : Bool := decide (c ∈ o.1) && (decide (o.2.1 ≤ m) && decide (m < o.2.2.1))
def pers (os : List Off) (c : List Nat) (m : Int) : List Int := (os.filter (hold c m)).map fun o => o.2.2.2
def mx : List Int → Int
  | [] => 0
  | x :: xs => if mx xs < x then x else mx xs
theorem mx_nn : ∀ xs : List Int, 0 ≤ mx xs
  | [] => Int.le_refl 0
  | x :: xs => by
    have := mx_nn xs
    unfold mx
    split <;> omega
theorem mx_ge : ∀ {xs : List Int} {x : Int}, x ∈ xs → x ≤ mx xs
  | [], _, h => nomatch h
  | y :: xs, x, h => by
    unfold mx
    rcases List.mem_cons.mp h with rfl | h
    · split <;> omega
    · have := mx_ge h
      split <;> omega
theorem mx_le : ∀ {xs : List Int} {b : Int}, 0 ≤ b → (∀ x ∈ xs, x ≤ b) → mx xs ≤ b
  | [], _, h, _ => h
  | y :: xs, b, h0, h => by
    have a := mx_le h0 fun x hx => h x (List.mem_cons_of_mem _ hx)
    have b := h y List.mem_cons_self
    unfold mx
    split <;> omega
theorem mx_is {xs : List Int} {m : Int} (h0 : 0 ≤ m) (hm : m ∈ xs) (h : ∀ y, y ∈ xs → y ≤ m) : mx xs = m := Int.le_antisymm (mx_le h0 h) (mx_ge hm)
def pct (os : List Off) (c : List Nat) (m : Int) : Int := mx (pers os c m)
def cst (ps : List (Int × Int)) (os : List Off) (c : List Nat) (m : Int) : Int := (prc ps m * (100 - pct os c m) + 100 - 1) / 100
theorem prc_b {ps : List (Int × Int)} {b m : Int} (h : Ris ps b) (n : 0 < ps.length) (m0 : 0 ≤ m) : ∃ l, pcs ps m ≠ [] ∧ (pcs ps m).getLast? = some l ∧ prc ps m = l ∧ 0 ≤ l ∧ l ≤ 100000 := by
  have ne : pcs ps m ≠ [] := by
    cases ps with
    | nil => simp at n
    | cons p ps =>
      have h0 : p.1 = 0 := by simpa using h.hd
      unfold pcs
      rw [List.filter_cons, if_pos (decide_eq_true (by omega))]
      simp
  obtain ⟨l, hl⟩ : ∃ l, (pcs ps m).getLast? = some l := ⟨_, List.getLast?_eq_getLast ne⟩
  refine ⟨l, ne, hl, by unfold prc; rw [hl]; rfl, ?_⟩
  have mem := List.mem_of_getLast? hl
  obtain ⟨p, hp, rfl⟩ := List.mem_map.mp mem
  have := h.lo p (List.mem_filter.mp hp).1
  exact ⟨this.2.2.1, this.2.2.2⟩
theorem pct_b {os : List Off} (ok : ∀ o ∈ os, OkO o) (c : List Nat) (m : Int) : 0 ≤ pct os c m ∧ pct os c m ≤ 100 := by
  refine ⟨mx_nn _, mx_le (by decide) fun x hx => ?_⟩
  obtain ⟨o, ho, rfl⟩ := List.mem_map.mp hx
  exact (ok o (List.mem_filter.mp ho).1).p1
theorem ixN_last {n : Nat} (h : 0 < n) : ixN n (-1) = some (n - 1) := by
  unfold ixN
  rw [if_neg (by decide), if_pos (by omega)]
  congr 1
  omega
section
variable {P : Program} {w : World} {K : PySem.W.Frag} {mg : Str → Option Value} {base : Heap}
def spRo (K : PySem.W.Frag) : Sp := fun vs H Q _ => ∃ (v : V) (rows : List Row) (r : Row), vs = [v, .str (mkS r.1)] ∧ Dp K H v (dMenu rows) ∧ OkM rows ∧ r ∈ rows ∧ ∀ H' x, Same H H' → Dp K H' x (dRow r) → Q x H'
theorem ok_ro {f : Addr} {fd : FuncData} {k : Nat} (F : Fun K "menu_row" "menu_row" sRo f fd) : FnOk P w K mg base CX0 (k + 1) f fd ["menu", "item"] (spRo K) := by
  refine F.ok scRo (fun vs H Q E h => ?_) (fun cdv A outer s H vs Q E hr h => ?_)
  · obtain ⟨v, rows, r, rfl, _⟩ := h
    rfl
  · obtain ⟨v, rows, r, rfl, hd, ok, hm, q⟩ := h
    refine ⟨_, (pss_cons (ps_for PassesOwn.never rfl (pi_tup (pv 0)) (pg_name (i := 2) scRo.nd rfl (.inl rfl)) (pss_one (ps_if (pt_cmpR op_eq (pe_ix ix_tup (pv 2) pe_int (fun _ _ => rfl)) (pv 1) (nomark _)) (pss_one (ps_ret (pv 2))) pss_nil)))
      (pss_one ps_never)), ?_⟩
    obtain ⟨a, xs, rfl, ha, da⟩ := Dp.tup_inv hd
    have ln := DpAll.len da
    rw [List.length_map] at ln
    refine ⟨_, rfl, a, rfl, ⟨_, ha⟩, ?_⟩
    refine for_tup (xs := xs) (fun i σ G => ∃ y2, σ = [some (.ref a), some (.str (mkS r.1)), y2] ∧ Same H G ∧ ∀ p ∈ rows.take i, p.1 ≠ r.1) ⟨_, rfl, Same.refl _, fun p hp => (by cases hp)⟩ ?_ ?_ ?_
    · rintro i σ G _ ⟨y2, rfl, sg, _⟩
      exact TB.Same.tup sg ha
    · rintro i x σ G hx ⟨y2, rfl, sg, no⟩
      obtain ⟨p, hp, dx⟩ := dp_at da hx
      have dx2 := Dp.same sg _ _ dx
      obtain ⟨b, y, rfl, hb, _⟩ := dp_row dx2
      refine ⟨_, rfl, b, _, 0, _, rfl, rfl, hb, atI_nat (j := 0) rfl, _, rfl, rfl, _, rfl, ?_⟩
      rw [dec_str]
      refine ite2 (fun c => ?_) (fun c => ?_)
      · have e : p.1 = r.1 := of_decide_eq_true c
        have epr := row_one ok.nd (List.mem_of_getElem? hp) hm e
        refine ⟨_, rfl, ?_⟩
        rw [epr] at dx2
        exact q _ _ sg dx2
      · refine ⟨_, rfl, sg, fun p' hp' => ?_⟩
        rw [take_more hp] at hp'
        rcases List.mem_append.mp hp' with z | z
        · exact no p' z
        · rw [List.mem_singleton.mp z]
          exact fun e => c (decide_eq_true e)
    · rintro σ G ⟨y2, rfl, sg, no⟩
      rw [List.take_of_length_le (by omega)] at no
      exact absurd rfl (no r hm)
def spPc (K : PySem.W.Frag) : Sp := fun vs H Q _ => ∃ (v : V) (rows : List Row) (r : Row) (m : Int), vs = [v, .str (mkS r.1), .int m] ∧ Dp K H v (dMenu rows) ∧ OkM rows ∧ r ∈ rows ∧ 0 ≤ m ∧ ∀ H', Same H H' → Q (.int (prc r.2.2 m)) H'
theorem ok_pc {f fRo : Addr} {fd fdRo : FuncData} {dvs : List V} (F : FunD K "price" "price" (defArgs sPc) (defBody sPc) (defScope sPc) dvs [] f fd)
    (GRo : FnOk P w K mg base CX0 1 fRo fdRo ["menu", "item"] (spRo K)) (kRo : PySem.W.keepIn K (.ref fRo) = true) (bRo : Binds K fdRo ["menu", "item"] []) (gRo : mg "menu_row" = some (.ref fRo)) :
    FnOk P w K mg base CX0 2 f fd ["menu", "item", "minute"] (spPc K) := by
  refine F.ok scPc (fun vs H Q E h => ?_) (fun cdv A outer s H vs Q E hr h => ?_)
  · obtain ⟨v, rows, r, m, rfl, _⟩ := h
    rfl
  · obtain ⟨v, rows, r, m, rfl, hd, ok, hm, m0, q⟩ := h
    refine ⟨_, (pss_cons (ps_set (i := 3) scPc.nd rfl (.inl rfl) (pe_ix ix_tup (pe_call GRo (hr.mono (by decide)) (by rfl) gRo kRo bRo .nil pass0 (pa_cons (pv 0) (pa_cons (pv 1) pa_nil))) pe_int (fun _ _ => rfl)))
      (pss_one (ps_ret (pe_ix ix_list (pe_lc (own := [("start", 4), ("pence", 5)]) (g := gTup K 2 (gCons (gName 4) (gCons (gName 5) gNil))) rfl scPc.nd (pi_tup (pv 3)) (blkOk_by (own := [("start", 4), ("pence", 5)]) (N := ["menu", "item", "minute", "prices", "start", "pence"]) (sc := defScope sPc) (by decide +kernel)) (fun _ _ _ _ _ => (pg_tup rfl (pgs_cons (pg_name (i := 4) scPc.nd rfl (.inl rfl)) (pgs_cons (pg_name (i := 5) scPc.nd rfl (.inl rfl)) pgs_nil)))) (fun _ _ _ _ _ => (pts_one (pt_cmpR op_le (pv 4) (pv 2) (nomark _)))) (fun _ _ _ _ _ => (pv 5))) (pe_un un_neg pe_int) (fun _ _ => rfl))))), ?_⟩
    refine ⟨_, rfl, _, rfl, v, rows, r, rfl, hd, ok, hm, fun H1 x s1 dx => ?_⟩
    obtain ⟨a, p, rfl, ha, dp⟩ := dp_row dx
    have okr := ok.ok r hm
    obtain ⟨b, rb, _⟩ := okr.pr
    obtain ⟨l, ne, hl, el, _⟩ := prc_b rb okr.n0 m0
    refine ⟨a, _, 2, _, rfl, rfl, ha, atI_nat (j := 2) rfl, ?_⟩
    show tSeq _ _ _ [some v, some (.str (mkS r.1)), some (.int m), some p, none, none] _
    obtain ⟨c, xs, rfl, hc, dc⟩ := Dp.tup_inv dp
    have ln := DpAll.len dc
    rw [List.length_map] at ln
    have n1 := okr.n1
    refine ⟨_, rfl, c, rfl, ⟨_, hc⟩, fun D nD => ?_⟩
    refine lc_tup (xs := xs) (fun i G => Same H1 G ∧ G D = some (.lst ((pcs (r.2.2.take i) m).map V.int))) ⟨same_upd nD, upd_same⟩ (fun i G _ hP => TB.Same.tup hP.1 hc) (fun i x G hx hP => ?_) (fun G hP => ?_)
    · obtain ⟨sg, eD⟩ := hP
      obtain ⟨pp, hp, dx2⟩ := dp_at dc hx
      obtain ⟨b1, rfl, hb1⟩ := dp_pair (Dp.same sg _ _ dx2)
      have mo : pcs (r.2.2.take (i + 1)) m = pcs (r.2.2.take i) m ++ if pp.1 ≤ m then [pp.2] else [] := by
        unfold pcs
        rw [take_more hp, List.filter_append, List.map_append, List.filter_cons]
        by_cases z : pp.1 ≤ m
        · rw [if_pos (decide_eq_true z), if_pos z]
          rfl
        · rw [if_neg (fun k => z (of_decide_eq_true k)), if_neg z]
          rfl
      refine ⟨b1, _, rfl, hb1, rfl, _, _, rfl, _, _, rfl, rfl, rfl, ?_⟩
      refine ⟨_, rfl, _, rfl, _, _, rfl, rfl, _, rfl, ite2 (fun z => ?_) (fun z => ?_)⟩
      · have z' : pp.1 ≤ m := of_decide_eq_true z
        rw [if_pos z'] at mo
        refine ⟨_, rfl, _, eD, ?_, same_new nD sg, ?_⟩
        · rw [List.length_map]
          unfold pcs
          rw [List.length_map]
          have a1 := List.length_filter_le (fun p : Int × Int => decide (p.1 ≤ m)) (r.2.2.take i)
          have a2 := List.length_take_le' i r.2.2
          exact small1000 (by omega)
        · rw [upd_same, mo, List.map_append]
          rfl
      · have z' : ¬ pp.1 ≤ m := fun k => z (decide_eq_true k)
        rw [if_neg z', List.append_nil] at mo
        rw [mo]
        exact ⟨sg, eD⟩
    obtain ⟨sg, eD⟩ := hP
    rw [List.take_of_length_le (by omega)] at eD
    refine ⟨_, rfl, D, _, -1, .int l, rfl, rfl, .inl (.inl eD), ?_, ?_⟩
    · have lp : 0 < ((pcs r.2.2 m).map V.int).length := by
        rw [List.length_map]
        exact List.length_pos_iff.mpr ne
      unfold atI
      rw [ixN_last lp]
      show ((pcs r.2.2 m).map V.int)[((pcs r.2.2 m).map V.int).length - 1]? = _
      rw [← List.getLast?_eq_getElem?, List.getLast?_map, hl]
      rfl
    · rw [← el]
      exact q _ (s1.trans sg)
def spPa (K : PySem.W.Frag) : Sp := fun vs H Q _ => ∃ (v : V) (os : List Off) (c : List Nat) (m : Int), vs = [v, .str (mkS c), .int m] ∧ Dp K H v (dOffs os) ∧ (∀ o ∈ os, OkO o) ∧ os.length ≤ 20 ∧ ∀ H', Same H H' → Q (.int (pct os c m)) H'
theorem ok_pa {f : Addr} {fd : FuncData} {k : Nat} {dvs : List V} (F : FunD K "percent_at" "percent_at" (defArgs sPa) (defBody sPa) (defScope sPa) dvs [] f fd) (m_max : mg "max" = none) :
    FnOk P w K mg base CX0 (k + 1) f fd ["offs", "item", "minute"] (spPa K) := by
  refine F.ok scPa (fun vs H Q E h => ?_) (fun cdv A outer s H vs Q E hr h => ?_)
  · obtain ⟨v, os, c, m, rfl, _⟩ := h
    rfl
  · obtain ⟨v, os, c, m, rfl, hd, ok, n1, q⟩ := h
    refine ⟨_, pss_one (ps_ret (pe_callBK (cr_maxDf rfl) (by rfl) m_max (by decide +kernel) (pa_cons (pe_lc (own := [("items", 3), ("start", 4), ("until", 5), ("percent", 6)]) (g := gTup K 4 (gCons (gName 3) (gCons (gName 4) (gCons (gName 5) (gCons (gName 6) gNil))))) (tt := tAnd (tTest (tOp (rIn K false) (tVar 1) (tVar 3))) (tTest (tChain (rI0 fun i j => .bl (decide (i ≤ j))) (rI0 fun i j => .bl (decide (i < j))) (tVar 4) (tVar 2) (tVar 5)))) rfl scPa.nd (pi_tup (pv 0)) (blkOk_by (own := [("items", 3), ("start", 4), ("until", 5), ("percent", 6)]) (N := ["offs", "item", "minute", "items", "start", "until", "percent"]) (sc := defScope sPa) (by decide +kernel)) (fun _ _ _ _ _ => (pg_tup rfl (pgs_cons (pg_name (i := 3) scPa.nd rfl (.inl rfl)) (pgs_cons (pg_name (i := 4) scPa.nd rfl (.inl rfl)) (pgs_cons (pg_name (i := 5) scPa.nd rfl (.inl rfl)) (pgs_cons (pg_name (i := 6) scPa.nd rfl (.inl rfl)) pgs_nil)))))) (fun _ _ _ _ _ => (pts_one (PW.pt (pw_and (pt_cmpR op_in_seq (pv 1) (pv 3) (by rfl)) (pw_and1 (pt_chain op_le op_lt (pv 4) (pv 2) (pv 5))))))) (fun _ _ _ _ _ => (pv 6))) pa_nil) (pk_cons pe_int pk_nil))), ?_⟩
    obtain ⟨a, xs, rfl, ha, da⟩ := Dp.tup_inv hd
    have ln := DpAll.len da
    rw [List.length_map] at ln
    refine ⟨_, rfl, a, rfl, ⟨_, ha⟩, fun D nD => ?_⟩
    refine lc_tup (xs := xs) (fun i G => Same H G ∧ G D = some (.lst ((pers (os.take i) c m).map V.int))) ⟨same_upd nD, upd_same⟩ (fun i G _ hP => TB.Same.tup hP.1 ha) (fun i x G hx hP => ?_) (fun G hP => ?_)
    · obtain ⟨sg, eD⟩ := hP
      obtain ⟨o, ho, dx⟩ := dp_at da hx
      obtain ⟨b1, p1, rfl, hb1, dp1⟩ := dp_off (Dp.same sg _ _ dx)
      obtain ⟨b2, ys, rfl, hb2, dy⟩ := Dp.tup_inv dp1
      have ey := strs_at dy
      have mo : pers (os.take (i + 1)) c m = pers (os.take i) c m ++ if hold c m o = true then [o.2.2.2] else [] := by
        unfold pers
        rw [take_more ho, List.filter_append, List.map_append, List.filter_cons]
        by_cases z : hold c m o = true
        · rw [if_pos z, if_pos z]
          rfl
        · rw [if_neg z, if_neg z]
          rfl
      refine ⟨b1, _, rfl, hb1, rfl, _, _, rfl, _, _, rfl, _, _, rfl, _, _, rfl, rfl, rfl, ?_⟩
      have none_more : hold c m o = false → Same H G ∧ G D = some (.lst ((pers (os.take (i + 1)) c m).map V.int)) := fun z => by
        rw [if_neg (by rw [z]; decide), List.append_nil] at mo
        rw [mo]
        exact ⟨sg, eD⟩
      refine ⟨_, rfl, _, rfl, b2, ys, rfl, .inr hb2, rfl, by rw [ey]; exact wStrs_flat o.1, _, rfl, ?_⟩
      rw [show inV (.str (mkS c)) ys = decide (c ∈ o.1) by rw [ey]; exact in_wStrs c o.1]
      change ite _ _ _
      refine ite2 (fun z1 => ?_) (fun z1 => ?_)
      · have z1' : decide (c ∈ o.1) = true := z1
        refine ⟨_, rfl, _, rfl, _, _, rfl, rfl, _, rfl, ?_⟩
        refine ite2 (fun z2 => ?_) (fun z2 => ?_)
        · have z2' : decide (o.2.1 ≤ m) = true := z2
          refine ⟨_, rfl, _, _, rfl, rfl, _, rfl, ?_⟩
          change ite _ _ _
          refine ite2 (fun z3 => ?_) (fun z3 => ?_)
          · have z3' : decide (m < o.2.2.1) = true := z3
            have hz : hold c m o = true := by
              unfold hold
              rw [z1', z2', z3']
              rfl
            rw [if_pos hz] at mo
            refine ⟨_, rfl, _, eD, ?_, same_new nD sg, ?_⟩
            · rw [List.length_map]
              unfold pers
              rw [List.length_map]
              have a1 := List.length_filter_le (hold c m) (os.take i)
              have a2 := List.length_take_le' i os
              exact small1000 (by omega)
            · rw [upd_same, mo, List.map_append]
              rfl
          · refine none_more ?_
            unfold hold
            rw [show decide (m < o.2.2.1) = false by simpa using z3, Bool.and_false, Bool.and_false]
        · refine ⟨_, rfl, ?_⟩
          refine iteF (none_more ?_)
          unfold hold
          rw [show decide (o.2.1 ≤ m) = false by simpa using z2, Bool.false_and, Bool.and_false]
      · refine none_more ?_
        unfold hold
        rw [show decide (c ∈ o.1) = false by simpa using z1, Bool.false_and]
    obtain ⟨sg, eD⟩ := hP
    rw [List.take_of_length_le (by omega)] at eD
    refine ⟨D, _, _, rfl, rfl, .inl (.inl eD), fun z => ?_, fun mm hm hx => ?_⟩
    · have : pct os c m = 0 := by
        unfold pct
        rw [z]
        rfl
      have q1 := q _ sg
      rw [this] at q1
      exact q1
    · have h0 : 0 ≤ mm := by
        obtain ⟨o, ho, rfl⟩ := List.mem_map.mp hm
        exact (ok o (List.mem_filter.mp ho).1).p0
      have : pct os c m = mm := mx_is h0 hm hx
      have q1 := q _ sg
      rw [this] at q1
      exact q1
end
end K06

set_option Elab.async false
set_option linter.all false
set_option maxRecDepth 100000
set_option maxHeartbeats 1000000
namespace K06
open PySem PySem.Spec PyProof.Rows L2 TB

theorem scOr : FnScope ["_law_menu_here", "_law_offs_here", "_law_item", "_law_minute", "_law_pays", "_law_comes", "_law_percent", "_law_bar"] ["_law_menu_here", "_law_offs_here", "_law_item", "_law_minute"] (defScope sOr) := ⟨rfl, rfl, rfl, by decide +kernel, rfl, by decide +kernel, by decide +kernel⟩
section
variable {P : Program} {w : World} {K : PySem.W.Frag} {mg : Str → Option Value} {base : Heap}
def spCs (K : PySem.W.Frag) : Sp := fun vs H Q _ => ∃ (v u : V) (rows : List Row) (r : Row) (os : List Off) (m : Int), vs = [v, u, .str (mkS r.1), .int m] ∧ Dp K H v (dMenu rows) ∧ Dp K H u (dOffs os) ∧ OkM rows ∧ r ∈ rows ∧ (∀ o ∈ os, OkO o) ∧ os.length ≤ 20 ∧ 0 ≤ m ∧ ∀ H', Same H H' → Q (.int (cst r.2.2 os r.1 m)) H'
theorem ok_cs {f fPc fPa : Addr} {fd fdPc fdPa : FuncData} {dvs : List V} {tW : Value} (F : FunD K "cost" "cost" (defArgs sCs) (defBody sCs) (defScope sCs) dvs [] f fd)
    (GPc : FnOk P w K mg base CX0 2 fPc fdPc ["menu", "item", "minute"] (spPc K)) (kPc : PySem.W.keepIn K (.ref fPc) = true) (bPc : Binds K fdPc ["menu", "item", "minute"] []) (gPc : mg "price" = some (.ref fPc))
    (GPa : FnOk P w K mg base CX0 1 fPa fdPa ["offs", "item", "minute"] (spPa K)) (kPa : PySem.W.keepIn K (.ref fPa) = true) (bPa : Binds K fdPa ["offs", "item", "minute"] []) (gPa : mg "percent_at" = some (.ref fPa))
    (mgW : mg "WHOLE" = some tW) (rW : RelV (.int 100) tW) :
    FnOk P w K mg base CX0 3 f fd ["menu", "offs", "item", "minute"] (spCs K) := by
  refine F.ok scCs (fun vs H Q E h => ?_) (fun cdv A outer s H vs Q E hr h => ?_)
  · obtain ⟨v, u, rows, r, os, m, rfl, _⟩ := h
    rfl
  · obtain ⟨v, u, rows, r, os, m, rfl, hd, ho, ok, hm, oko, n1, m0, q⟩ := h
    refine ⟨_, (pss_cons (ps_set (i := 4) scCs.nd rfl (.inl rfl) (pe_op op_mul (pe_call GPc (hr.mono (by decide)) (by rfl) gPc kPc bPc .nil pass0 (pa_cons (pv 0) (pa_cons (pv 2) (pa_cons (pv 3) pa_nil)))) (pe_op op_sub (pe_glob (v := .int 100) rfl mgW rW) (pe_call GPa (hr.mono (by decide)) (by rfl) gPa kPa bPa .nil pass0 (pa_cons (pv 1) (pa_cons (pv 2) (pa_cons (pv 3) pa_nil)))))))
      (pss_one (ps_ret (pe_op op_fdivW (pe_op op_sub (pe_op op_add (pv 4) (pe_glob (v := .int 100) rfl mgW rW)) pe_int) (pe_glob (v := .int 100) rfl mgW rW))))), ?_⟩
    have okr := ok.ok r hm
    obtain ⟨b, rb, _⟩ := okr.pr
    obtain ⟨l, _, _, el, l0, l1⟩ := prc_b rb okr.n0 m0
    obtain ⟨p0, p1⟩ := pct_b oko r.1 m
    refine ⟨_, rfl, _, rfl, _, rfl, v, rows, r, m, rfl, hd, ok, hm, m0, fun H1 s1 => ?_⟩
    refine ⟨_, rfl, _, rfl, _, rfl, u, os, r.1, m, rfl, Dp.same s1 _ _ ho, oko, n1, fun H2 s2 => ?_⟩
    refine ⟨_, _, rfl, rfl, _, _, rfl, rfl, .inr ⟨by omega, by omega⟩, ?_⟩
    rw [el]
    have qq := q _ (s1.trans s2)
    unfold cst at qq
    rw [el] at qq
    generalize pct os r.1 m = pp at *
    have b1 : 0 ≤ l * (100 - pp) := Int.mul_nonneg l0 (by omega)
    have b2 : l * (100 - pp) ≤ 100000 * 100 := Int.mul_le_mul l1 (by omega) (by omega) (by decide)
    show tSeq _ _ _ [some v, some u, some (.str (mkS r.1)), some (.int m), some (.int (l * (100 - pp)))] _
    refine ⟨_, rfl, _, _, rfl, rfl, _, _, rfl, rfl, _, _, rfl, rfl, wide_div (b := 60) (by decide) (by omega) (by omega) (by omega), ?_⟩
    exact qq
theorem cst_facts {l pp : Int} (l0 : 0 ≤ l) (p0 : 0 ≤ pp) (p1 : pp ≤ 100) : ∃ B C z : Int, l * (100 - pp) = B ∧ (B + 100 - 1) / 100 = C ∧ l * pp = z ∧ B = 100 * l - z ∧ 0 ≤ z ∧ z ≤ 100 * l ∧ 0 ≤ B ∧ 0 ≤ C ∧ C ≤ l ∧ B ≤ 100 * C ∧ 100 * (C - 1) < B ∧ (pp = 0 → C = l) ∧ (pp = 100 → C = 0) ∧ (0 < pp → 100 ≤ l → C < l) := by
  have hz0 : 0 ≤ l * pp := Int.mul_nonneg l0 p0
  have hz1 : l * pp ≤ l * 100 := Int.mul_le_mul_of_nonneg_left p1 l0
  have hz2 : 0 < pp → l ≤ l * pp := fun h => by
    have := Int.mul_le_mul_of_nonneg_left (show 1 ≤ pp from h) l0
    rwa [Int.mul_one] at this
  have hb : l * (100 - pp) = 100 * l - l * pp := by
    rw [Int.mul_sub, Int.mul_comm l 100]
  have hq0 : pp = 0 → l * pp = 0 := fun h => by rw [h, Int.mul_zero]
  have hq1 : pp = 100 → l * pp = 100 * l := fun h => by rw [h, Int.mul_comm]
  refine ⟨_, _, _, rfl, rfl, rfl, hb, hz0, by omega, by omega, ?_⟩
  rw [hb]
  generalize l * pp = z at *
  refine ⟨by omega, by omega, by omega, by omega, fun h => ?_, fun h => ?_, fun h h2 => ?_⟩
  · have := hq0 h
    omega
  · have := hq1 h
    omega
  · have := hz2 h
    omega
def spOr (K : PySem.W.Frag) : Sp := fun vs H Q _ => ∃ (v u : V) (rows : List Row) (r : Row) (os : List Off) (m : Int), vs = [v, u, .str (mkS r.1), .int m] ∧ Dp K H v (dMenu rows) ∧ Dp K H u (dOffs os) ∧ OkM rows ∧ r ∈ rows ∧ (∀ o ∈ os, OkO o) ∧ os.length ≤ 20 ∧ 0 ≤ m ∧ ∀ H', Same H H' → Q (.bl true) H'
theorem ok_or {f fPc fPa fCs : Addr} {fd fdPc fdPa fdCs : FuncData} (F : Fun K "_law_one_right" "_law_one_right" sOr f fd)
    (GPc : FnOk P w K mg base CX0 2 fPc fdPc ["menu", "item", "minute"] (spPc K)) (kPc : PySem.W.keepIn K (.ref fPc) = true) (bPc : Binds K fdPc ["menu", "item", "minute"] []) (gPc : mg "price" = some (.ref fPc))
    (GPa : FnOk P w K mg base CX0 1 fPa fdPa ["offs", "item", "minute"] (spPa K)) (kPa : PySem.W.keepIn K (.ref fPa) = true) (bPa : Binds K fdPa ["offs", "item", "minute"] []) (gPa : mg "percent_at" = some (.ref fPa))
    (GCs : FnOk P w K mg base CX0 3 fCs fdCs ["menu", "offs", "item", "minute"] (spCs K)) (kCs : PySem.W.keepIn K (.ref fCs) = true) (bCs : Binds K fdCs ["menu", "offs", "item", "minute"] []) (gCs : mg "cost" = some (.ref fCs)) :
    FnOk P w K mg base CX0 4 f fd ["_law_menu_here", "_law_offs_here", "_law_item", "_law_minute"] (spOr K) := by
  refine F.ok scOr (fun vs H Q E h => ?_) (fun cdv A outer s H vs Q E hr h => ?_)
  · obtain ⟨v, u, rows, r, os, m, rfl, _⟩ := h
    rfl
  · obtain ⟨v, u, rows, r, os, m, rfl, hd, ho, ok, hm, oko, n1, m0, q⟩ := h
    refine ⟨_, (pss_cons (ps_par3 (i := 4) (j := 5) (l := 6) (by rfl) scOr.nd rfl rfl rfl (by decide) (by decide) (by decide) rfl rfl rfl (pa_cons (pe_call GPc (hr.mono (by decide)) (by rfl) gPc kPc bPc .nil pass0 (pa_cons (pv 0) (pa_cons (pv 2) (pa_cons (pv 3) pa_nil)))) (pa_cons (pe_call GCs (hr.mono (by decide)) (by rfl) gCs kCs bCs .nil pass0 (pa_cons (pv 0) (pa_cons (pv 1) (pa_cons (pv 2) (pa_cons (pv 3) pa_nil))))) (pa_cons (pe_call GPa (hr.mono (by decide)) (by rfl) gPa kPa bPa .nil pass0 (pa_cons (pv 1) (pa_cons (pv 2) (pa_cons (pv 3) pa_nil)))) pa_nil))) (by rfl))
      (pss_cons (ps_if (PW.pt (pw_or (pt_cmpR op_lt (pv 5) pe_int (nomark _)) (pw_or (pt_cmpR op_gt (pv 5) (pv 4) (nomark _)) (pw_or (pt_cmpR op_lt (pv 6) pe_int (nomark _)) (pw_or1 (pt_cmpR op_gt (pv 6) pe_int (nomark _))))))) (pss_one (ps_ret pe_bl)) pss_nil)
      (pss_cons (ps_cut (ps_if (PW.pt (pw_or (PW.pt (pw_and (pt_cmpR op_eq (pv 6) pe_int (nomark _)) (pw_and1 (pt_cmpR op_ne (pv 5) (pv 4) (nomark _))))) (pw_or1 (PW.pt (pw_and (pt_cmpR op_eq (pv 6) pe_int (nomark _)) (pw_and1 (pt_cmpR op_ne (pv 5) pe_int (nomark _)))))))) (pss_one (ps_ret pe_bl)) pss_nil))
      (pss_cons (ps_cut (ps_if (PW.pt (pw_and (pt_cmpR op_gt (pv 6) pe_int (nomark _)) (pw_and (pt_cmpR op_ge (pv 4) pe_int (nomark _)) (pw_and1 (pt_cmpR op_ge (pv 5) (pv 4) (nomark _)))))) (pss_one (ps_ret pe_bl)) pss_nil))
      (pss_cons (ps_set (i := 7) scOr.nd rfl (.inl rfl) (pe_op op_mul (pv 4) (pe_op op_sub pe_int (pv 6))))
      (pss_one (ps_ret (pe_and (pe_cmpR op_ge (pe_op op_mul pe_int (pv 5)) (pv 7) (nomark _)) (pe_one (pe_or (pe_cmpR op_eq (pv 5) pe_int (nomark _)) (pe_one (pe_cmpR op_lt (pe_op op_mul pe_int (pe_op op_sub (pv 5) pe_int)) (pv 7) (nomark _))))))))))))), ?_⟩
    have okr := ok.ok r hm
    obtain ⟨b, rb, _⟩ := okr.pr
    obtain ⟨l, _, _, el, l0, l1⟩ := prc_b rb okr.n0 m0
    obtain ⟨p0, p1⟩ := pct_b oko r.1 m
    refine ⟨_, rfl, _, rfl, _, rfl, v, rows, r, m, rfl, hd, ok, hm, m0, fun H1 s1 => ?_⟩
    refine ⟨_, rfl, _, rfl, _, rfl, _, rfl, v, u, rows, r, os, m, rfl, Dp.same s1 _ _ hd, Dp.same s1 _ _ ho, ok, hm, oko, n1, m0, fun H2 s2 => ?_⟩
    have s12 := s1.trans s2
    refine ⟨_, rfl, _, rfl, _, rfl, u, os, r.1, m, rfl, Dp.same s12 _ _ ho, oko, n1, fun H3 s3 => ?_⟩
    have q1 := q _ (s12.trans s3)
    refine ⟨_, _, _, rfl, ?_⟩
    unfold cst
    rw [el]
    generalize pct os r.1 m = pp at *
    obtain ⟨B, C, z, eB, eC, ez, f1, f2, f3, f4, f5, f6, f7, f8, f9, f10, f11⟩ := cst_facts l0 p0 p1
    rw [eB, eC]
    show tSeq _ _ _ [some v, some u, some (.str (mkS r.1)), some (.int m), some (.int l), some (.int C), some (.int pp), none] _
    refine ⟨_, rfl, _, _, rfl, rfl, _, rfl, ?_⟩
    change ite _ _ _
    refine ite2 (fun c => absurd (of_decide_eq_true c) (by omega)) (fun _ => ?_)
    refine ⟨_, rfl, _, rfl, _, _, rfl, rfl, _, rfl, ?_⟩
    change ite _ _ _
    refine ite2 (fun c => absurd (of_decide_eq_true c) (by omega)) (fun _ => ?_)
    refine ⟨_, rfl, _, _, rfl, rfl, _, rfl, ?_⟩
    change ite _ _ _
    refine ite2 (fun c => absurd (of_decide_eq_true c) (by omega)) (fun _ => ?_)
    refine ⟨_, rfl, _, _, rfl, rfl, _, rfl, ?_⟩
    change ite _ _ _
    refine ite2 (fun c => absurd (of_decide_eq_true c) (by omega)) (fun _ => ?_)
    refine ⟨fun σ' G' => σ' = [some v, some u, some (.str (mkS r.1)), some (.int m), some (.int l), some (.int C), some (.int pp), none] ∧ G' = H3, ?_, ?_⟩
    · refine ⟨_, rfl, rfl, _, rfl, ?_⟩
      change ite _ _ _
      refine ite2 (fun c => ?_) (fun c => ?_)
      · have x0 : pp = 0 := by simpa using c
        refine ⟨_, rfl, _, rfl, rfl, _, rfl, ?_⟩
        change ite _ _ _
        refine iteNS (by rw [f9 x0]) ?_
        refine ⟨_, rfl, rfl, _, rfl, ?_⟩
        change ite _ _ _
        refine ite2 (fun c => ?_) (fun c => ?_)
        · have x : pp = 100 := by simpa using c
          refine ⟨_, rfl, rfl, _, rfl, ?_⟩
          change ite _ _ _
          refine iteNS (by rw [f10 x]) ?_
          exact ⟨rfl, rfl⟩
        · exact ⟨rfl, rfl⟩
      · refine ⟨_, rfl, rfl, _, rfl, ?_⟩
        change ite _ _ _
        refine ite2 (fun c => ?_) (fun c => ?_)
        · have x : pp = 100 := by simpa using c
          refine ⟨_, rfl, rfl, _, rfl, ?_⟩
          change ite _ _ _
          refine iteNS (by rw [f10 x]) ?_
          exact ⟨rfl, rfl⟩
        · exact ⟨rfl, rfl⟩
    rintro σ' G' ⟨rfl, rfl⟩
    refine ⟨fun σ' G2 => σ' = [some v, some u, some (.str (mkS r.1)), some (.int m), some (.int l), some (.int C), some (.int pp), none] ∧ G2 = G', ?_, ?_⟩
    · refine ⟨_, rfl, _, _, rfl, rfl, _, rfl, ?_⟩
      change ite _ _ _
      refine ite2 (fun c => ?_) (fun c => ?_)
      · have x0 : 0 < pp := of_decide_eq_true c
        refine ⟨_, rfl, _, _, rfl, rfl, _, rfl, ?_⟩
        change ite _ _ _
        refine ite2 (fun c => ?_) (fun c => ?_)
        · have x1 : 100 ≤ l := of_decide_eq_true c
          refine ⟨_, rfl, _, rfl, _, _, rfl, rfl, _, rfl, ?_⟩
          change ite _ _ _
          have := f11 x0 x1
          exact ite2 (fun c => absurd (of_decide_eq_true c) (by omega)) (fun _ => ⟨rfl, rfl⟩)
        · exact ⟨rfl, rfl⟩
      · exact ⟨rfl, rfl⟩
    rintro σ' G2 ⟨rfl, rfl⟩
    refine ⟨_, rfl, _, rfl, _, _, rfl, rfl, _, _, rfl, rfl, .inl ⟨by omega, by omega⟩, ?_⟩
    show tSeq _ _ _ [some v, some u, some (.str (mkS r.1)), some (.int m), some (.int l), some (.int C), some (.int pp), some (.int (l * (100 - pp)))] _
    rw [eB]
    refine ⟨_, rfl, _, _, rfl, rfl, .inl ⟨by decide, by decide⟩, _, rfl, _, _, rfl, rfl, _, rfl, ?_⟩
    change ite _ _ _
    refine ite2 (fun _ => ?_) (fun c => absurd (decide_eq_true (by omega)) c)
    refine ⟨_, rfl, rfl, _, rfl, ?_⟩
    change ite _ _ _
    refine ite2 (fun _ => q1) (fun _ => ?_)
    refine ⟨_, rfl, _, _, rfl, rfl, _, _, rfl, rfl, .inl ⟨by decide, by decide⟩, _, rfl, _, _, rfl, rfl, ?_⟩
    show Q (.bl (decide (100 * (C - 1) < B))) _
    rw [decide_eq_true f8]
    exact q1
end
end K06

set_option Elab.async false
set_option linter.all false
set_option maxRecDepth 100000
set_option maxHeartbeats 4000000
namespace K06
open PySem PySem.Spec PyProof.Rows L2 TB

theorem scRt : FnScope ["_law_feed_here", "_law_menu_here", "_law_offs_here", "_law_minute", "_law_item", "_law_at", "_law_own", "_law_more", "_law_fewer", "_law_twice", "_law_comes"] ["_law_feed_here", "_law_menu_here", "_law_offs_here", "_law_minute"] (defScope sRt) := ⟨rfl, rfl, rfl, by decide +kernel, rfl, by decide +kernel, by decide +kernel⟩
theorem pers_mem {os : List Off} {c : List Nat} {m x : Int} : x ∈ pers os c m ↔ ∃ o ∈ os, hold c m o = true ∧ o.2.2.2 = x := by
  unfold pers
  rw [List.mem_map]
  constructor
  · rintro ⟨o, ho, e⟩
    obtain ⟨h1, h2⟩ := List.mem_filter.mp ho
    exact ⟨o, h1, h2, e⟩
  · rintro ⟨o, h1, h2, e⟩
    exact ⟨o, List.mem_filter.mpr ⟨h1, h2⟩, e⟩
theorem pct_sub {os os' : List Off} {c : List Nat} {m : Int} (h : ∀ o ∈ os, o ∈ os') : pct os c m ≤ pct os' c m := by
  refine mx_le (mx_nn _) fun x hx => ?_
  obtain ⟨o, ho, hh, e⟩ := pers_mem.mp hx
  exact mx_ge (pers_mem.mpr ⟨o, h o ho, hh, e⟩)
theorem cst_anti {ps : List (Int × Int)} {os os' : List Off} {c : List Nat} {m : Int} (l0 : 0 ≤ prc ps m) (h : pct os c m ≤ pct os' c m) : cst ps os' c m ≤ cst ps os c m := by
  unfold cst
  have a : prc ps m * (100 - pct os' c m) ≤ prc ps m * (100 - pct os c m) := Int.mul_le_mul_of_nonneg_left (by omega) l0
  generalize prc ps m * (100 - pct os' c m) = x at *
  generalize prc ps m * (100 - pct os c m) = y at *
  omega
theorem cst_eq {ps : List (Int × Int)} {os os' : List Off} {c : List Nat} {m : Int} (h : pct os c m = pct os' c m) : cst ps os' c m = cst ps os c m := by
  unfold cst
  rw [h]
theorem cst_nil {ps : List (Int × Int)} {c : List Nat} {m : Int} : cst ps [] c m = prc ps m := by
  have : pct [] c m = 0 := rfl
  unfold cst
  rw [this]
  omega
theorem noL_off (o : Off) : noL (dOff o) = true := by
  have : noLs (o.1.map dStr) = true := noLs_of fun d hd => by
    obtain ⟨c, _, rfl⟩ := List.mem_map.mp hd
    rfl
  show noLs [.tuple (o.1.map dStr), .int o.2.1, .int o.2.2.1, .int o.2.2.2] = true
  simp only [noLs, noL, this, Bool.and_self]
theorem noL_offs (os : List Off) : noL (dOffs os) = true := by
  show noLs (os.map dOff) = true
  exact noLs_of fun d hd => by
    obtain ⟨o, _, rfl⟩ := List.mem_map.mp hd
    exact noL_off o
theorem noL_menu (rows : List Row) : noL (dMenu rows) = true := by
  show noLs (rows.map dRow) = true
  exact noLs_of fun d hd => by
    obtain ⟨o, _, rfl⟩ := List.mem_map.mp hd
    exact noL_row o
theorem Feed.dpB {K : PySem.W.Frag} {H H' : Hp} {L S : Addr} {T : Int} {v : V} {d : PyData} (f : Feed H L S T) (h : Dp K H v d) (n : noL d = true) (k : But L H H') : Dp K H' v d := by
  obtain ⟨zs, ez⟩ := f.there
  exact Dp.but k ez d v n h
theorem Feed.tupB {H H' : Hp} {L S a : Addr} {T : Int} {xs : List V} (f : Feed H L S T) (h : H a = some (.tup xs)) (k : But L H H') : H' a = some (.tup xs) := by
  obtain ⟨zs, ez⟩ := f.there
  refine k _ _ (fun e => ?_) h
  rw [e, ez] at h
  cases h
theorem cutN_take (xs : List V) (n : Nat) : cutV xs none (some (n : Int)) = xs.take n := by
  unfold cutV
  rw [HT.sIx_nat, HT.sIx_none, List.drop_zero, Nat.sub_zero]
  by_cases c : n ≤ xs.length
  · rw [Nat.min_eq_left c]
  · rw [Nat.min_eq_right (by omega), List.take_length, List.take_of_length_le (by omega)]
theorem cutN_drop (xs : List V) (n : Nat) : cutV xs (some (n : Int)) none = xs.drop n := by
  unfold cutV
  rw [HT.sIx_nat, HT.sIx_none]
  by_cases c : n ≤ xs.length
  · rw [Nat.min_eq_left c, List.take_of_length_le (by rw [List.length_drop]; omega)]
  · rw [Nat.min_eq_right (by omega), List.drop_length, List.drop_of_length_le (by omega)]
    simp
theorem cutN_one (xs : List V) (n : Nat) (h : n ≤ xs.length) : cutV xs (some (n : Int)) (some ((n : Int) + 1)) = (xs.drop n).take 1 := by
  unfold cutV
  rw [← Int.natCast_succ, HT.sIx_nat, HT.sIx_nat, Nat.min_eq_left h]
  by_cases c : n + 1 ≤ xs.length
  · rw [Nat.min_eq_left c, Nat.add_sub_cancel_left]
  · rw [Nat.min_eq_right (by omega), List.drop_of_length_le (by omega)]
    simp
section
variable {P : Program} {w : World} {K : PySem.W.Frag} {mg : Str → Option Value} {base : Heap}
def spRt (K : PySem.W.Frag) : Sp := fun vs H Q _ => ∃ (L S : Addr) (T : Int) (v u : V) (rows : List Row) (os : List Off) (m : Int), vs = [.ref L, v, u, .int m] ∧ Feed H L S T ∧ T < 2 ^ 38 ∧ Dp K H v (dMenu rows) ∧ Dp K H u (dOffs os) ∧ OkM rows ∧ (∀ o ∈ os, OkO o) ∧ os.length ≤ 8 ∧ 0 ≤ m ∧ m ≤ 99999 ∧
  ∀ H', But L H H' → Feed H' L S (T + 4) → Q (.bl true) H'
theorem ok_rt {f fR fOr fCs fPc : Addr} {fd fdR fdOr fdCs fdPc : FuncData} (F : Fun K "_law_right" "_law_right" sRt f fd)
    (GDr : FnOk P w K mg base CX0 1 fR fdR ["_law_feed_here", "_law_many"] spDraw) (kDr : PySem.W.keepIn K (.ref fR) = true) (bDr : Binds K fdR ["_law_feed_here", "_law_many"] []) (gDr : mg "_law_draw" = some (.ref fR))
    (GOr : FnOk P w K mg base CX0 4 fOr fdOr ["_law_menu_here", "_law_offs_here", "_law_item", "_law_minute"] (spOr K)) (kOr : PySem.W.keepIn K (.ref fOr) = true) (bOr : Binds K fdOr ["_law_menu_here", "_law_offs_here", "_law_item", "_law_minute"] []) (gOr : mg "_law_one_right" = some (.ref fOr))
    (GCs : FnOk P w K mg base CX0 3 fCs fdCs ["menu", "offs", "item", "minute"] (spCs K)) (kCs : PySem.W.keepIn K (.ref fCs) = true) (bCs : Binds K fdCs ["menu", "offs", "item", "minute"] []) (gCs : mg "cost" = some (.ref fCs))
    (GPc : FnOk P w K mg base CX0 2 fPc fdPc ["menu", "item", "minute"] (spPc K)) (kPc : PySem.W.keepIn K (.ref fPc) = true) (bPc : Binds K fdPc ["menu", "item", "minute"] []) (gPc : mg "price" = some (.ref fPc))
    (m_len : mg "len" = none) :
    FnOk P w K mg base CX0 5 f fd ["_law_feed_here", "_law_menu_here", "_law_offs_here", "_law_minute"] (spRt K) := by
  refine F.ok scRt (fun vs H Q E h => ?_) (fun cdv A outer s H vs Q E hr h => ?_)
  · obtain ⟨L, S, T, v, u, rows, os, m, rfl, _⟩ := h
    rfl
  · obtain ⟨L, S, T, v, u, rows, os, m, rfl, f0, hT, hd, ho, ok, oko, on, m0, m1, q⟩ := h
    refine ⟨_, (pss_cons (ps_set (i := 4) scRt.nd rfl (.inl rfl) (pe_ix ix_tup (pe_ix ix_tup (pv 1) (pe_call GDr (hr.mono (by decide)) (by rfl) gDr kDr bDr .nil pass0 (pa_cons (pv 0) (pa_cons (pe_callB call_len_seq (by rfl) m_len (by decide +kernel) (pa_cons (pv 1) pa_nil)) pa_nil))) (fun _ _ => rfl)) pe_int (fun _ _ => rfl)))
      (pss_cons (ps_set (i := 5) scRt.nd rfl (.inl rfl) (pe_call GDr (hr.mono (by decide)) (by rfl) gDr kDr bDr .nil pass0 (pa_cons (pv 0) (pa_cons (pe_op op_add (pe_callB call_len_seq (by rfl) m_len (by decide +kernel) (pa_cons (pv 2) pa_nil)) pe_int) pa_nil))))
      (pss_cons (ps_set (i := 6) scRt.nd rfl (.inl rfl) (pe_tup (pa_cons (pe_tup (pa_cons (pv 4) pa_nil)) (pa_cons (pe_call GDr (hr.mono (by decide)) (by rfl) gDr kDr bDr .nil pass0 (pa_cons (pv 0) (pa_cons (pe_op op_add (pv 3) pe_int) pa_nil))) (pa_cons (pe_op op_add (pv 3) pe_int) (pa_cons (pe_call GDr (hr.mono (by decide)) (by rfl) gDr kDr bDr .nil pass0 (pa_cons (pv 0) (pa_cons pe_int pa_nil))) pa_nil))))))
      (pss_cons (ps_set (i := 7) scRt.nd rfl (.inl rfl) (pe_op op_catA (pe_op op_catA (pe_slice sl_tupA (pv 2) po_none (po_some (pv 5))) (pe_tup (pa_cons (pv 6) pa_nil))) (pe_slice sl_tupA (pv 2) (po_some (pv 5)) po_none)))
      (pss_cons (ps_par (i := 8) (j := 9) (by rfl) scRt.nd rfl rfl (by decide) rfl rfl (pa_cons (pe_op op_catA (pe_slice sl_tupA (pv 2) po_none (po_some (pv 5))) (pe_slice sl_tupA (pv 2) (po_some (pe_op op_add (pv 5) pe_int)) po_none)) (pa_cons (pe_op op_catA (pe_op op_catA (pe_slice sl_tupA (pv 2) po_none (po_some (pv 5))) (pe_slice sl_tupA (pv 2) (po_some (pv 5)) (po_some (pe_op op_add (pv 5) pe_int)))) (pe_slice sl_tupA (pv 2) (po_some (pv 5)) po_none)) pa_nil)) (by rfl))
      (pss_cons (ps_for PassesOwn.never rfl (pi_tup (pe_tup (pa_cons (pv 2) (pa_cons (pv 7) (pa_cons (pv 8) (pa_cons (pv 9) pa_nil)))))) (pg_name (i := 6) scRt.nd rfl (.inl rfl)) (pss_one (ps_if (pt_not (pt_val (pe_call GOr (hr.mono (by decide)) (by rfl) gOr kOr bOr .nil pass0 (pa_cons (pv 1) (pa_cons (pv 6) (pa_cons (pv 4) (pa_cons (pv 3) pa_nil))))))) (pss_one (ps_ret pe_bl)) pss_nil)))
      (pss_cons (ps_set (i := 10) scRt.nd rfl (.inl rfl) (pe_call GCs (hr.mono (by decide)) (by rfl) gCs kCs bCs .nil pass0 (pa_cons (pv 1) (pa_cons (pv 2) (pa_cons (pv 4) (pa_cons (pv 3) pa_nil))))))
      (pss_cons (ps_cut (ps_if (PW.pt (pw_or (pt_cmpR op_gt (pe_call GCs (hr.mono (by decide)) (by rfl) gCs kCs bCs .nil pass0 (pa_cons (pv 1) (pa_cons (pv 7) (pa_cons (pv 4) (pa_cons (pv 3) pa_nil))))) (pv 10) (nomark _)) (pw_or1 (pt_cmpR op_lt (pe_call GCs (hr.mono (by decide)) (by rfl) gCs kCs bCs .nil pass0 (pa_cons (pv 1) (pa_cons (pv 8) (pa_cons (pv 4) (pa_cons (pv 3) pa_nil))))) (pv 10) (nomark _))))) (pss_one (ps_ret pe_bl)) pss_nil))
      (pss_cons (ps_if (PW.pt (pw_or (pt_cmpR op_ne (pe_call GCs (hr.mono (by decide)) (by rfl) gCs kCs bCs .nil pass0 (pa_cons (pv 1) (pa_cons (pv 9) (pa_cons (pv 4) (pa_cons (pv 3) pa_nil))))) (pv 10) (nomark _)) (pw_or1 (pt_cmpR op_ne (pe_call GCs (hr.mono (by decide)) (by rfl) gCs kCs bCs .nil pass0 (pa_cons (pv 1) (pa_cons (pe_revT (pv 2)) (pa_cons (pv 4) (pa_cons (pv 3) pa_nil))))) (pv 10) (nomark _))))) (pss_one (ps_ret pe_bl)) pss_nil)
      (pss_one (ps_ret (pe_cmpR op_eq (pe_call GCs (hr.mono (by decide)) (by rfl) gCs kCs bCs .nil pass0 (pa_cons (pv 1) (pa_cons (pe_tup pa_nil) (pa_cons (pv 4) (pa_cons (pv 3) pa_nil))))) (pe_call GPc (hr.mono (by decide)) (by rfl) gPc kPc bPc .nil pass0 (pa_cons (pv 1) (pa_cons (pv 4) (pa_cons (pv 3) pa_nil)))) (nomark _))))))))))))), ?_⟩
    obtain ⟨a, xs, rfl, ha, da⟩ := Dp.tup_inv hd
    have ln := DpAll.len da
    rw [List.length_map] at ln
    have n0 := ok.n0
    have n1 := ok.n1
    refine ⟨_, rfl, _, rfl, _, rfl, a, _, rfl, .inr ha, L, S, _, T, rfl, by omega, by omega, f0, by omega, fun H1 v1 k1 f1 v10 v11 => ?_⟩
    have hd1 := f0.dpB hd (noL_menu _) k1
    have ho1 := f0.dpB ho (noL_offs _) k1
    obtain ⟨a', xs1, ea, ha1, da1⟩ := Dp.tup_inv hd1
    cases ea
    have ln1 := DpAll.len da1
    rw [List.length_map] at ln1
    obtain ⟨n, hn⟩ : ∃ n : Nat, v1 = (n : Int) := ⟨_, (Int.toNat_of_nonneg v10).symm⟩
    subst hn
    have hxn : ∃ xn, xs1[n]? = some xn := ⟨_, List.getElem?_eq_getElem (by omega)⟩
    obtain ⟨xn, hxn⟩ := hxn
    obtain ⟨r, hr, dr⟩ := dp_at da1 hxn
    have hrm := List.mem_of_getElem? hr
    obtain ⟨b, pz, rfl, hb, _⟩ := dp_row dr
    refine ⟨a, _, _, _, rfl, rfl, ha1, atI_nat hxn, b, _, 0, _, rfl, rfl, hb, atI_nat (j := 0) rfl, ?_⟩
    show tSeq _ _ _ [some (.ref L), some (.ref a), some u, some (.int m), some (.str (mkS r.1)), none, none, none, none, none, none] _
    obtain ⟨e, ys, rfl, hy, dy⟩ := Dp.tup_inv ho1
    have lny := DpAll.len dy
    rw [List.length_map] at lny
    refine ⟨_, rfl, _, rfl, e, _, rfl, .inr hy, _, _, rfl, rfl, L, S, _, _, rfl, by omega, by omega, f1, by omega, fun H2 v2 k2 f2 v20 v21 => ?_⟩
    obtain ⟨t, ht⟩ : ∃ n : Nat, v2 = (n : Int) := ⟨_, (Int.toNat_of_nonneg v20).symm⟩
    subst ht
    show tSeq _ _ _ [some (.ref L), some (.ref a), some (.ref e), some (.int m), some (.str (mkS r.1)), some (.int (t : Int)), none, none, none, none, none] _
    have hd2 := f1.dpB hd1 (noL_menu _) k2
    have ho2 := f1.dpB ho1 (noL_offs _) k2
    have okr := ok.ok r hrm
    refine ⟨_, rfl, by show (1 : Nat) ≤ sizeLine; decide, fun t1 nt1 => ?_⟩
    have s3 := same_upd (o := .tup [.str (mkS r.1)]) nt1
    have e1 : (upd H2 t1 (.tup [.str (mkS r.1)])) t1 = some (.tup [.str (mkS r.1)]) := upd_same
    have f3 := f2.same s3
    have hd3 := Dp.same s3 _ _ hd2
    have ho3 := Dp.same s3 _ _ ho2
    have k3 : But L H (upd H2 t1 (.tup [.str (mkS r.1)])) := (k1.trans k2).same s3
    generalize upd H2 t1 (.tup [.str (mkS r.1)]) = H3 at *
    refine ⟨_, rfl, _, rfl, _, _, rfl, rfl, L, S, _, _, rfl, by omega, by omega, f3, by omega, fun H4 v4 k4 f4 v40 v41 => ?_⟩
    have e14 := f3.tupB e1 k4
    have hd4 := f3.dpB hd3 (noL_menu _) k4
    have ho4 := f3.dpB ho3 (noL_offs _) k4
    refine ⟨_, rfl, _, _, rfl, rfl, _, rfl, L, S, 101, _, rfl, by decide, by decide, f4, by omega, fun H5 v5 k5 f5 v50 v51 => ?_⟩
    have e15 := f4.tupB e14 k5
    have hd5 := f4.dpB hd4 (noL_menu _) k5
    have ho5 := f4.dpB ho4 (noL_offs _) k5
    refine ⟨by show (4 : Nat) ≤ sizeLine; decide, fun t2 nt2 => ?_⟩
    have s6 := same_upd (o := .tup [.ref t1, .int v4, .int (m + 1), .int v5]) nt2
    have e2 : (upd H5 t2 (.tup [.ref t1, .int v4, .int (m + 1), .int v5])) t2 = some (.tup [.ref t1, .int v4, .int (m + 1), .int v5]) := upd_same
    have f6 := f5.same s6
    have hd6 := Dp.same s6 _ _ hd5
    have ho6 := Dp.same s6 _ _ ho5
    have e16 := s6 _ _ e15
    have k6 : But L H (upd H5 t2 (.tup [.ref t1, .int v4, .int (m + 1), .int v5])) := ((k3.trans k4).trans k5).same s6
    show tSeq _ _ _ [some (.ref L), some (.ref a), some (.ref e), some (.int m), some (.str (mkS r.1)), some (.int (t : Int)), some (.ref t2), none, none, none, none] (upd H5 t2 (.tup [.ref t1, .int v4, .int (m + 1), .int v5]))
    generalize upd H5 t2 (.tup [.ref t1, .int v4, .int (m + 1), .int v5]) = H6 at *
    clear hd1 ho1 hd2 ho2 hd3 ho3 hd4 ho4 hd5 ho5 f3 f4 f5 k3 k4 k5 e1 e14 e15 dr
    let own : Off := ([r.1], v4, m + 1, v5)
    have okown : OkO own := ⟨fun c hc => by rw [List.mem_singleton.mp hc]; exact okr.wd, fun i x y _ hy => (by have z : ([r.1] : List (List Nat))[i + 1]? = some y := hy; simp at z), (by show 1 ≤ 20; decide), v40, (by show v4 ≤ 200000; omega), (by show 0 ≤ m + 1; omega), (by show m + 1 ≤ 200000; omega), v50, (by show v5 ≤ 100; omega)⟩
    have down : Dp K H6 (.ref t2) (dOff own) := .tup (.inl (.inl e2)) (.cons (.tup (.inl (.inl e16)) (.cons (.str _) .nil)) (.cons (.int _) (.cons (.int _) (.cons (.int _) .nil))))
    obtain ⟨e', zs, ee, hz, dz⟩ := Dp.tup_inv ho6
    cases ee
    have lnz := DpAll.len dz
    rw [List.length_map] at lnz
    have tl : t ≤ zs.length := by omega
    refine ⟨_, rfl, ?_⟩
    show tNoPart _ _ _
    unfold tNoPart
    refine ⟨_, rfl, _, rfl, slA hz fun H7 r7 s7 e7 => ?_⟩
    rw [cutN_take] at e7
    refine ⟨_, rfl, by show (1 : Nat) ≤ sizeLine; decide, fun t3 nt3 => ?_⟩
    have s8 := same_upd (o := .tup [.ref t2]) nt3
    have e3 : (upd H7 t3 (.tup [.ref t2])) t3 = some (.tup [.ref t2]) := upd_same
    generalize upd H7 t3 (.tup [.ref t2]) = H8 at *
    refine catA (TB.Same.tup s8 e7) (.inl (.inl e3)) (by rw [List.length_take]; exact Nat.le_of_lt (small1000 (by simp; omega))) fun H9 r9 s9 e9 => ?_
    have s69 := s7.trans (s8.trans s9)
    refine ⟨_, rfl, _, rfl, _, rfl, ?_⟩
    show rSlA K _ _ _ _ _
    refine slA (TB.Same.tup s69 hz) fun H10 r10 s10 e10 => ?_
    rw [cutN_drop] at e10
    refine catA (TB.Same.tup s10 e9) e10 (by rw [List.length_append, List.length_take, List.length_drop]; exact Nat.le_of_lt (small1000 (by simp; omega))) fun H11 r11 s11 e11 => ?_
    have sM := s69.trans (s10.trans s11)
    have dM : Dp K H11 (.ref r11) (dOffs (os.take t ++ own :: os.drop t)) := by
      have d1 := DpAll.same sM _ _ dz
      refine .tup e11 ?_
      rw [List.map_append, List.map_cons, List.map_take, List.map_drop, ← List.append_cons]
      exact DpAll.app (DpAll.take t d1) (.cons (Dp.same sM _ _ down) (DpAll.drop t d1))
    show tSeq _ _ _ [some (.ref L), some (.ref a), some (.ref e), some (.int m), some (.str (mkS r.1)), some (.int (t : Int)), some (.ref t2), some (.ref r11), none, none, none] _
    have dz1 := DpAll.same sM _ _ dz
    have hz1 := TB.Same.tup sM hz
    refine ⟨_, rfl, ?_⟩
    show tPart (tVar 5) _ _ _
    refine ⟨_, rfl, _, rfl, slA hz1 fun G1 q1 u1 x1 => ?_⟩
    rw [cutN_take] at x1
    refine ⟨_, rfl, _, rfl, _, _, rfl, rfl, _, rfl, ?_⟩
    show rSlA K _ _ _ _ _
    refine slA (TB.Same.tup u1 hz1) fun G2 q2 u2 x2 => ?_
    rw [← Int.natCast_succ, cutN_drop] at x2
    refine catA (TB.Same.tup u2 x1) x2 (by rw [List.length_take, List.length_drop]; exact Nat.le_of_lt (small1000 (by omega))) fun G3 q3 u3 x3 => ?_
    have u13 := u1.trans (u2.trans u3)
    have dF : Dp K G3 (.ref q3) (dOffs (os.take t ++ os.drop (t + 1))) := by
      have d1 := DpAll.same u13 _ _ dz1
      refine .tup x3 ?_
      rw [List.map_append, List.map_take, List.map_drop]
      exact DpAll.app (DpAll.take t d1) (DpAll.drop (t + 1) d1)
    have dz3 := DpAll.same u13 _ _ dz1
    have hz3 := TB.Same.tup u13 hz1
    refine ⟨_, rfl, ?_⟩
    show tPart (tVar 5) _ _ _
    refine ⟨_, rfl, _, rfl, slA hz3 fun G4 q4 u4 x4 => ?_⟩
    rw [cutN_take] at x4
    refine ⟨_, rfl, _, rfl, _, rfl, _, rfl, _, _, rfl, rfl, _, rfl, slA (TB.Same.tup u4 hz3) fun G5 q5 u5 x5 => ?_⟩
    rw [cutN_one _ _ tl] at x5
    refine catA (TB.Same.tup u5 x4) x5 (by rw [List.length_take, List.length_take, List.length_drop]; exact Nat.le_of_lt (small1000 (by omega))) fun G6 q6 u6 x6 => ?_
    have u46 := u4.trans (u5.trans u6)
    refine ⟨_, rfl, _, rfl, _, rfl, ?_⟩
    show rSlA K _ _ _ _ _
    refine slA (TB.Same.tup u46 hz3) fun G7 q7 u7 x7 => ?_
    rw [cutN_drop] at x7
    refine catA (TB.Same.tup u7 x6) x7 (by rw [List.length_append, List.length_take, List.length_take, List.length_drop]; exact Nat.le_of_lt (small1000 (by omega))) fun G8 q8 u8 x8 => ?_
    have u48 := u46.trans (u7.trans u8)
    have dW : Dp K G8 (.ref q8) (dOffs (os.take t ++ (os.drop t).take 1 ++ os.drop t)) := by
      have d1 := DpAll.same u48 _ _ dz3
      refine .tup x8 ?_
      rw [List.map_append, List.map_append, List.map_take, List.map_take, List.map_drop]
      exact DpAll.app (DpAll.app (DpAll.take t d1) (DpAll.take 1 (DpAll.drop t d1))) (DpAll.drop t d1)
    refine ⟨_, _, rfl, ?_⟩
    show tSeq _ _ _ [some (.ref L), some (.ref a), some (.ref e), some (.int m), some (.str (mkS r.1)), some (.int (t : Int)), some (.ref t2), some (.ref r11), some (.ref q3), some (.ref q8), none] _
    have uA := u13.trans u48
    have dM8 := Dp.same uA _ _ dM
    have dF8 := Dp.same u48 _ _ dF
    have sAll := sM.trans uA
    have hd8 := Dp.same sAll _ _ hd6
    have ho8 := Dp.same sAll _ _ ho6
    have f8 := f6.same sAll
    have k8 := k6.same sAll
    clear dM dF dz dz1 dz3 hz hz1 hz3 hd6 ho6 f6 k6 x1 x2 x3 x4 x5 x6 x7 x8 e7 e9 e10 e11
    have oM : ∀ o ∈ os.take t ++ own :: os.drop t, OkO o := fun o h => by
      rcases List.mem_append.mp h with z | z
      · exact oko o (List.mem_of_mem_take z)
      · rcases List.mem_cons.mp z with z | z
        · rw [z]
          exact okown
        · exact oko o (List.mem_of_mem_drop z)
    have oF : ∀ o ∈ os.take t ++ os.drop (t + 1), OkO o := fun o h => by
      rcases List.mem_append.mp h with z | z
      · exact oko o (List.mem_of_mem_take z)
      · exact oko o (List.mem_of_mem_drop z)
    have oW : ∀ o ∈ os.take t ++ (os.drop t).take 1 ++ os.drop t, OkO o := fun o h => by
      rcases List.mem_append.mp h with z | z
      · rcases List.mem_append.mp z with z | z
        · exact oko o (List.mem_of_mem_take z)
        · exact oko o (List.mem_of_mem_drop (List.mem_of_mem_take z))
      · exact oko o (List.mem_of_mem_drop z)
    have lM : (os.take t ++ own :: os.drop t).length ≤ 20 := by
      rw [List.length_append, List.length_take, List.length_cons, List.length_drop]
      omega
    have lF : (os.take t ++ os.drop (t + 1)).length ≤ 20 := by
      rw [List.length_append, List.length_take, List.length_drop]
      omega
    have lW : (os.take t ++ (os.drop t).take 1 ++ os.drop t).length ≤ 20 := by
      rw [List.length_append, List.length_append, List.length_take, List.length_take, List.length_drop]
      omega
    refine ⟨_, rfl, _, rfl, _, rfl, _, rfl, by show (4 : Nat) ≤ sizeLine; decide, fun t4 nt4 => ?_⟩
    have s9' := same_upd (o := .tup [.ref e, .ref r11, .ref q3, .ref q8]) nt4
    have e4 : (upd G8 t4 (.tup [.ref e, .ref r11, .ref q3, .ref q8])) t4 = some (.tup [.ref e, .ref r11, .ref q3, .ref q8]) := upd_same
    have dM9 := Dp.same s9' _ _ dM8
    have dF9 := Dp.same s9' _ _ dF8
    have dW9 := Dp.same s9' _ _ dW
    have hd9 := Dp.same s9' _ _ hd8
    have ho9 := Dp.same s9' _ _ ho8
    have f9 := f8.same s9'
    have k9 := k8.same s9'
    refine ⟨t4, rfl, ⟨_, .inl (.inl e4)⟩, ?_⟩
    generalize upd G8 t4 (.tup [.ref e, .ref r11, .ref q3, .ref q8]) = G9 at *
    refine for_tup (xs := [.ref e, .ref r11, .ref q3, .ref q8]) (fun j σ G => ∃ y6, σ = [some (.ref L), some (.ref a), some (.ref e), some (.int m), some (.str (mkS r.1)), some (.int (t : Int)), y6, some (.ref r11), some (.ref q3), some (.ref q8), none] ∧ Same G9 G) ⟨_, rfl, Same.refl _⟩ ?_ ?_ ?_
    · rintro j σ G _ ⟨y6, rfl, sg⟩
      exact .inl (.inl (sg _ _ e4))
    · rintro j x σ G hx ⟨y6, rfl, sg⟩
      have hjl := (List.getElem?_eq_some_iff.mp hx).1
      have hj4 : j < 4 := hjl
      have it : ∃ os', Dp K G9 x (dOffs os') ∧ (∀ o ∈ os', OkO o) ∧ os'.length ≤ 20 := by
        have : j = 0 ∨ j = 1 ∨ j = 2 ∨ j = 3 := by omega
        rcases this with rfl | rfl | rfl | rfl
        · exact ⟨os, (Option.some.inj hx) ▸ ho9, oko, by omega⟩
        · exact ⟨_, (Option.some.inj hx) ▸ dM9, oM, lM⟩
        · exact ⟨_, (Option.some.inj hx) ▸ dF9, oF, lF⟩
        · exact ⟨_, (Option.some.inj hx) ▸ dW9, oW, lW⟩
      obtain ⟨os', dx, ox, lx⟩ := it
      show tIfS _ _ _ _ [some (.ref L), some (.ref a), some (.ref e), some (.int m), some (.str (mkS r.1)), some (.int (t : Int)), some x, some (.ref r11), some (.ref q3), some (.ref q8), none] _
      refine ⟨_, rfl, _, rfl, _, rfl, _, rfl, .ref a, x, rows, r, os', m, rfl, Dp.same sg _ _ hd9, Dp.same sg _ _ dx, ok, hrm, ox, lx, m0, fun G1 u1 => ⟨_, rfl, ?_⟩⟩
      change ite _ _ _
      refine iteF ?_
      exact ⟨_, rfl, sg.trans u1⟩
    · rintro σ G ⟨y6, rfl, sg⟩
      have cl := prc_b (okr.pr.choose_spec.1) okr.n0 m0
      obtain ⟨l, _, _, el, l0, l1⟩ := cl
      have l0' : 0 ≤ prc r.2.2 m := by rw [el]; exact l0
      have sub1 : ∀ o ∈ os, o ∈ os.take t ++ own :: os.drop t := fun o h => by
        rw [← List.take_append_drop t os] at h
        rcases List.mem_append.mp h with z | z
        · exact List.mem_append.mpr (.inl z)
        · exact List.mem_append.mpr (.inr (List.mem_cons_of_mem _ z))
      have sub2 : ∀ o ∈ os.take t ++ os.drop (t + 1), o ∈ os := fun o h => by
        rcases List.mem_append.mp h with z | z
        · exact List.mem_of_mem_take z
        · exact List.mem_of_mem_drop z
      have sub3 : ∀ o ∈ os.take t ++ (os.drop t).take 1 ++ os.drop t, o ∈ os := fun o h => by
        rcases List.mem_append.mp h with z | z
        · rcases List.mem_append.mp z with z | z
          · exact List.mem_of_mem_take z
          · exact List.mem_of_mem_drop (List.mem_of_mem_take z)
        · exact List.mem_of_mem_drop z
      have sub4 : ∀ o ∈ os, o ∈ os.take t ++ (os.drop t).take 1 ++ os.drop t := fun o h => by
        rw [← List.take_append_drop t os] at h
        rcases List.mem_append.mp h with z | z
        · exact List.mem_append.mpr (.inl (List.mem_append.mpr (.inl z)))
        · exact List.mem_append.mpr (.inr z)
      have c1 := cst_anti (c := r.1) l0' (pct_sub (c := r.1) (m := m) sub1)
      have c2 := cst_anti (c := r.1) l0' (pct_sub (c := r.1) (m := m) sub2)
      have c3 := cst_eq (ps := r.2.2) (Int.le_antisymm (pct_sub (c := r.1) (m := m) sub4) (pct_sub (c := r.1) (m := m) sub3))
      have c4 : cst r.2.2 os.reverse r.1 m = cst r.2.2 os r.1 m := cst_eq (Int.le_antisymm (pct_sub fun o h => List.mem_reverse.mpr h) (pct_sub fun o h => List.mem_reverse.mp h))
      refine ⟨_, rfl, _, rfl, _, rfl, _, rfl, .ref a, .ref e, rows, r, os, m, rfl, Dp.same sg _ _ hd9, Dp.same sg _ _ ho9, ok, hrm, oko, by omega, m0, fun G1 u1 => ?_⟩
      have w1 := sg.trans u1
      show tSeq _ _ _ [some (.ref L), some (.ref a), some (.ref e), some (.int m), some (.str (mkS r.1)), some (.int (t : Int)), y6, some (.ref r11), some (.ref q3), some (.ref q8), some (.int (cst r.2.2 os r.1 m))] _
      refine ⟨fun σ' G' => σ' = [some (.ref L), some (.ref a), some (.ref e), some (.int m), some (.str (mkS r.1)), some (.int (t : Int)), y6, some (.ref r11), some (.ref q3), some (.ref q8), some (.int (cst r.2.2 os r.1 m))] ∧ Same G9 G', ?_, ?_⟩
      · refine ⟨_, rfl, _, rfl, _, rfl, _, rfl, .ref a, .ref r11, rows, r, _, m, rfl, Dp.same w1 _ _ hd9, Dp.same w1 _ _ dM9, ok, hrm, oM, lM, m0, fun G2 u2 => ⟨_, rfl, _, _, rfl, rfl, _, rfl, ?_⟩⟩
        change ite _ _ _
        refine ite2 (fun c => absurd (of_decide_eq_true c) (by omega)) (fun _ => ?_)
        have w2 := w1.trans u2
        refine ⟨_, rfl, _, rfl, _, rfl, _, rfl, .ref a, .ref q3, rows, r, _, m, rfl, Dp.same w2 _ _ hd9, Dp.same w2 _ _ dF9, ok, hrm, oF, lF, m0, fun G3 u3 => ⟨_, rfl, _, _, rfl, rfl, _, rfl, ?_⟩⟩
        change ite _ _ _
        refine ite2 (fun c => absurd (of_decide_eq_true c) (by omega)) (fun _ => ?_)
        exact ⟨rfl, w2.trans u3⟩
      rintro σ' G' ⟨rfl, w4⟩
      refine ⟨_, rfl, _, rfl, _, rfl, _, rfl, .ref a, .ref q8, rows, r, _, m, rfl, Dp.same w4 _ _ hd9, Dp.same w4 _ _ dW9, ok, hrm, oW, lW, m0, fun G5 u5 => ⟨_, rfl, rfl, _, rfl, ?_⟩⟩
      change ite _ _ _
      refine iteNS (by rw [c3]) ?_
      have w5 := w4.trans u5
      obtain ⟨e5, vs5, ee, h5, d5⟩ := Dp.tup_inv (Dp.same w5 _ _ ho9)
      cases ee
      refine ⟨_, rfl, _, rfl, e, vs5, rfl, h5, fun t5 nt5 => ?_⟩
      have s5' := same_upd (o := .tup vs5.reverse) nt5
      have d5r : Dp K (upd G5 t5 (.tup vs5.reverse)) (.ref t5) (dOffs os.reverse) := by
        refine .tup (.inl (.inl upd_same)) ?_
        rw [List.map_reverse]
        exact DpAll.rev (DpAll.same s5' _ _ d5)
      generalize upd G5 t5 (.tup vs5.reverse) = G6 at *
      have w6 := w5.trans s5'
      refine ⟨_, rfl, _, rfl, .ref a, .ref t5, rows, r, os.reverse, m, rfl, Dp.same w6 _ _ hd9, d5r, ok, hrm, fun o h => oko o (List.mem_reverse.mp h), by rw [List.length_reverse]; omega, m0, fun G7 u7 => ⟨_, rfl, rfl, _, rfl, ?_⟩⟩
      change ite _ _ _
      refine iteNS (by rw [c4]) ?_
      have w7 := w6.trans u7
      refine ⟨_, rfl, Nat.zero_le _, fun t6 nt6 => ?_⟩
      have s6' := same_upd (o := .tup []) nt6
      have d6 : Dp K (upd G7 t6 (.tup [])) (.ref t6) (dOffs []) := .tup (.inl (.inl upd_same)) .nil
      generalize upd G7 t6 (.tup []) = G8' at *
      have w8 := w7.trans s6'
      refine ⟨_, rfl, _, rfl, .ref a, .ref t6, rows, r, [], m, rfl, Dp.same w8 _ _ hd9, d6, ok, hrm, fun o h => (by cases h), by show 0 ≤ 20; decide, m0, fun G10 u10 => ?_⟩
      have w10 := w8.trans u10
      refine ⟨_, rfl, _, rfl, _, rfl, .ref a, rows, r, m, rfl, Dp.same w10 _ _ hd9, ok, hrm, m0, fun G11 u11 => ⟨rfl, ?_⟩⟩
      rw [cst_nil, decide_eq_true rfl]
      have w11 := w10.trans u11
      exact q _ (k9.same w11) ((f9.same w11).mono (by omega))
end
end K06

set_option Elab.async false
set_option linter.all false
set_option maxRecDepth 100000
set_option maxHeartbeats 4000000
namespace K06
open PySem PySem.Spec PyProof.Rows L2 TB

theorem scLo : FnScope ["_law_feed_here", "_law_menu_here", "_law_found", "_law_k", "_law_items", "_law_low", "_law_high", "_law_percent", "_law_row"] ["_law_feed_here", "_law_menu_here"] (defScope sLo) := ⟨rfl, rfl, rfl, by decide +kernel, rfl, by decide +kernel, by decide +kernel⟩
theorem Feed.accB {K : PySem.W.Frag} {H H' : Hp} {D L S : Addr} {T : Int} {ds : List PyData} (f : Feed H L S T) (a : Acc K H D ds) (k : But L H H') (n : D ≠ L) : Acc K H' D ds := by
  obtain ⟨zs, ez⟩ := f.there
  exact a.but k ez n
theorem but_updN {H H' : Hp} {L O : Addr} {o : HO} (n : H O = none) (b : But L H H') : But L H (upd H' O o) := fun c x m e => by
  rw [upd_ne (ne_of_none e n)]
  exact b c x m e
theorem wStrs_app (ws : List (List Nat)) (c : List Nat) : wStrs (ws ++ [c]) = wStrs ws ++ [.str (mkS c)] := by
  unfold wStrs
  rw [List.map_append]
  rfl
theorem pickV {xs : List Int} {v : Int} (h0 : 0 ≤ v) (h1 : v < xs.length) : ∃ x ∈ xs, atI (xs.map V.int) v = some (.int x) := by
  obtain ⟨n, rfl⟩ : ∃ n : Nat, v = (n : Int) := ⟨_, (Int.toNat_of_nonneg h0).symm⟩
  have hn : n < xs.length := by omega
  exact ⟨xs[n], List.getElem_mem hn, atI_nat (by rw [List.getElem?_map, List.getElem?_eq_getElem hn]; rfl)⟩
section
variable {P : Program} {w : World} {K : PySem.W.Frag} {mg : Str → Option Value} {base : Heap}
def spLo (K : PySem.W.Frag) : Sp := fun vs H Q _ => ∃ (L S : Addr) (T : Int) (v : V) (rows : List Row), vs = [.ref L, v] ∧ Feed H L S T ∧ T < 2 ^ 38 ∧ Dp K H v (dMenu rows) ∧ OkM rows ∧
  ∀ (H' : Hp) (r : Addr) (os : List Off), But L H H' → Feed H' L S (T + 700) → Dp K H' (.ref r) (dOffs os) → (∀ o ∈ os, OkO o) → os.length ≤ 7 → Q (.ref r) H'
theorem ok_lo {f fR fW : Addr} {fd fdR fdW : FuncData} (F : Fun K "_law_offs" "_law_offs" sLo f fd)
    (GDr : FnOk P w K mg base CX0 1 fR fdR ["_law_feed_here", "_law_many"] spDraw) (kDr : PySem.W.keepIn K (.ref fR) = true) (bDr : Binds K fdR ["_law_feed_here", "_law_many"] []) (gDr : mg "_law_draw" = some (.ref fR))
    (GWd : FnOk P w K mg base CX0 2 fW fdW ["_law_feed_here", "_law_found"] (spWd K)) (kWd : PySem.W.keepIn K (.ref fW) = true) (bWd : Binds K fdW ["_law_feed_here", "_law_found"] []) (gWd : mg "_law_word" = some (.ref fW))
    (m_range : mg "range" = none) (m_tuple : mg "tuple" = none) (m_sorted : mg "sorted" = none) : FnOk P w K mg base CX0 3 f fd ["_law_feed_here", "_law_menu_here"] (spLo K) := by
  refine F.ok scLo (fun vs H Q E h => ?_) (fun cdv A outer s H vs Q E hr h => ?_)
  · obtain ⟨L, S, T, v, rows, rfl, _⟩ := h
    rfl
  · obtain ⟨L, S, T, v, rows, rfl, f0, hT, hd, ok, q⟩ := h
    refine ⟨_, (pss_cons (ps_set (i := 2) scLo.nd rfl (.inl rfl) (pe_lst pa_nil))
      (pss_cons (ps_for PassesOwn.never rfl (pi_range1 (by rfl) m_range (pa_cons (pe_call GDr (hr.mono (by decide)) (by rfl) gDr kDr bDr .nil pass0 (pa_cons (pv 0) (pa_cons pe_int pa_nil))) pa_nil)) (pg_name (i := 3) scLo.nd rfl (.inl rfl)) (pss_cons (ps_setLc (i := 4) (own := [("_law_row", 8)]) (g := gName 8) (te := tOp (rIxT K) (tVar 8) (tC (.int 0))) rfl scLo.nd rfl rfl (sw_true rfl rfl rfl (by decide +kernel)) (pi_tup (pv 1)) (blkOk_by (own := [("_law_row", 8)]) (N := ["_law_feed_here", "_law_menu_here", "_law_found", "_law_k", "_law_items", "_law_low", "_law_high", "_law_percent", "_law_row"]) (sc := defScope sLo) (by decide +kernel)) (fun _ _ _ _ _ => (pg_name (i := 8) scLo.nd rfl (.inl rfl))) (fun _ _ _ _ _ => (pts_one (pt_cmpR op_eq (pe_call GDr (hr.mono (by decide)) (by rfl) gDr kDr bDr .nil pass0 (pa_cons (pv 0) (pa_cons pe_int pa_nil))) pe_int (nomark _)))) (fun _ _ _ _ _ => (pe_ix ix_tup (pv 8) pe_int (fun _ _ => rfl))))
      (pss_cons (ps_cut (ps_if (pt_cmpR op_eq (pe_call GDr (hr.mono (by decide)) (by rfl) gDr kDr bDr .nil pass0 (pa_cons (pv 0) (pa_cons pe_int pa_nil))) pe_int (nomark _)) (pss_one (ps_expr (pe_bm PySem.F.plainAttrs_list PySem.F.slot_list_append PySem.F.type_list_append mt_append (pv 4) (pa_cons (pe_call GWd (hr.mono (by decide)) (by rfl) gWd kWd bWd .nil pass0 (pa_cons (pv 0) (pa_cons (pe_lc (own := [("_law_row", 8)]) (g := gName 8) (tt := tYes) (te := tOp (rIxT K) (tVar 8) (tC (.int 0))) rfl scLo.nd (pi_tup (pv 1)) (blkOk_by (own := [("_law_row", 8)]) (N := ["_law_feed_here", "_law_menu_here", "_law_found", "_law_k", "_law_items", "_law_low", "_law_high", "_law_percent", "_law_row"]) (sc := defScope sLo) (by decide +kernel)) (fun _ _ _ _ _ => (pg_name (i := 8) scLo.nd rfl (.inl rfl))) (fun _ _ _ _ _ => pts_nil) (fun _ _ _ _ _ => (pe_ix ix_tup (pv 8) pe_int (fun _ _ => rfl)))) pa_nil))) pa_nil)))) pss_nil))
      (pss_cons (ps_cut (ps_set (i := 5) scLo.nd rfl (.inl rfl) (pe_ix ix_tup (pe_tup (pa_cons pe_int (pa_cons (pe_call GDr (hr.mono (by decide)) (by rfl) gDr kDr bDr .nil pass0 (pa_cons (pv 0) (pa_cons pe_int pa_nil))) (pa_cons (pe_call GDr (hr.mono (by decide)) (by rfl) gDr kDr bDr .nil pass0 (pa_cons (pv 0) (pa_cons pe_int pa_nil))) pa_nil)))) (pe_call GDr (hr.mono (by decide)) (by rfl) gDr kDr bDr .nil pass0 (pa_cons (pv 0) (pa_cons pe_int pa_nil))) (fun _ _ => rfl))))
      (pss_cons (ps_cut (ps_set (i := 6) scLo.nd rfl (.inl rfl) (pe_ix ix_tup (pe_tup (pa_cons (pv 5) (pa_cons (pe_op op_add (pv 5) pe_int) (pa_cons (pe_op op_add (pv 5) (pe_call GDr (hr.mono (by decide)) (by rfl) gDr kDr bDr .nil pass0 (pa_cons (pv 0) (pa_cons pe_int pa_nil)))) (pa_cons (pe_call GDr (hr.mono (by decide)) (by rfl) gDr kDr bDr .nil pass0 (pa_cons (pv 0) (pa_cons pe_int pa_nil))) pa_nil))))) (pe_call GDr (hr.mono (by decide)) (by rfl) gDr kDr bDr .nil pass0 (pa_cons (pv 0) (pa_cons pe_int pa_nil))) (fun _ _ => rfl))))
      (pss_cons (ps_cut (ps_set (i := 7) scLo.nd rfl (.inl rfl) (pe_ix ix_tup (pe_tup (pa_cons pe_int (pa_cons pe_int (pa_cons pe_int (pa_cons pe_int (pa_cons pe_int (pa_cons (pe_call GDr (hr.mono (by decide)) (by rfl) gDr kDr bDr .nil pass0 (pa_cons (pv 0) (pa_cons pe_int pa_nil))) pa_nil))))))) (pe_call GDr (hr.mono (by decide)) (by rfl) gDr kDr bDr .nil pass0 (pa_cons (pv 0) (pa_cons pe_int pa_nil))) (fun _ _ => rfl))))
      (pss_one (ps_expr (pe_bm PySem.F.plainAttrs_list PySem.F.slot_list_append PySem.F.type_list_append mt_append (pv 2) (pa_cons (pe_tup (pa_cons (pe_callTy call_tuple_of (by rfl) m_tuple (by decide +kernel) (pa_cons (pe_callB cr_sortedS (by rfl) m_sorted (by decide +kernel) (pa_cons (pv 4) pa_nil)) pa_nil)) (pa_cons (pv 5) (pa_cons (pv 6) (pa_cons (pv 7) pa_nil))))) pa_nil))))))))))
      (pss_one (ps_ret (pe_callTy call_tuple_of (by rfl) m_tuple (by decide +kernel) (pa_cons (pv 2) pa_nil)))))), ?_⟩
    have n1 := ok.n1
    have nLm := noL_menu rows
    refine ⟨Nat.zero_le _, fun X nX => ?_⟩
    have s0 := same_upd (o := .lst []) nX
    have XL := (f0.ne nX).1
    have XS := (f0.ne nX).2
    have f1 := f0.same s0
    have aX : Acc K (upd H X (.lst [])) X [] := Acc.start
    have hd0 := Dp.same s0 _ _ hd
    have k0 : But L H (upd H X (.lst [])) := But.of s0
    generalize upd H X (.lst []) = H0 at *
    show tSeq _ _ _ [some (.ref L), some v, some (.ref X), none, none, none, none, none, none] _
    refine ⟨_, rfl, L, S, 7, T, rfl, by decide, by decide, f1, by omega, fun H1 v1 k1 f2 v10 v11 => ⟨v1, rfl, by omega, by omega, ?_⟩⟩
    refine for_range (lo := 0) (n := v1.toNat) (fun i σ G => ∃ (y3 y4 y5 y6 y7 : Option V) (os : List Off), σ = [some (.ref L), some v, some (.ref X), y3, y4, y5, y6, y7, none] ∧ But L H G ∧ Feed G L S (T + 1 + 100 * i) ∧ Dp K G v (dMenu rows) ∧ Acc K G X (os.map dOff) ∧ (∀ o ∈ os, OkO o) ∧ os.length = i)
      ⟨_, _, _, _, _, [], rfl, k0.trans k1, f2.mono (by omega), f1.dpB hd0 nLm k1, f1.accB aX k1 XL, fun o h => (by cases h), rfl⟩ ?_ ?_
    · rintro i σ G hi ⟨y3, y4, y5, y6, y7, os, rfl, k2, f3, hd2, a2, oko, ol⟩
      have hi7 : i < 7 := by omega
      obtain ⟨a, xs, rfl, ha, da⟩ := Dp.tup_inv hd2
      have ln := DpAll.len da
      rw [List.length_map] at ln
      refine ⟨_, rfl, a, rfl, ⟨_, ha⟩, fun D nD => ?_⟩
      have DL := (f3.ne nD).1
      have DS := (f3.ne nD).2
      obtain ⟨z3, ez3⟩ := f3.there
      have nDH : H D = none := k2.free ez3 nD
      have aD := a2.same (same_upd (o := .lst []) nD)
      have DX : D ≠ X := fun z => by
        obtain ⟨us, e, _⟩ := a2.ex
        rw [z, e] at nD
        cases nD
      refine lc_tup (xs := xs) (fun j G1 => ∃ ws : List (List Nat), But L G G1 ∧ Feed G1 L S (T + 1 + 100 * i + j) ∧ Acc K G1 X (os.map dOff) ∧ G1 D = some (.lst (wStrs ws)) ∧ ws.Sublist ((rows.take j).map Prod.fst)) ⟨[], But.of (same_upd nD), (f3.same (same_upd nD)).mono (by omega), aD, upd_same, List.Sublist.slnil⟩ ?_ ?_ ?_
      · rintro j G1 _ ⟨ws, kb, _⟩
        exact TB.SqT.but kb ez3 ha
      · rintro j x G1 hx ⟨ws, kb, fj, aj, eD, sub⟩
        obtain ⟨p, hp, dx⟩ := dp_at da hx
        have jl := (List.getElem?_eq_some_iff.mp hp).1
        have wl : ws.length ≤ 12 := by
          have := sub.length_le
          rw [List.length_map, List.length_take] at this
          omega
        have et : (rows.take (j + 1)).map Prod.fst = (rows.take j).map Prod.fst ++ [p.1] := map_take_more hp
        refine ⟨rfl, ?_⟩
        refine ⟨_, rfl, L, S, 2, _, rfl, by decide, by decide, fj, by omega, fun G2 vv kc fk vv0 vv1 => ⟨rfl, _, rfl, ?_⟩⟩
        have kbc := kb.trans kc
        have eD2 := kc _ _ DL eD
        have ak := fj.accB aj kc XL
        change ite _ _ _
        refine ite2 (fun _ => ?_) (fun _ => ?_)
        · obtain ⟨b, y, rfl, hb, _⟩ := dp_row (f3.dpB dx (noL_row p) kbc)
          refine ⟨_, rfl, b, _, 0, _, rfl, rfl, hb, atI_nat (j := 0) rfl, _, eD2, ?_, ?_⟩
          · unfold wStrs
            rw [List.length_map]
            exact small1000 (by omega)
          · refine ⟨ws ++ [p.1], but_updN nD kbc, (fk.upd ⟨DL, DS⟩).mono (by push_cast; omega), ak.but But.upd eD2 (fun z => DX z.symm), ?_, ?_⟩
            · rw [upd_same, wStrs_app]
            · rw [et]
              exact sub.append (List.Sublist.refl _)
        · refine ⟨ws, kbc, fk.mono (by push_cast; omega), ak, eD2, ?_⟩
          rw [et]
          exact sub.trans (List.sublist_append_left _ _)
      · rintro G1 ⟨ws, kb, fj, aj, eD, sub⟩
        rw [List.take_of_length_le (by omega)] at sub
        rw [ln] at fj
        have wl : ws.length ≤ 12 := by
          have := sub.length_le
          rw [List.length_map] at this
          omega
        have wnd : ws.Nodup := sub.nodup ok.nd
        have wwd : ∀ c ∈ ws, Wd c := fun c hc => by
          obtain ⟨r, hr, rfl⟩ := List.mem_map.mp (sub.subset hc)
          exact (ok.ok r hr).wd
        have hd3 := f3.dpB hd2 nLm kb
        show tSeq _ _ _ [some (.ref L), some (.ref a), some (.ref X), some (.int (0 + (i : Nat))), some (.ref D), y5, y6, y7, none] _
        refine ⟨fun σ' G' => ∃ ws : List (List Nat), σ' = [some (.ref L), some (.ref a), some (.ref X), some (.int (0 + (i : Nat))), some (.ref D), y5, y6, y7, none] ∧ But L G G' ∧ Feed G' L S (T + 1 + 100 * i + 12 + 21) ∧ Acc K G' X (os.map dOff) ∧ G' D = some (.lst (wStrs ws)) ∧ (∀ c ∈ ws, Wd c) ∧ ws.Nodup ∧ ws.length ≤ 13, ?_, ?_⟩
        · refine ⟨_, rfl, L, S, 4, _, rfl, by decide, by decide, fj, by omega, fun G2 vv kc fk vv0 vv1 => ⟨rfl, _, rfl, ?_⟩⟩
          have kbc := kb.trans kc
          have eD2 := kc _ _ DL eD
          have ak := fj.accB aj kc XL
          change ite _ _ _
          refine ite2 (fun _ => ?_) (fun _ => ?_)
          · have hd4 := fj.dpB hd3 nLm kc
            obtain ⟨a', xs4, ea, ha4, da4⟩ := Dp.tup_inv hd4
            cases ea
            have ln4 := DpAll.len da4
            rw [List.length_map] at ln4
            refine ⟨_, rfl, .inl ⟨rfl, _, .inl (.inl eD2)⟩, _, rfl, _, rfl, a, rfl, ⟨_, ha4⟩, fun D4 nD4 => ?_⟩
            refine lc_tup (xs := xs4) (fun j G3 => Same G2 G3 ∧ G3 D4 = some (.lst (wStrs ((rows.take j).map Prod.fst)))) ⟨same_upd nD4, upd_same⟩ (fun j G3 _ hP => TB.Same.tup hP.1 ha4) (fun j x G3 hx hP => ?_) (fun G3 hP => ?_)
            · obtain ⟨s3, e3⟩ := hP
              obtain ⟨p, hp, dx⟩ := dp_at da4 hx
              obtain ⟨b, y, rfl, hb, _⟩ := dp_row (Dp.same s3 _ _ dx)
              refine ⟨rfl, yes (iteT ?_)⟩
              refine ⟨_, rfl, b, _, 0, _, rfl, rfl, hb, atI_nat (j := 0) rfl, _, e3, ?_, same_new nD4 s3, ?_⟩
              · unfold wStrs
                rw [List.length_map, List.length_map]
                have := List.length_take_le' j rows
                exact small1000 (by omega)
              · rw [upd_same, map_take_more hp, wStrs_app]
            obtain ⟨s3, e3⟩ := hP
            rw [List.take_of_length_le (by omega)] at e3
            have f5 := fk.same s3
            have D4L := (fk.ne nD4).1
            have eD5 := s3 _ _ eD2
            have ak5 := ak.same s3
            refine ⟨L, S, D4, _, rows.map Prod.fst, rfl, f5, by omega, e3, D4L, fun c hc => ?_, by rw [List.length_map]; omega, fun G5 cs k5 f6 wc nc => ?_⟩
            · obtain ⟨r, hr, rfl⟩ := List.mem_map.mp hc
              exact (ok.ok r hr).wd
            have eD6 := k5 _ _ DL eD5
            have ak6 := f5.accB ak5 k5 XL
            have kb6 := (kbc.same s3).trans k5
            refine ⟨D, _, _, rfl, rfl, eD6, ?_, ?_⟩
            · unfold wStrs
              rw [List.length_map]
              exact small1000 (by omega)
            · refine ⟨ws ++ [cs], rfl, but_updN nD kb6, (f6.upd ⟨DL, DS⟩).mono (by omega), ak6.but But.upd eD6 (fun z => DX z.symm), by rw [upd_same, wStrs_app], fun c hc => ?_, ?_, by rw [List.length_append]; show ws.length + 1 ≤ 13; omega⟩
              · rcases List.mem_append.mp hc with z | z
                · exact wwd c z
                · rw [List.mem_singleton.mp z]
                  exact wc
              · refine List.nodup_append.mpr ⟨wnd, List.pairwise_singleton _ _, fun x hx y hy e => ?_⟩
                rw [List.mem_singleton.mp hy] at e
                exact nc (e ▸ sub.subset hx)
          · exact ⟨ws, rfl, kbc, fk.mono (by omega), ak, eD2, wwd, wnd, by omega⟩
        · rintro σ' G' ⟨ws, rfl, kb2, f4, a4, eD4, wwd, wnd, wl⟩
          refine ⟨fun σ' G2 => ∃ lo : Int, σ' = [some (.ref L), some (.ref a), some (.ref X), some (.int (0 + (i : Nat))), some (.ref D), some (.int lo), y6, y7, none] ∧ But L G G2 ∧ Feed G2 L S (T + 1 + 100 * i + 36) ∧ Acc K G2 X (os.map dOff) ∧ G2 D = some (.lst (wStrs ws)) ∧ 0 ≤ lo ∧ lo ≤ 90000, ?_, ?_⟩
          · refine ⟨_, rfl, L, S, 90, _, rfl, by decide, by decide, f4, by omega, fun G2 c1 h1 g1 c10 c11 => ?_⟩
            refine ⟨_, rfl, L, S, 90000, _, rfl, by decide, by decide, g1, by omega, fun G3 c2 h2 g2 c20 c21 => ?_⟩
            refine ⟨by show (3 : Nat) ≤ sizeLine; decide, fun tt ntt => ?_⟩
            have st := same_upd (o := .tup [.int 0, .int c1, .int c2]) ntt
            have et : (upd G3 tt (.tup [.int 0, .int c1, .int c2])) tt = some (.tup [.int 0, .int c1, .int c2]) := upd_same
            have g3 := g2.same st
            have hh : But L G' (upd G3 tt (.tup [.int 0, .int c1, .int c2])) := (h1.trans h2).same st
            generalize upd G3 tt (.tup [.int 0, .int c1, .int c2]) = G4 at *
            refine ⟨_, rfl, L, S, 3, _, rfl, by decide, by decide, g3, by omega, fun G5 c3 h3 g5 c30 c31 => ?_⟩
            obtain ⟨x, hx, ex⟩ := pickV (xs := [0, c1, c2]) c30 c31
            have hh2 := hh.trans h3
            refine ⟨tt, _, _, _, rfl, rfl, .inl (.inl (g3.tupB et h3)), ex, ?_⟩
            have xb : 0 ≤ x ∧ x ≤ 90000 := by
              simp at hx
              omega
            exact ⟨x, rfl, kb2.trans hh2, g5.mono (by omega), f4.accB a4 hh2 XL, hh2 _ _ DL eD4, xb.1, xb.2⟩
          rintro σ' G2 ⟨lo, rfl, kb3, f5, a5, eD5, lo0, lo1⟩
          refine ⟨fun σ' G3 => ∃ hi : Int, σ' = [some (.ref L), some (.ref a), some (.ref X), some (.int (0 + (i : Nat))), some (.ref D), some (.int lo), some (.int hi), y7, none] ∧ But L G G3 ∧ Feed G3 L S (T + 1 + 100 * i + 39) ∧ Acc K G3 X (os.map dOff) ∧ G3 D = some (.lst (wStrs ws)) ∧ 0 ≤ hi ∧ hi ≤ 200000, ?_, ?_⟩
          · refine ⟨_, rfl, _, rfl, _, _, rfl, rfl, _, rfl, _, rfl, L, S, 9000, _, rfl, by decide, by decide, f5, by omega, fun G3 c1 h1 g1 c10 c11 => ⟨_, _, rfl, rfl, ?_⟩⟩
            refine ⟨_, rfl, L, S, 99999, _, rfl, by decide, by decide, g1, by omega, fun G4 c2 h2 g2 c20 c21 => ?_⟩
            refine ⟨by show (4 : Nat) ≤ sizeLine; decide, fun tt ntt => ?_⟩
            have st := same_upd (o := .tup [.int lo, .int (lo + 1), .int (lo + c1), .int c2]) ntt
            have et : (upd G4 tt (.tup [.int lo, .int (lo + 1), .int (lo + c1), .int c2])) tt = some (.tup ([lo, lo + 1, lo + c1, c2].map V.int)) := upd_same
            have g3 := g2.same st
            have hh : But L G2 (upd G4 tt (.tup [.int lo, .int (lo + 1), .int (lo + c1), .int c2])) := (h1.trans h2).same st
            refine ⟨_, rfl, L, S, 4, _, rfl, by decide, by decide, g3, by omega, fun G5 c3 h3 g5 c30 c31 => ?_⟩
            obtain ⟨x, hx, ex⟩ := pickV (xs := [lo, lo + 1, lo + c1, c2]) c30 c31
            have hh2 := hh.trans h3
            refine ⟨tt, _, _, _, rfl, rfl, .inl (.inl (g3.tupB et h3)), ex, ?_⟩
            have xb : 0 ≤ x ∧ x ≤ 200000 := by
              simp at hx
              omega
            exact ⟨x, rfl, kb3.trans hh2, g5.mono (by omega), f5.accB a5 hh2 XL, hh2 _ _ DL eD5, xb.1, xb.2⟩
          rintro σ' G3 ⟨hi', rfl, kb4, f6, a6, eD6, hi0, hi1⟩
          refine ⟨fun σ' G4 => ∃ pc : Int, σ' = [some (.ref L), some (.ref a), some (.ref X), some (.int (0 + (i : Nat))), some (.ref D), some (.int lo), some (.int hi'), some (.int pc), none] ∧ But L G G4 ∧ Feed G4 L S (T + 1 + 100 * i + 41) ∧ Acc K G4 X (os.map dOff) ∧ G4 D = some (.lst (wStrs ws)) ∧ 0 ≤ pc ∧ pc ≤ 100, ?_, ?_⟩
          · refine ⟨_, rfl, L, S, 101, _, rfl, by decide, by decide, f6, by omega, fun G4 c1 h1 g1 c10 c11 => ?_⟩
            refine ⟨by show (6 : Nat) ≤ sizeLine; decide, fun tt ntt => ?_⟩
            have st := same_upd (o := .tup [.int 0, .int 1, .int 50, .int 99, .int 100, .int c1]) ntt
            have et : (upd G4 tt (.tup [.int 0, .int 1, .int 50, .int 99, .int 100, .int c1])) tt = some (.tup ([0, 1, 50, 99, 100, c1].map V.int)) := upd_same
            have g3 := g1.same st
            have hh : But L G3 (upd G4 tt (.tup [.int 0, .int 1, .int 50, .int 99, .int 100, .int c1])) := h1.same st
            refine ⟨_, rfl, L, S, 6, _, rfl, by decide, by decide, g3, by omega, fun G5 c3 h3 g5 c30 c31 => ?_⟩
            obtain ⟨x, hx, ex⟩ := pickV (xs := [0, 1, 50, 99, 100, c1]) c30 c31
            have hh2 := hh.trans h3
            refine ⟨tt, _, _, _, rfl, rfl, .inl (.inl (g3.tupB et h3)), ex, ?_⟩
            have xb : 0 ≤ x ∧ x ≤ 100 := by
              simp at hx
              omega
            exact ⟨x, rfl, kb4.trans hh2, g5.mono (by omega), f6.accB a6 hh2 XL, hh2 _ _ DL eD6, xb.1, xb.2⟩
          rintro σ' G4 ⟨pc, rfl, kb5, f7, a7, eD7, pc0, pc1⟩
          obtain ⟨us7, eX7, _⟩ := a7.ex
          have es : wStrs ws = (ws.map mkS).map V.str := by
            unfold wStrs
            rw [List.map_map]
            rfl
          rw [es] at eD7
          refine ⟨_, rfl, .inl ⟨rfl, _, .inl (.inl eX7)⟩, _, rfl, D, ws.map mkS, rfl, .inl (.inl eD7), by rw [List.length_map]; omega, fun ys p pe so np => ?_⟩
          obtain ⟨zs, rfl, pz⟩ := perm_words pe
          have zl : zs.length ≤ 13 := by rw [pz.length_eq]; exact wl
          have zd : ∀ c ∈ zs, Wd c := fun c hc => wwd c (pz.mem_iff.mp hc)
          have zn : zs.Nodup := pz.nodup_iff.mpr wnd
          have sp := same_upd (o := .lst ((zs.map mkS).map V.str)) np
          have ep : (upd G4 p (.lst ((zs.map mkS).map V.str))) p = some (.lst ((zs.map mkS).map V.str)) := upd_same
          generalize upd G4 p (.lst ((zs.map mkS).map V.str)) = G5 at *
          refine ⟨p, _, rfl, .inl ⟨.inl (.inl ep), fun tp ntp => ?_⟩⟩
          have st := same_upd (o := .tup ((zs.map mkS).map V.str)) ntp
          have et : (upd G5 tp (.tup ((zs.map mkS).map V.str))) tp = some (.tup ((zs.map mkS).map V.str)) := upd_same
          generalize upd G5 tp (.tup ((zs.map mkS).map V.str)) = G6 at *
          refine ⟨_, rfl, _, rfl, _, rfl, by show (4 : Nat) ≤ sizeLine; decide, fun t4 nt4 => ?_⟩
          have s4 := same_upd (o := .tup [.ref tp, .int lo, .int hi', .int pc]) nt4
          have e4 : (upd G6 t4 (.tup [.ref tp, .int lo, .int hi', .int pc])) t4 = some (.tup [.ref tp, .int lo, .int hi', .int pc]) := upd_same
          generalize upd G6 t4 (.tup [.ref tp, .int lo, .int hi', .int pc]) = G7 at *
          have sS := sp.trans (st.trans s4)
          have a8 := a7.same sS
          have f8 := f7.same sS
          have kb8 := kb5.same sS
          have hd8 := f3.dpB hd2 nLm kb8
          have ed : zs.map dStr = (zs.map mkS).map PyData.str := by
            rw [List.map_map]
            rfl
          have dt : Dp K G7 (.ref t4) (dOff (zs, lo, hi', pc)) := .tup (.inl (.inl e4)) (.cons (.tup (.inl (.inl (s4 _ _ et))) (by rw [ed]; exact dp_strs _)) (.cons (.int _) (.cons (.int _) (.cons (.int _) .nil))))
          obtain ⟨us8, e8, z8, a9⟩ := a8.more dt (noL_off _) (by rw [List.length_map]; omega)
          refine ⟨X, _, _, rfl, rfl, e8, z8, ?_⟩
          have bX : But X G7 (upd G7 X (.lst (us8 ++ [.ref t4]))) := But.upd
          refine ⟨some (.int (0 + (i : Nat))), some (.ref D), some (.int lo), some (.int hi'), some (.int pc), os ++ [(zs, lo, hi', pc)], rfl, ?_, (f8.upd ⟨XL, XS⟩).mono (by push_cast; omega), Dp.but bX e8 _ _ nLm hd8, by rw [List.map_append]; exact a9, fun o ho => ?_, by rw [List.length_append, ol]; rfl⟩
          · exact but_updN nX (k2.trans kb8)
          · rcases List.mem_append.mp ho with z | z
            · exact oko o z
            · rw [List.mem_singleton.mp z]
              exact ⟨zd, rsg_of zs so zn, (by show zs.length ≤ 20; omega), lo0, (by show lo ≤ 200000; omega), hi0, hi1, pc0, pc1⟩
    · rintro σ G ⟨y3, y4, y5, y6, y7, os, rfl, k2, f3, hd2, a2, oko, ol⟩
      obtain ⟨us, eX, dv⟩ := a2.ex
      refine ⟨_, rfl, X, _, rfl, .inl ⟨.inl (.inl eX), fun tp ntp => ?_⟩⟩
      have sp := same_upd (o := .tup us) ntp
      exact q _ tp os (k2.same sp) ((f3.same sp).mono (by omega)) (Acc.tuple (D := X) dv ntp) oko (by omega)
end
end K06

set_option Elab.async false
set_option linter.all false
set_option maxRecDepth 100000
set_option maxHeartbeats 4000000
namespace K06
open PySem PySem.Spec PyProof.Rows L2 TB

theorem scLm : FnScope ["_law_feed_here", "_law_menu_here", "_law_offs_here", "_law_found", "_law_item", "_law_want", "_law_prices_here", "_law_begin", "_law_items", "_law_low", "_law_high", "_law_percent", "_law_minute"] ["_law_feed_here", "_law_menu_here", "_law_offs_here"] (defScope sLm) := ⟨rfl, rfl, rfl, by decide +kernel, rfl, by decide +kernel, by decide +kernel⟩
theorem map_int {ns : List Int} {i : Nat} {x : V} (h : (ns.map V.int)[i]? = some x) : ∃ n, ns[i]? = some n ∧ x = .int n := by
  rw [List.getElem?_map] at h
  obtain ⟨n, hn, e⟩ := Option.map_eq_some_iff.mp h
  exact ⟨n, hn, e.symm⟩
section
variable {P : Program} {w : World} {K : PySem.W.Frag} {mg : Str → Option Value} {base : Heap}
def spLm (K : PySem.W.Frag) : Sp := fun vs H Q _ => ∃ (L S : Addr) (T : Int) (v u : V) (rows : List Row) (os : List Off), vs = [.ref L, v, u] ∧ Feed H L S T ∧ T < 2 ^ 38 ∧ Dp K H v (dMenu rows) ∧ Dp K H u (dOffs os) ∧ OkM rows ∧ (∀ o ∈ os, OkO o) ∧ os.length ≤ 20 ∧
  ∀ (H' : Hp) (r : Addr) (ns : List Int), But L H H' → Feed H' L S (T + 13) → H' r = some (.lst (ns.map V.int)) → H r = none → (∀ n ∈ ns, 0 ≤ n ∧ n ≤ 99999) → ns.length ≤ 200 → Q (.ref r) H'
theorem ok_lm {f fR : Addr} {fd fdR : FuncData} (F : Fun K "_law_minutes" "_law_minutes" sLm f fd)
    (GDr : FnOk P w K mg base CX0 1 fR fdR ["_law_feed_here", "_law_many"] spDraw) (kDr : PySem.W.keepIn K (.ref fR) = true) (bDr : Binds K fdR ["_law_feed_here", "_law_many"] []) (gDr : mg "_law_draw" = some (.ref fR))
    (m_len : mg "len" = none) (m_max : mg "max" = none) (m_min : mg "min" = none) : FnOk P w K mg base CX0 2 f fd ["_law_feed_here", "_law_menu_here", "_law_offs_here"] (spLm K) := by
  refine F.ok scLm (fun vs H Q E h => ?_) (fun cdv A outer s H vs Q E hr h => ?_)
  · obtain ⟨L, S, T, v, u, rows, os, rfl, _⟩ := h
    rfl
  · obtain ⟨L, S, T, v, u, rows, os, rfl, f0, hT, hd, ho, ok, oko, on, q⟩ := h
    refine ⟨_, (pss_cons (ps_set (i := 3) scLm.nd rfl (.inl rfl) (pe_lst (pa_cons pe_int (pa_cons pe_int (pa_cons (pe_call GDr (hr.mono (by decide)) (by rfl) gDr kDr bDr .nil pass0 (pa_cons (pv 0) (pa_cons pe_int pa_nil))) pa_nil)))))
      (pss_cons (ps_for PassesOwn.never rfl (pi_tup (pv 1)) (pg_tup rfl (pgs_cons (pg_name (i := 4) scLm.nd rfl (.inl rfl)) (pgs_cons (pg_name (i := 5) scLm.nd rfl (.inl rfl)) (pgs_cons (pg_name (i := 6) scLm.nd rfl (.inl rfl)) pgs_nil)))) (pss_cons (ps_set (i := 7) scLm.nd rfl (.inl rfl) (pe_ix ix_tup (pe_ix ix_tup (pv 6) (pe_call GDr (hr.mono (by decide)) (by rfl) gDr kDr bDr .nil pass0 (pa_cons (pv 0) (pa_cons (pe_callB call_len_seq (by rfl) m_len (by decide +kernel) (pa_cons (pv 6) pa_nil)) pa_nil))) (fun _ _ => rfl)) pe_int (fun _ _ => rfl)))
      (pss_one (ps_expr (pe_bm PySem.F.plainAttrs_list PySem.F.slot_list_extend PySem.F.type_list_extend mt_extend (pv 3) (pa_cons (pe_lst (pa_cons (pv 7) (pa_cons (pe_callB (call_max2 rfl) (by rfl) m_max (by decide +kernel) (pa_cons pe_int (pa_cons (pe_op op_sub (pv 7) pe_int) pa_nil))) pa_nil))) pa_nil))))))
      (pss_cons (ps_for PassesOwn.never rfl (pi_tup (pv 2)) (pg_tup rfl (pgs_cons (pg_name (i := 8) scLm.nd rfl (.inl rfl)) (pgs_cons (pg_name (i := 9) scLm.nd rfl (.inl rfl)) (pgs_cons (pg_name (i := 10) scLm.nd rfl (.inl rfl)) (pgs_cons (pg_name (i := 11) scLm.nd rfl (.inl rfl)) pgs_nil))))) (pss_one (ps_expr (pe_bm PySem.F.plainAttrs_list PySem.F.slot_list_extend PySem.F.type_list_extend mt_extend (pv 3) (pa_cons (pe_lst (pa_cons (pv 9) (pa_cons (pe_callB (call_max2 rfl) (by rfl) m_max (by decide +kernel) (pa_cons pe_int (pa_cons (pe_op op_sub (pv 9) pe_int) pa_nil))) (pa_cons (pv 10) (pa_cons (pe_callB (call_max2 rfl) (by rfl) m_max (by decide +kernel) (pa_cons pe_int (pa_cons (pe_op op_sub (pv 10) pe_int) pa_nil))) pa_nil))))) pa_nil)))))
      (pss_one (ps_ret (pe_lc (own := [("_law_minute", 12)]) (g := gName 12) (tt := tYes) rfl scLm.nd (pi_list (pv 3)) (blkOk_by (own := [("_law_minute", 12)]) (N := ["_law_feed_here", "_law_menu_here", "_law_offs_here", "_law_found", "_law_item", "_law_want", "_law_prices_here", "_law_begin", "_law_items", "_law_low", "_law_high", "_law_percent", "_law_minute"]) (sc := defScope sLm) (by decide +kernel)) (fun _ _ _ _ _ => (pg_name (i := 12) scLm.nd rfl (.inl rfl))) (fun _ _ _ _ _ => pts_nil) (fun _ _ _ _ _ => (pe_callB (call_min2 rfl) (by rfl) m_min (by decide +kernel) (pa_cons pe_int (pa_cons (pv 12) pa_nil)))))))))), ?_⟩
    have n1 := ok.n1
    have nLm := noL_menu rows
    have nLo := noL_offs os
    refine ⟨_, rfl, L, S, 100000, T, rfl, by decide, by decide, f0, by omega, fun H1 c1 k1 f1 c10 c11 => ?_⟩
    refine ⟨by show (3 : Nat) ≤ sizeLine; decide, fun X nX => ?_⟩
    have s1 := same_upd (o := .lst [.int 0, .int 99999, .int c1]) nX
    have eX : (upd H1 X (.lst [.int 0, .int 99999, .int c1])) X = some (.lst ([0, 99999, c1].map V.int)) := upd_same
    have XL := (f1.ne nX).1
    have XS := (f1.ne nX).2
    obtain ⟨z1, ez1⟩ := f1.there
    have nXH : H X = none := k1.free ez1 nX
    have f2 := f1.same s1
    have k2 := k1.same s1
    have hd2 := Dp.same s1 _ _ (f0.dpB hd nLm k1)
    have ho2 := Dp.same s1 _ _ (f0.dpB ho nLo k1)
    generalize upd H1 X (.lst [.int 0, .int 99999, .int c1]) = H2 at *
    show tSeq _ _ _ [some (.ref L), some v, some u, some (.ref X), none, none, none, none, none, none, none, none, none] _
    obtain ⟨a, xs, rfl, ha, da⟩ := Dp.tup_inv hd2
    have ln := DpAll.len da
    rw [List.length_map] at ln
    refine ⟨_, rfl, a, rfl, ⟨_, ha⟩, ?_⟩
    refine for_tup (xs := xs) (fun i σ G => ∃ (y4 y5 y6 y7 : Option V) (ns : List Int), σ = [some (.ref L), some (.ref a), some u, some (.ref X), y4, y5, y6, y7, none, none, none, none, none] ∧ But L H G ∧ Feed G L S (T + 1 + i) ∧ Dp K G (.ref a) (dMenu rows) ∧ Dp K G u (dOffs os) ∧ SqT K G a xs ∧ DpAll K G xs (rows.map dRow) ∧ G X = some (.lst (ns.map V.int)) ∧ (∀ n ∈ ns, 0 ≤ n ∧ n ≤ 300000) ∧ ns.length = 3 + 2 * i)
      ⟨_, _, _, _, [0, 99999, c1], rfl, k2, f2.mono (by omega), hd2, ho2, ha, da, eX, fun n hn => (by simp at hn; omega), rfl⟩ ?_ ?_ ?_
    · rintro i σ G _ ⟨y4, y5, y6, y7, ns, rfl, _, _, _, _, hs, _⟩
      exact hs
    · rintro i x σ G hx ⟨y4, y5, y6, y7, ns, rfl, k3, f3, hd3, ho3, ha3, da3, eX3, bn, nl⟩
      obtain ⟨r, hr, dx⟩ := dp_at da3 hx
      have il := (List.getElem?_eq_some_iff.mp hr).1
      have okr := ok.ok r (List.mem_of_getElem? hr)
      obtain ⟨b, p, rfl, hb, dp⟩ := dp_row dx
      refine ⟨b, _, rfl, hb, rfl, _, _, rfl, _, _, rfl, _, _, rfl, rfl, ?_⟩
      obtain ⟨c, ys, rfl, hc, dc⟩ := Dp.tup_inv dp
      have lc := DpAll.len dc
      rw [List.length_map] at lc
      have r0 := okr.n0
      have r1 := okr.n1
      show tSeq _ _ _ [some (.ref L), some (.ref a), some u, some (.ref X), some (.str (mkS r.1)), some (.int r.2.1), some (.ref c), y7, none, none, none, none, none] _
      refine ⟨_, rfl, _, rfl, _, rfl, c, _, rfl, .inr hc, L, S, _, _, rfl, by omega, by omega, f3, by omega, fun G2 vj k4 f4 v0 v1 => ?_⟩
      obtain ⟨z3, ez3⟩ := f3.there
      have dp2 := f3.dpB dp (noL_pr _) k4
      obtain ⟨c', ys2, ec, hc2, dc2⟩ := Dp.tup_inv dp2
      cases ec
      have lc2 := DpAll.len dc2
      rw [List.length_map] at lc2
      obtain ⟨n, hn⟩ : ∃ n : Nat, vj = (n : Int) := ⟨_, (Int.toNat_of_nonneg v0).symm⟩
      subst hn
      have hyn : ∃ yn, ys2[n]? = some yn := ⟨_, List.getElem?_eq_getElem (by omega)⟩
      obtain ⟨yn, hyn⟩ := hyn
      obtain ⟨pp, hpp, dpp⟩ := dp_at dc2 hyn
      obtain ⟨b2, rfl, hb2⟩ := dp_pair dpp
      obtain ⟨bb, rb, bb1⟩ := okr.pr
      have lo := rb.lo pp (List.mem_of_getElem? hpp)
      refine ⟨c, _, _, _, rfl, rfl, hc2, atI_nat hyn, b2, _, 0, _, rfl, rfl, hb2, atI_nat (j := 0) rfl, ?_⟩
      show tSeq _ _ _ [some (.ref L), some (.ref a), some u, some (.ref X), some (.str (mkS r.1)), some (.int r.2.1), some (.ref c), some (.int pp.1), none, none, none, none, none] _
      have eX4 := k4 _ _ XL eX3
      refine ⟨_, rfl, .inl ⟨rfl, _, .inl (.inl eX4)⟩, _, rfl, _, rfl, _, _, rfl, rfl, _, _, rfl, ?_⟩
      generalize hM : (if pp.1 - 1 > 0 then pp.1 - 1 else 0) = M
      have Mb : 0 ≤ M ∧ M ≤ 300000 := by
        rw [← hM]
        split <;> omega
      refine ⟨by show (2 : Nat) ≤ sizeLine; decide, fun Y nY => ?_⟩
      have sY := same_upd (o := .lst [.int pp.1, .int M]) nY
      have eY : (upd G2 Y (.lst [.int pp.1, .int M])) Y = some (.lst ([pp.1, M].map V.int)) := upd_same
      have eX5 := sY _ _ eX4
      have f5 := f4.same sY
      have k5 := (k3.trans k4).same sY
      have hd5 := Dp.same sY _ _ (f3.dpB hd3 nLm k4)
      have ho5 := Dp.same sY _ _ (f3.dpB ho3 nLo k4)
      have ha5 := TB.Same.tup sY (TB.SqT.but k4 ez3 ha3)
      have da5 := DpAll.same sY _ _ (DpAll.but k4 ez3 _ _ (by have := nLm; unfold dMenu at this; simpa only [noL] using this) da3)
      generalize upd G2 Y (.lst [.int pp.1, .int M]) = G3 at *
      refine ⟨X, Y, _, _, rfl, rfl, eX5, eY, ?_, ?_⟩
      · rw [List.length_map, List.length_map]
        exact Nat.le_of_lt (small1000 (by simp; omega))
      · have bX : But X G3 (upd G3 X (.lst (ns.map V.int ++ [pp.1, M].map V.int))) := But.upd
        refine ⟨some (.str (mkS r.1)), some (.int r.2.1), some (.ref c), some (.int pp.1), ns ++ [pp.1, M], rfl, but_updN nXH k5, (f5.upd ⟨XL, XS⟩).mono (by push_cast; omega), Dp.but bX eX5 _ _ nLm hd5, Dp.but bX eX5 _ _ nLo ho5, TB.SqT.but bX eX5 ha5, DpAll.but bX eX5 _ _ (by have := nLm; unfold dMenu at this; simpa only [noL] using this) da5, ?_, fun n hn => ?_, ?_⟩
        · rw [upd_same, List.map_append]
        · rcases List.mem_append.mp hn with z | z
          · exact bn n z
          · simp at z
            omega
        · rw [List.length_append, nl]
          show 3 + 2 * i + 2 = _
          omega
    · rintro σ G ⟨y4, y5, y6, y7, ns, rfl, k3, f3, hd3, ho3, ha3, da3, eX3, bn, nl⟩
      rw [ln] at f3 nl
      obtain ⟨e, zs, rfl, hz, dz⟩ := Dp.tup_inv ho3
      have lz := DpAll.len dz
      rw [List.length_map] at lz
      have nLos : noLs (os.map dOff) = true := by have := nLo; unfold dOffs at this; simpa only [noL] using this
      refine ⟨_, rfl, e, rfl, ⟨_, hz⟩, ?_⟩
      refine for_tup (xs := zs) (fun i σ G1 => ∃ (y8 y9 y10 y11 : Option V) (ns : List Int), σ = [some (.ref L), some (.ref a), some (.ref e), some (.ref X), y4, y5, y6, y7, y8, y9, y10, y11, none] ∧ But L H G1 ∧ Feed G1 L S (T + 13) ∧ SqT K G1 e zs ∧ DpAll K G1 zs (os.map dOff) ∧ G1 X = some (.lst (ns.map V.int)) ∧ (∀ n ∈ ns, 0 ≤ n ∧ n ≤ 300000) ∧ ns.length ≤ 30 + 4 * i)
        ⟨_, _, _, _, ns, rfl, k3, f3.mono (by omega), hz, dz, eX3, bn, by omega⟩ ?_ ?_ ?_
      · rintro i σ G1 _ ⟨y8, y9, y10, y11, ns, rfl, _, _, hs, _⟩
        exact hs
      · rintro i x σ G1 hx ⟨y8, y9, y10, y11, ns, rfl, k4, f4, hz4, dz4, eX4, bn, nl⟩
        obtain ⟨o, ho', dx⟩ := dp_at dz4 hx
        have il := (List.getElem?_eq_some_iff.mp ho').1
        have okk := oko o (List.mem_of_getElem? ho')
        have l0 := okk.l0
        have l1 := okk.l1
        have h0 := okk.h0
        have h1 := okk.h1
        obtain ⟨b, p, rfl, hb, _⟩ := dp_off dx
        refine ⟨b, _, rfl, hb, rfl, _, _, rfl, _, _, rfl, _, _, rfl, _, _, rfl, rfl, ?_⟩
        refine ⟨_, rfl, .inl ⟨rfl, _, .inl (.inl eX4)⟩, _, rfl, _, rfl, _, _, rfl, rfl, _, _, rfl, _, rfl, _, rfl, _, _, rfl, rfl, _, _, rfl, ?_⟩
        generalize hM : (if o.2.1 - 1 > 0 then o.2.1 - 1 else 0) = M
        generalize hM2 : (if o.2.2.1 - 1 > 0 then o.2.2.1 - 1 else 0) = M2
        have Mb : 0 ≤ M ∧ M ≤ 300000 := by
          rw [← hM]
          split <;> omega
        have Mb2 : 0 ≤ M2 ∧ M2 ≤ 300000 := by
          rw [← hM2]
          split <;> omega
        refine ⟨by show (4 : Nat) ≤ sizeLine; decide, fun Y nY => ?_⟩
        have sY := same_upd (o := .lst [.int o.2.1, .int M, .int o.2.2.1, .int M2]) nY
        have eY : (upd G1 Y (.lst [.int o.2.1, .int M, .int o.2.2.1, .int M2])) Y = some (.lst ([o.2.1, M, o.2.2.1, M2].map V.int)) := upd_same
        have eX5 := sY _ _ eX4
        have f5 := f4.same sY
        have k5 := k4.same sY
        have hz5 := TB.Same.tup sY hz4
        have dz5 := DpAll.same sY _ _ dz4
        generalize upd G1 Y (.lst [.int o.2.1, .int M, .int o.2.2.1, .int M2]) = G3 at *
        refine ⟨X, Y, _, _, rfl, rfl, eX5, eY, ?_, ?_⟩
        · rw [List.length_map, List.length_map]
          exact Nat.le_of_lt (small1000 (by simp; omega))
        · have bX : But X G3 (upd G3 X (.lst (ns.map V.int ++ [o.2.1, M, o.2.2.1, M2].map V.int))) := But.upd
          refine ⟨some p, some (.int o.2.1), some (.int o.2.2.1), some (.int o.2.2.2), ns ++ [o.2.1, M, o.2.2.1, M2], rfl, but_updN nXH k5, f5.upd ⟨XL, XS⟩, TB.SqT.but bX eX5 hz5, DpAll.but bX eX5 _ _ nLos dz5, ?_, fun n hn => ?_, ?_⟩
          · rw [upd_same, List.map_append]
          · rcases List.mem_append.mp hn with z | z
            · exact bn n z
            · simp at z
              omega
          · rw [List.length_append]
            show ns.length + 4 ≤ _
            omega
      · rintro σ G1 ⟨y8, y9, y10, y11, ns, rfl, k4, f4, hz4, dz4, eX4, bn, nl⟩
        refine ⟨_, rfl, X, rfl, ⟨_, .inl (.inl eX4)⟩, fun D nD => ?_⟩
        obtain ⟨z4, ez4⟩ := f4.there
        have nDH := k4.free ez4 nD
        refine lc_list (xs := ns.map V.int) (fun i G2 => Same G1 G2 ∧ G2 D = some (.lst (((ns.take i).map fun n => if n < 99999 then n else 99999).map V.int))) ⟨same_upd nD, upd_same⟩ (fun i G2 _ hP => .inl (.inl (hP.1 _ _ eX4))) (fun i x G2 hx hP => ?_) (fun G2 hP => ?_)
        · obtain ⟨s2, e2⟩ := hP
          obtain ⟨n, hn, rfl⟩ := map_int hx
          refine ⟨rfl, yes (iteT ?_)⟩
          refine ⟨_, rfl, _, _, rfl, _, e2, ?_, same_new nD s2, ?_⟩
          · rw [List.length_map, List.length_map]
            have := List.length_take_le' i ns
            exact small1000 (by omega)
          · rw [upd_same, map_take_more hn, List.map_append]
            rfl
        · obtain ⟨s2, e2⟩ := hP
          rw [List.take_of_length_le (by simp)] at e2
          refine q _ D _ (k4.same s2) (f4.same s2) e2 nDH (fun n hn => ?_) (by rw [List.length_map]; omega)
          obtain ⟨n', hn', rfl⟩ := List.mem_map.mp hn
          have := bn n' hn'
          split <;> omega
end
end K06

set_option Elab.async false
set_option linter.all false
set_option maxRecDepth 100000
set_option maxHeartbeats 4000000
namespace K06
open PySem PySem.Spec PyProof.Rows L2 TB

theorem scLaw : FnScope ["_law_script", "_law_feed_here", "_law_turn", "_law_menu_here", "_law_offs_here", "_law_minute"] ["_law_script"] (defScope sLaw) := ⟨rfl, rfl, rfl, by decide +kernel, rfl, by decide +kernel, by decide +kernel⟩
section
variable {P : Program} {w : World} {K : PySem.W.Frag} {mg : Str → Option Value} {base : Heap}
def spLaw (K : PySem.W.Frag) : Sp := fun vs H Q _ => ∃ (a : Addr) (ns : List Int), vs = [.ref a] ∧ SqL K H a (ns.map V.int) ∧ ns.length ≤ 63 ∧ ∀ H', Q (.bl true) H'
theorem ok_law {f fFd fR fMn fLo fMe fOs fLm fRt : Addr} {fd fdFd fdR fdMn fdLo fdMe fdOs fdLm fdRt : FuncData} (F : Fun K "law" "law" sLaw f fd)
    (GFd : FnOk P w K mg base CX0 1 fFd fdFd ["_law_script"] (spFeed K)) (kFd : PySem.W.keepIn K (.ref fFd) = true) (bFd : Binds K fdFd ["_law_script"] []) (gFd : mg "_law_feed" = some (.ref fFd))
    (GDr : FnOk P w K mg base CX0 1 fR fdR ["_law_feed_here", "_law_many"] spDraw) (kDr : PySem.W.keepIn K (.ref fR) = true) (bDr : Binds K fdR ["_law_feed_here", "_law_many"] []) (gDr : mg "_law_draw" = some (.ref fR))
    (GMn : FnOk P w K mg base CX0 3 fMn fdMn ["_law_feed_here", "_law_many"] (spMn K)) (kMn : PySem.W.keepIn K (.ref fMn) = true) (bMn : Binds K fdMn ["_law_feed_here", "_law_many"] []) (gMn : mg "_law_menu" = some (.ref fMn))
    (GLo : FnOk P w K mg base CX0 3 fLo fdLo ["_law_feed_here", "_law_menu_here"] (spLo K)) (kLo : PySem.W.keepIn K (.ref fLo) = true) (bLo : Binds K fdLo ["_law_feed_here", "_law_menu_here"] []) (gLo : mg "_law_offs" = some (.ref fLo))
    (GMe : FnOk P w K mg base CX0 6 fMe fdMe ["thing"] (spYes K dMenu OkM)) (kMe : PySem.W.keepIn K (.ref fMe) = true) (bMe : Binds K fdMe ["thing"] []) (gMe : mg "is_menu" = some (.ref fMe))
    (GOs : FnOk P w K mg base CX0 5 fOs fdOs ["thing"] (spYes K dOffs fun os => (∀ o ∈ os, OkO o) ∧ os.length ≤ 20)) (kOs : PySem.W.keepIn K (.ref fOs) = true) (bOs : Binds K fdOs ["thing"] []) (gOs : mg "is_offs" = some (.ref fOs))
    (GLm : FnOk P w K mg base CX0 2 fLm fdLm ["_law_feed_here", "_law_menu_here", "_law_offs_here"] (spLm K)) (kLm : PySem.W.keepIn K (.ref fLm) = true) (bLm : Binds K fdLm ["_law_feed_here", "_law_menu_here", "_law_offs_here"] []) (gLm : mg "_law_minutes" = some (.ref fLm))
    (GRt : FnOk P w K mg base CX0 5 fRt fdRt ["_law_feed_here", "_law_menu_here", "_law_offs_here", "_law_minute"] (spRt K)) (kRt : PySem.W.keepIn K (.ref fRt) = true) (bRt : Binds K fdRt ["_law_feed_here", "_law_menu_here", "_law_offs_here", "_law_minute"] []) (gRt : mg "_law_right" = some (.ref fRt))
    (m_range : mg "range" = none) (m_min : mg "min" = none) : FnG P w K mg base CX0 7 f fd ["_law_script"] (spLaw K) := by
  refine gok F scLaw (fun vs H Q E h => ?_) (fun cdv A gd outer s H vs Q E hr h => ?_)
  · obtain ⟨a, ns, rfl, _⟩ := h
    rfl
  · obtain ⟨a, ns, rfl, hS, hlen, q⟩ := h
    refine ⟨_, (pss_cons (ps_set (i := 1) scLaw.nd rfl (.inl rfl) (pe_call GFd (hr.mono (by decide)) (by rfl) gFd kFd bFd .nil pass0 (pa_cons (pv 0) pa_nil)))
      (pss_cons (ps_for PassesOwn.never rfl (pi_range1 (by rfl) m_range (pa_cons pe_int pa_nil)) (pg_name (i := 2) scLaw.nd rfl (.inl rfl)) (pss_cons (ps_set (i := 3) scLaw.nd rfl (.inl rfl) (pe_call GMn (hr.mono (by decide)) (by rfl) gMn kMn bMn .nil pass0 (pa_cons (pv 1) (pa_cons (pe_op op_add pe_int (pe_call GDr (hr.mono (by decide)) (by rfl) gDr kDr bDr .nil pass0 (pa_cons (pv 1) (pa_cons pe_int pa_nil)))) pa_nil))))
      (pss_cons (ps_set (i := 4) scLaw.nd rfl (.inl rfl) (pe_slice sl_tupA (pe_call GLo (hr.mono (by decide)) (by rfl) gLo kLo bLo .nil pass0 (pa_cons (pv 1) (pa_cons (pv 3) pa_nil))) po_none (po_some pe_int)))
      (pss_cons (ps_if (PW.pt (pw_or (pt_cmpR op_notBl (pe_call GMe (hr.mono (by decide)) (by rfl) gMe kMe bMe .nil pass0 (pa_cons (pv 3) pa_nil)) pe_bl (nomark _)) (pw_or1 (pt_cmpR op_notBl (pe_call GOs (hr.mono (by decide)) (by rfl) gOs kOs bOs .nil pass0 (pa_cons (pv 4) pa_nil)) pe_bl (nomark _))))) (pss_one (ps_ret pe_bl)) pss_nil)
      (pss_one (ps_cut (ps_for PassesOwn.never rfl (pi_list (pe_slice sl_list (pe_call GLm (hr.mono (by decide)) (by rfl) gLm kLm bLm .nil pass0 (pa_cons (pv 1) (pa_cons (pv 3) (pa_cons (pv 4) pa_nil)))) po_none (po_some pe_int))) (pg_name (i := 5) scLaw.nd rfl (.inl rfl)) (pss_one (ps_if (pt_not (pt_val (pe_call GRt (hr.mono (by decide)) (by rfl) gRt kRt bRt .nil pass0 (pa_cons (pv 1) (pa_cons (pv 3) (pa_cons (pv 4) (pa_cons (pe_callB (call_min2 rfl) (by rfl) m_min (by decide +kernel) (pa_cons pe_int (pa_cons (pv 5) pa_nil))) pa_nil))))))) (pss_one (ps_ret pe_bl)) pss_nil)))))))))
      (pss_one (ps_ret pe_bl)))), ?_⟩
    refine ⟨_, rfl, a, ns, rfl, hS, by omega, fun H1 L S s1 nL f1 => ?_⟩
    show tSeq _ _ _ [some (.ref a), some (.ref L), none, none, none, none] _
    refine ⟨3, rfl, by decide, by decide, ?_⟩
    refine for_range (lo := 0) (n := (3 : Int).toNat) (fun i σ G => ∃ y2 y3 y4 y5, σ = [some (.ref a), some (.ref L), y2, y3, y4, y5] ∧ Feed G L S (2000 * i)) ⟨_, _, _, _, rfl, f1.mono (by omega)⟩ ?_ ?_
    · rintro i σ G hi ⟨y2, y3, y4, y5, rfl, f2⟩
      have hi3 : i < 3 := hi
      refine ⟨_, rfl, _, rfl, L, S, 8, _, rfl, by decide, by decide, f2, by omega, fun H2 v k2 f3 v0 v1 => ⟨_, _, rfl, rfl, ?_⟩⟩
      obtain ⟨n, hn⟩ : ∃ n : Nat, 1 + v = (n : Int) := ⟨_, (Int.toNat_of_nonneg (by omega)).symm⟩
      refine ⟨L, S, _, n, ?_, f3, by omega, by omega, fun H3 r rows k3 f4 dr okr rl so nd => ?_⟩
      · show [V.ref L, V.int (1 + v)] = _
        rw [hn]
      have so' : sortedS ((rows.map Prod.fst).map mkS) = true := by
        rw [List.map_map]
        exact so
      have okm : OkM rows := ⟨okr, by omega, by omega, rsg_of _ so' nd, nd⟩
      show tSeq _ _ _ [some (.ref a), some (.ref L), some (.int (0 + (i : Nat))), some (.ref r), y4, y5] _
      refine ⟨_, rfl, _, rfl, L, S, _, .ref r, rows, rfl, f4, by omega, dr, okm, fun H4 r4 os k4 f5 d4 oko ol => ?_⟩
      have nLm := noL_menu rows
      have dr4 := f4.dpB dr nLm k4
      obtain ⟨r4', zs, e4, hz, dz⟩ := Dp.tup_inv d4
      cases e4
      show tNoPart _ _ _
      unfold tNoPart
      refine ⟨_, rfl, slA hz fun H5 r5 s5 e5 => ?_⟩
      rw [show (some (5 : Int)) = some ((5 : Nat) : Int) from rfl, cutN_take] at e5
      have d5 : Dp K H5 (.ref r5) (dOffs (os.take 5)) := by
        refine .tup e5 ?_
        rw [List.map_take]
        exact DpAll.take 5 (DpAll.same s5 _ _ dz)
      have oko5 : ∀ o ∈ os.take 5, OkO o := fun o h => oko o (List.mem_of_mem_take h)
      have ol5 : (os.take 5).length ≤ 5 := by
        rw [List.length_take]
        omega
      generalize os.take 5 = ot at *
      have dr5 := Dp.same s5 _ _ dr4
      have f6 := f5.same s5
      show tSeq _ _ _ [some (.ref a), some (.ref L), some (.int (0 + (i : Nat))), some (.ref r), some (.ref r5), y5] _
      refine ⟨_, rfl, .ref r, rows, rfl, dr5, okm, fun H6 s6 => ⟨true, true, rfl, rfl, _, rfl, ?_⟩⟩
      change ite _ _ _
      refine iteF ?_
      refine ⟨_, rfl, .ref r5, ot, rfl, Dp.same s6 _ _ d5, ⟨oko5, by omega⟩, fun H7 s7 => ⟨true, true, rfl, rfl, _, rfl, ?_⟩⟩
      change ite _ _ _
      refine iteF ?_
      have s57 := s6.trans s7
      have dr7 := Dp.same s57 _ _ dr5
      have d7 := Dp.same s57 _ _ d5
      have f7 := f6.same s57
      have nLo := noL_offs ot
      refine ⟨fun σ' G' => ∃ y5, σ' = [some (.ref a), some (.ref L), some (.int (0 + (i : Nat))), some (.ref r), some (.ref r5), y5] ∧ Feed G' L S (2000 * ((i + 1 : Nat) : Int)), ?_, fun σ' G' z => ?_⟩
      · refine ⟨_, rfl, _, rfl, _, rfl, L, S, _, .ref r, .ref r5, rows, ot, rfl, f7, by omega, dr7, d7, okm, oko5, by omega, fun H8 r8 ms k8 f8 e8 n8 bm ml => ?_⟩
        have dr8 := f7.dpB dr7 nLm k8
        have d8 := f7.dpB d7 nLo k8
        refine ⟨_, rfl, r8, _, rfl, .inl (.inl e8), fun p np => ?_⟩
        rw [show (some (12 : Int)) = some ((12 : Nat) : Int) from rfl, cutN_take]
        have sp := same_upd (o := .lst ((ms.map V.int).take 12)) np
        have ep : (upd H8 p (.lst ((ms.map V.int).take 12))) p = some (.lst ((ms.take 12).map V.int)) := by
          rw [upd_same, List.map_take]
        have pL := (f8.ne np).1
        have f9 := f8.same sp
        have dr9 := Dp.same sp _ _ dr8
        have d9 := Dp.same sp _ _ d8
        generalize upd H8 p (.lst ((ms.map V.int).take 12)) = H9 at *
        have bt : ∀ n ∈ ms.take 12, 0 ≤ n ∧ n ≤ 99999 := fun n h => bm n (List.mem_of_mem_take h)
        have lt : (ms.take 12).length ≤ 12 := by
          rw [List.length_take]
          omega
        generalize ms.take 12 = mt at *
        refine ⟨p, rfl, ⟨_, .inl (.inl ep)⟩, ?_⟩
        refine for_list (xs := mt.map V.int) (fun j σ G => ∃ y5, σ = [some (.ref a), some (.ref L), some (.int (0 + (i : Nat))), some (.ref r), some (.ref r5), y5] ∧ Feed G L S (2000 * (i : Nat) + 1 + 100 * n + 700 + 13 + 4 * j) ∧ Dp K G (.ref r) (dMenu rows) ∧ Dp K G (.ref r5) (dOffs ot) ∧ G p = some (.lst (mt.map V.int))) ⟨_, rfl, f9.mono (by omega), dr9, d9, ep⟩ ?_ ?_ ?_
        · rintro j σ G _ ⟨y5, rfl, _, _, _, e1⟩
          exact .inl (.inl e1)
        · rintro j x σ G hx ⟨y5, rfl, fj, drj, dj, epj⟩
          obtain ⟨mm, hm, rfl⟩ := map_int hx
          have jl := (List.getElem?_eq_some_iff.mp hm).1
          have bmm := bt mm (List.mem_of_getElem? hm)
          show tIfS _ _ _ _ [some (.ref a), some (.ref L), some (.int (0 + (i : Nat))), some (.ref r), some (.ref r5), some (.int mm)] _
          refine ⟨_, rfl, _, rfl, _, rfl, _, rfl, _, _, rfl, ?_⟩
          generalize hM : (if mm < 99998 then mm else 99998) = M
          have Mb : 0 ≤ M ∧ M ≤ 99999 := by
            rw [← hM]
            split <;> omega
          refine ⟨L, S, _, .ref r, .ref r5, rows, ot, M, rfl, fj, by omega, drj, dj, okm, oko5, by omega, Mb.1, Mb.2, fun G2 kj f10 => ⟨_, rfl, ?_⟩⟩
          change ite _ _ _
          refine iteF ?_
          exact ⟨_, rfl, f10.mono (by push_cast; omega), fj.dpB drj nLm kj, fj.dpB dj nLo kj, kj _ _ pL epj⟩
        · rintro σ G ⟨y5, rfl, fj, _, _, _⟩
          rw [List.length_map] at fj
          exact ⟨_, rfl, fj.mono (by push_cast; omega)⟩
      · obtain ⟨y5, rfl, f9⟩ := z
        exact ⟨_, _, _, _, rfl, f9⟩
    · rintro σ G ⟨y2, y3, y4, y5, rfl, f2⟩
      exact q _
end
end K06

set_option Elab.async false
set_option linter.all false
set_option maxRecDepth 100000
namespace K06
open PySem PySem.Spec PyProof.Rows L2 TB
theorem all_mk {l : PySem.W.OpenLaw} {w : World} {K : PySem.W.Frag} {h : Heap} {mg : Str → Option Value} {fa : Addr} (X : K.In h) (G : h.Ns mainGlobals mg) (hfa : mg "law" = some (.ref fa))
    {f1 : Addr} {od1 an1 : Option Addr} {sl1 : Array (Option Value)} {oc1 kV1 dc1 pm1 cd1 ct1 : Value}
    {f2 : Addr} {od2 an2 : Option Addr} {sl2 : Array (Option Value)} {oc2 kV2 dc2 pm2 cd2 ct2 : Value}
    {f3 : Addr} {od3 an3 : Option Addr} {sl3 : Array (Option Value)} {oc3 kV3 dc3 pm3 cd3 ct3 : Value}
    {f4 : Addr} {od4 an4 : Option Addr} {sl4 : Array (Option Value)} {oc4 kV4 dc4 pm4 cd4 ct4 : Value}
    {f5 : Addr} {od5 an5 : Option Addr} {sl5 : Array (Option Value)} {oc5 kV5 dc5 pm5 cd5 ct5 : Value}
    {f6 : Addr} {od6 an6 : Option Addr} {sl6 : Array (Option Value)} {oc6 kV6 dc6 pm6 cd6 ct6 : Value}
    {f7 : Addr} {od7 an7 : Option Addr} {sl7 : Array (Option Value)} {oc7 kV7 dc7 pm7 cd7 ct7 : Value}
    {f8 : Addr} {od8 an8 : Option Addr} {sl8 : Array (Option Value)} {oc8 kV8 dc8 pm8 cd8 ct8 : Value}
    {f9 : Addr} {od9 an9 : Option Addr} {sl9 : Array (Option Value)} {oc9 kV9 dc9 pm9 cd9 ct9 : Value}
    {f10 : Addr} {od10 an10 : Option Addr} {sl10 : Array (Option Value)} {oc10 kV10 dc10 pm10 cd10 ct10 : Value}
    {f11 : Addr} {od11 an11 : Option Addr} {sl11 : Array (Option Value)} {oc11 kV11 dc11 pm11 cd11 ct11 : Value}
    {f12 : Addr} {od12 an12 : Option Addr} {sl12 : Array (Option Value)} {oc12 kV12 dc12 pm12 cd12 ct12 : Value}
    {f13 : Addr} {od13 an13 : Option Addr} {sl13 : Array (Option Value)} {oc13 kV13 dc13 pm13 cd13 ct13 : Value} {T13 : Addr} {tc13 : Value} {td13 : Option Addr} {ts13 : Array (Option Value)} {tn13 : Nat} {tk13_0 : Tok}
    {f14 : Addr} {od14 an14 : Option Addr} {sl14 : Array (Option Value)} {oc14 kV14 dc14 pm14 cd14 ct14 : Value}
    {f15 : Addr} {od15 an15 : Option Addr} {sl15 : Array (Option Value)} {oc15 kV15 dc15 pm15 cd15 ct15 : Value} {T15 : Addr} {tc15 : Value} {td15 : Option Addr} {ts15 : Array (Option Value)} {tn15 : Nat} {tk15_0 : Tok}
    {f16 : Addr} {od16 an16 : Option Addr} {sl16 : Array (Option Value)} {oc16 kV16 dc16 pm16 cd16 ct16 : Value} {T16 : Addr} {tc16 : Value} {td16 : Option Addr} {ts16 : Array (Option Value)} {tn16 : Nat} {tk16_0 : Tok}
    {f17 : Addr} {od17 an17 : Option Addr} {sl17 : Array (Option Value)} {oc17 kV17 dc17 pm17 cd17 ct17 : Value}
    {f18 : Addr} {od18 an18 : Option Addr} {sl18 : Array (Option Value)} {oc18 kV18 dc18 pm18 cd18 ct18 : Value}
    {f19 : Addr} {od19 an19 : Option Addr} {sl19 : Array (Option Value)} {oc19 kV19 dc19 pm19 cd19 ct19 : Value}
    {f20 : Addr} {od20 an20 : Option Addr} {sl20 : Array (Option Value)} {oc20 kV20 dc20 pm20 cd20 ct20 : Value}
    {f21 : Addr} {od21 an21 : Option Addr} {sl21 : Array (Option Value)} {oc21 kV21 dc21 pm21 cd21 ct21 : Value}
    {f22 : Addr} {od22 an22 : Option Addr} {sl22 : Array (Option Value)} {oc22 kV22 dc22 pm22 cd22 ct22 : Value}
    {f23 : Addr} {od23 an23 : Option Addr} {sl23 : Array (Option Value)} {oc23 kV23 dc23 pm23 cd23 ct23 : Value}
    {f24 : Addr} {od24 an24 : Option Addr} {sl24 : Array (Option Value)} {oc24 kV24 dc24 pm24 cd24 ct24 : Value}
    {f25 : Addr} {od25 an25 : Option Addr} {sl25 : Array (Option Value)} {oc25 kV25 dc25 pm25 cd25 ct25 : Value}
    {f26 : Addr} {od26 an26 : Option Addr} {sl26 : Array (Option Value)} {oc26 kV26 dc26 pm26 cd26 ct26 : Value}
    {f27 : Addr} {od27 an27 : Option Addr} {sl27 : Array (Option Value)} {oc27 kV27 dc27 pm27 cd27 ct27 : Value}
    {tk_LONGEST_WORD : Tok}
    {tk_WHOLE : Tok}
    (a1 : PySem.W.nsIn K mainGlobals "is_number" = some (some (.ref f1)))
    (l1 : K.lookup f1 = some ⟨oc1, od1, .func (PySem.W.fnOf "is_number" "is_number" (defArgs sNu) (defBody sNu) (defScope sNu) .none kV1 dc1 pm1 an1 cd1 ct1), sl1⟩)
    (c1 : PySem.W.codeIn K cd1 "is_number" = true) (k1 : PySem.W.keepIn K (.ref f1) = true)
    (a2 : PySem.W.nsIn K mainGlobals "is_word" = some (some (.ref f2)))
    (l2 : K.lookup f2 = some ⟨oc2, od2, .func (PySem.W.fnOf "is_word" "is_word" (defArgs sWo) (defBody sWo) (defScope sWo) .none kV2 dc2 pm2 an2 cd2 ct2), sl2⟩)
    (c2 : PySem.W.codeIn K cd2 "is_word" = true) (k2 : PySem.W.keepIn K (.ref f2) = true)
    (a3 : PySem.W.nsIn K mainGlobals "is_count" = some (some (.ref f3)))
    (l3 : K.lookup f3 = some ⟨oc3, od3, .func (PySem.W.fnOf "is_count" "is_count" (defArgs sCo) (defBody sCo) (defScope sCo) .none kV3 dc3 pm3 an3 cd3 ct3), sl3⟩)
    (c3 : PySem.W.codeIn K cd3 "is_count" = true) (k3 : PySem.W.keepIn K (.ref f3) = true)
    (a4 : PySem.W.nsIn K mainGlobals "is_tuple_of" = some (some (.ref f4)))
    (l4 : K.lookup f4 = some ⟨oc4, od4, .func (PySem.W.fnOf "is_tuple_of" "is_tuple_of" (defArgs sTu) (defBody sTu) (defScope sTu) .none kV4 dc4 pm4 an4 cd4 ct4), sl4⟩)
    (c4 : PySem.W.codeIn K cd4 "is_tuple_of" = true) (k4 : PySem.W.keepIn K (.ref f4) = true)
    (a5 : PySem.W.nsIn K mainGlobals "are_counts" = some (some (.ref f5)))
    (l5 : K.lookup f5 = some ⟨oc5, od5, .func (PySem.W.fnOf "are_counts" "are_counts" (defArgs sAc) (defBody sAc) (defScope sAc) .none kV5 dc5 pm5 an5 cd5 ct5), sl5⟩)
    (c5 : PySem.W.codeIn K cd5 "are_counts" = true) (k5 : PySem.W.keepIn K (.ref f5) = true)
    (a6 : PySem.W.nsIn K mainGlobals "rises" = some (some (.ref f6)))
    (l6 : K.lookup f6 = some ⟨oc6, od6, .func (PySem.W.fnOf "rises" "rises" (defArgs sRi) (defBody sRi) (defScope sRi) .none kV6 dc6 pm6 an6 cd6 ct6), sl6⟩)
    (c6 : PySem.W.codeIn K cd6 "rises" = true) (k6 : PySem.W.keepIn K (.ref f6) = true)
    (a7 : PySem.W.nsIn K mainGlobals "are_rising_words" = some (some (.ref f7)))
    (l7 : K.lookup f7 = some ⟨oc7, od7, .func (PySem.W.fnOf "are_rising_words" "are_rising_words" (defArgs sRw) (defBody sRw) (defScope sRw) .none kV7 dc7 pm7 an7 cd7 ct7), sl7⟩)
    (c7 : PySem.W.codeIn K cd7 "are_rising_words" = true) (k7 : PySem.W.keepIn K (.ref f7) = true)
    (a8 : PySem.W.nsIn K mainGlobals "is_menu" = some (some (.ref f8)))
    (l8 : K.lookup f8 = some ⟨oc8, od8, .func (PySem.W.fnOf "is_menu" "is_menu" (defArgs sMe) (defBody sMe) (defScope sMe) .none kV8 dc8 pm8 an8 cd8 ct8), sl8⟩)
    (c8 : PySem.W.codeIn K cd8 "is_menu" = true) (k8 : PySem.W.keepIn K (.ref f8) = true)
    (a9 : PySem.W.nsIn K mainGlobals "is_menu_row" = some (some (.ref f9)))
    (l9 : K.lookup f9 = some ⟨oc9, od9, .func (PySem.W.fnOf "is_menu_row" "is_menu_row" (defArgs sMr) (defBody sMr) (defScope sMr) .none kV9 dc9 pm9 an9 cd9 ct9), sl9⟩)
    (c9 : PySem.W.codeIn K cd9 "is_menu_row" = true) (k9 : PySem.W.keepIn K (.ref f9) = true)
    (a10 : PySem.W.nsIn K mainGlobals "are_prices" = some (some (.ref f10)))
    (l10 : K.lookup f10 = some ⟨oc10, od10, .func (PySem.W.fnOf "are_prices" "are_prices" (defArgs sAp) (defBody sAp) (defScope sAp) .none kV10 dc10 pm10 an10 cd10 ct10), sl10⟩)
    (c10 : PySem.W.codeIn K cd10 "are_prices" = true) (k10 : PySem.W.keepIn K (.ref f10) = true)
    (a11 : PySem.W.nsIn K mainGlobals "is_offs" = some (some (.ref f11)))
    (l11 : K.lookup f11 = some ⟨oc11, od11, .func (PySem.W.fnOf "is_offs" "is_offs" (defArgs sOs) (defBody sOs) (defScope sOs) .none kV11 dc11 pm11 an11 cd11 ct11), sl11⟩)
    (c11 : PySem.W.codeIn K cd11 "is_offs" = true) (k11 : PySem.W.keepIn K (.ref f11) = true)
    (a12 : PySem.W.nsIn K mainGlobals "is_off" = some (some (.ref f12)))
    (l12 : K.lookup f12 = some ⟨oc12, od12, .func (PySem.W.fnOf "is_off" "is_off" (defArgs sOf) (defBody sOf) (defScope sOf) .none kV12 dc12 pm12 an12 cd12 ct12), sl12⟩)
    (c12 : PySem.W.codeIn K cd12 "is_off" = true) (k12 : PySem.W.keepIn K (.ref f12) = true)
    (a13 : PySem.W.nsIn K mainGlobals "price" = some (some (.ref f13)))
    (l13 : K.lookup f13 = some ⟨oc13, od13, .func (PySem.W.fnOf "price" "price" (defArgs sPc) (defBody sPc) (defScope sPc) (.ref T13) kV13 dc13 pm13 an13 cd13 ct13), sl13⟩)
    (c13 : PySem.W.codeIn K cd13 "price" = true) (k13 : PySem.W.keepIn K (.ref f13) = true)
    (t13 : K.lookup T13 = some ⟨tc13, td13, .seq #[.int 0 tk13_0] tn13, ts13⟩)
    (a14 : PySem.W.nsIn K mainGlobals "menu_row" = some (some (.ref f14)))
    (l14 : K.lookup f14 = some ⟨oc14, od14, .func (PySem.W.fnOf "menu_row" "menu_row" (defArgs sRo) (defBody sRo) (defScope sRo) .none kV14 dc14 pm14 an14 cd14 ct14), sl14⟩)
    (c14 : PySem.W.codeIn K cd14 "menu_row" = true) (k14 : PySem.W.keepIn K (.ref f14) = true)
    (a15 : PySem.W.nsIn K mainGlobals "percent_at" = some (some (.ref f15)))
    (l15 : K.lookup f15 = some ⟨oc15, od15, .func (PySem.W.fnOf "percent_at" "percent_at" (defArgs sPa) (defBody sPa) (defScope sPa) (.ref T15) kV15 dc15 pm15 an15 cd15 ct15), sl15⟩)
    (c15 : PySem.W.codeIn K cd15 "percent_at" = true) (k15 : PySem.W.keepIn K (.ref f15) = true)
    (t15 : K.lookup T15 = some ⟨tc15, td15, .seq #[.int 0 tk15_0] tn15, ts15⟩)
    (a16 : PySem.W.nsIn K mainGlobals "cost" = some (some (.ref f16)))
    (l16 : K.lookup f16 = some ⟨oc16, od16, .func (PySem.W.fnOf "cost" "cost" (defArgs sCs) (defBody sCs) (defScope sCs) (.ref T16) kV16 dc16 pm16 an16 cd16 ct16), sl16⟩)
    (c16 : PySem.W.codeIn K cd16 "cost" = true) (k16 : PySem.W.keepIn K (.ref f16) = true)
    (t16 : K.lookup T16 = some ⟨tc16, td16, .seq #[.int 0 tk16_0] tn16, ts16⟩)
    (a17 : PySem.W.nsIn K mainGlobals "_law_feed" = some (some (.ref f17)))
    (l17 : K.lookup f17 = some ⟨oc17, od17, .func (PySem.W.fnOf "_law_feed" "_law_feed" (defArgs sFeed) (defBody sFeed) (defScope sFeed) .none kV17 dc17 pm17 an17 cd17 ct17), sl17⟩)
    (c17 : PySem.W.codeIn K cd17 "_law_feed" = true) (k17 : PySem.W.keepIn K (.ref f17) = true)
    (a18 : PySem.W.nsIn K mainGlobals "_law_draw" = some (some (.ref f18)))
    (l18 : K.lookup f18 = some ⟨oc18, od18, .func (PySem.W.fnOf "_law_draw" "_law_draw" (defArgs sDraw) (defBody sDraw) (defScope sDraw) .none kV18 dc18 pm18 an18 cd18 ct18), sl18⟩)
    (c18 : PySem.W.codeIn K cd18 "_law_draw" = true) (k18 : PySem.W.keepIn K (.ref f18) = true)
    (a19 : PySem.W.nsIn K mainGlobals "_law_after" = some (some (.ref f19)))
    (l19 : K.lookup f19 = some ⟨oc19, od19, .func (PySem.W.fnOf "_law_after" "_law_after" (defArgs sAf) (defBody sAf) (defScope sAf) .none kV19 dc19 pm19 an19 cd19 ct19), sl19⟩)
    (c19 : PySem.W.codeIn K cd19 "_law_after" = true) (k19 : PySem.W.keepIn K (.ref f19) = true)
    (a20 : PySem.W.nsIn K mainGlobals "_law_word" = some (some (.ref f20)))
    (l20 : K.lookup f20 = some ⟨oc20, od20, .func (PySem.W.fnOf "_law_word" "_law_word" (defArgs sWd) (defBody sWd) (defScope sWd) .none kV20 dc20 pm20 an20 cd20 ct20), sl20⟩)
    (c20 : PySem.W.codeIn K cd20 "_law_word" = true) (k20 : PySem.W.keepIn K (.ref f20) = true)
    (a21 : PySem.W.nsIn K mainGlobals "_law_prices" = some (some (.ref f21)))
    (l21 : K.lookup f21 = some ⟨oc21, od21, .func (PySem.W.fnOf "_law_prices" "_law_prices" (defArgs sPr) (defBody sPr) (defScope sPr) .none kV21 dc21 pm21 an21 cd21 ct21), sl21⟩)
    (c21 : PySem.W.codeIn K cd21 "_law_prices" = true) (k21 : PySem.W.keepIn K (.ref f21) = true)
    (a22 : PySem.W.nsIn K mainGlobals "_law_menu" = some (some (.ref f22)))
    (l22 : K.lookup f22 = some ⟨oc22, od22, .func (PySem.W.fnOf "_law_menu" "_law_menu" (defArgs sMn) (defBody sMn) (defScope sMn) .none kV22 dc22 pm22 an22 cd22 ct22), sl22⟩)
    (c22 : PySem.W.codeIn K cd22 "_law_menu" = true) (k22 : PySem.W.keepIn K (.ref f22) = true)
    (a23 : PySem.W.nsIn K mainGlobals "_law_offs" = some (some (.ref f23)))
    (l23 : K.lookup f23 = some ⟨oc23, od23, .func (PySem.W.fnOf "_law_offs" "_law_offs" (defArgs sLo) (defBody sLo) (defScope sLo) .none kV23 dc23 pm23 an23 cd23 ct23), sl23⟩)
    (c23 : PySem.W.codeIn K cd23 "_law_offs" = true) (k23 : PySem.W.keepIn K (.ref f23) = true)
    (a24 : PySem.W.nsIn K mainGlobals "_law_minutes" = some (some (.ref f24)))
    (l24 : K.lookup f24 = some ⟨oc24, od24, .func (PySem.W.fnOf "_law_minutes" "_law_minutes" (defArgs sLm) (defBody sLm) (defScope sLm) .none kV24 dc24 pm24 an24 cd24 ct24), sl24⟩)
    (c24 : PySem.W.codeIn K cd24 "_law_minutes" = true) (k24 : PySem.W.keepIn K (.ref f24) = true)
    (a25 : PySem.W.nsIn K mainGlobals "_law_one_right" = some (some (.ref f25)))
    (l25 : K.lookup f25 = some ⟨oc25, od25, .func (PySem.W.fnOf "_law_one_right" "_law_one_right" (defArgs sOr) (defBody sOr) (defScope sOr) .none kV25 dc25 pm25 an25 cd25 ct25), sl25⟩)
    (c25 : PySem.W.codeIn K cd25 "_law_one_right" = true) (k25 : PySem.W.keepIn K (.ref f25) = true)
    (a26 : PySem.W.nsIn K mainGlobals "_law_right" = some (some (.ref f26)))
    (l26 : K.lookup f26 = some ⟨oc26, od26, .func (PySem.W.fnOf "_law_right" "_law_right" (defArgs sRt) (defBody sRt) (defScope sRt) .none kV26 dc26 pm26 an26 cd26 ct26), sl26⟩)
    (c26 : PySem.W.codeIn K cd26 "_law_right" = true) (k26 : PySem.W.keepIn K (.ref f26) = true)
    (a27 : PySem.W.nsIn K mainGlobals "law" = some (some (.ref f27)))
    (l27 : K.lookup f27 = some ⟨oc27, od27, .func (PySem.W.fnOf "law" "law" (defArgs sLaw) (defBody sLaw) (defScope sLaw) .none kV27 dc27 pm27 an27 cd27 ct27), sl27⟩)
    (c27 : PySem.W.codeIn K cd27 "law" = true) (k27 : PySem.W.keepIn K (.ref f27) = true)
    (z_isinstance : PySem.W.nsIn K mainGlobals "isinstance" = some none)
    (z_int : PySem.W.nsIn K mainGlobals "int" = some none)
    (z_bool : PySem.W.nsIn K mainGlobals "bool" = some none)
    (z_str : PySem.W.nsIn K mainGlobals "str" = some none)
    (z_tuple : PySem.W.nsIn K mainGlobals "tuple" = some none)
    (z_len : PySem.W.nsIn K mainGlobals "len" = some none)
    (z_all : PySem.W.nsIn K mainGlobals "all" = some none)
    (z_zip : PySem.W.nsIn K mainGlobals "zip" = some none)
    (z_max : PySem.W.nsIn K mainGlobals "max" = some none)
    (z_min : PySem.W.nsIn K mainGlobals "min" = some none)
    (z_range : PySem.W.nsIn K mainGlobals "range" = some none)
    (z_sorted : PySem.W.nsIn K mainGlobals "sorted" = some none)
    (a_LONGEST_WORD : PySem.W.nsIn K mainGlobals "LONGEST_WORD" = some (some (.int 8 tk_LONGEST_WORD)))
    (a_WHOLE : PySem.W.nsIn K mainGlobals "WHOLE" = some (some (.int 100 tk_WHOLE))) :
    ∃ fd : FuncData, (∀ (s : Shared) (v : Value), BindsTo s fd ⟨[v], []⟩ [("_law_script", v)]) ∧ ∀ base : Heap, K.In base → base.Ns mainGlobals mg → FnG l.prog w K mg base CX0 7 fa fd ["_law_script"] (spLaw K) := by
  have e := hfa.symm.trans (PySem.W.mg_of X G a27)
  cases e
  have F1 := fun_mk (st := sNu) l1 c1 k1
  have b1 := F1.binds (ps := ["thing"]) fun _ _ _ _ _ _ us hl => match us, hl with | [_], _ => rfl
  have g1 := PySem.W.mg_of X G a1
  have F2 := fun_mk (st := sWo) l2 c2 k2
  have b2 := F2.binds (ps := ["thing"]) fun _ _ _ _ _ _ us hl => match us, hl with | [_], _ => rfl
  have g2 := PySem.W.mg_of X G a2
  have F3 := fun_mk (st := sCo) l3 c3 k3
  have b3 := F3.binds (ps := ["thing"]) fun _ _ _ _ _ _ us hl => match us, hl with | [_], _ => rfl
  have g3 := PySem.W.mg_of X G a3
  have F4 := fun_mk (st := sTu) l4 c4 k4
  have b4 := F4.binds (ps := ["thing", "many"]) fun _ _ _ _ _ _ us hl => match us, hl with | [_, _], _ => rfl
  have g4 := PySem.W.mg_of X G a4
  have F5 := fun_mk (st := sAc) l5 c5 k5
  have b5 := F5.binds (ps := ["thing", "many"]) fun _ _ _ _ _ _ us hl => match us, hl with | [_, _], _ => rfl
  have g5 := PySem.W.mg_of X G a5
  have F6 := fun_mk (st := sRi) l6 c6 k6
  have b6 := F6.binds (ps := ["things"]) fun _ _ _ _ _ _ us hl => match us, hl with | [_], _ => rfl
  have g6 := PySem.W.mg_of X G a6
  have F7 := fun_mk (st := sRw) l7 c7 k7
  have b7 := F7.binds (ps := ["thing"]) fun _ _ _ _ _ _ us hl => match us, hl with | [_], _ => rfl
  have g7 := PySem.W.mg_of X G a7
  have F8 := fun_mk (st := sMe) l8 c8 k8
  have b8 := F8.binds (ps := ["thing"]) fun _ _ _ _ _ _ us hl => match us, hl with | [_], _ => rfl
  have g8 := PySem.W.mg_of X G a8
  have F9 := fun_mk (st := sMr) l9 c9 k9
  have b9 := F9.binds (ps := ["thing"]) fun _ _ _ _ _ _ us hl => match us, hl with | [_], _ => rfl
  have g9 := PySem.W.mg_of X G a9
  have F10 := fun_mk (st := sAp) l10 c10 k10
  have b10 := F10.binds (ps := ["thing"]) fun _ _ _ _ _ _ us hl => match us, hl with | [_], _ => rfl
  have g10 := PySem.W.mg_of X G a10
  have F11 := fun_mk (st := sOs) l11 c11 k11
  have b11 := F11.binds (ps := ["thing"]) fun _ _ _ _ _ _ us hl => match us, hl with | [_], _ => rfl
  have g11 := PySem.W.mg_of X G a11
  have F12 := fun_mk (st := sOf) l12 c12 k12
  have b12 := F12.binds (ps := ["thing"]) fun _ _ _ _ _ _ us hl => match us, hl with | [_], _ => rfl
  have g12 := PySem.W.mg_of X G a12
  have F13 : FunD K "price" "price" (defArgs sPc) (defBody sPc) (defScope sPc) [.int 0] [] f13 (PySem.W.fnOf "price" "price" (defArgs sPc) (defBody sPc) (defScope sPc) (.ref T13) kV13 dc13 pm13 an13 cd13 ct13) :=
    ⟨⟨oc13, od13, _, _, _, _, _, _, _, sl13, rfl, l13, c13, .inr ⟨fun z => (nomatch z), T13, _, [.int 0 tk13_0], tn13, rfl, t13, rfl, .cons ⟨_, rfl⟩ (.nil)⟩, .inl rfl⟩, k13⟩
  have b13 : Binds K (PySem.W.fnOf "price" "price" (defArgs sPc) (defBody sPc) (defScope sPc) (.ref T13) kV13 dc13 pm13 an13 cd13 ct13) ["menu", "item", "minute"] [] := by
    obtain ⟨ds, vd, bd⟩ := F13.binds1 (ps := ["menu", "item", "minute"]) 3 1 (fun z => (nomatch z)) rfl (fun T kV doc pm an cdv ct us its hu hi => match us, hu, its, hi with | [_, _, _], _, [_], _ => ⟨_, rfl, rfl⟩)
    cases vd
    exact bd
  have g13 := PySem.W.mg_of X G a13
  have F14 := fun_mk (st := sRo) l14 c14 k14
  have b14 := F14.binds (ps := ["menu", "item"]) fun _ _ _ _ _ _ us hl => match us, hl with | [_, _], _ => rfl
  have g14 := PySem.W.mg_of X G a14
  have F15 : FunD K "percent_at" "percent_at" (defArgs sPa) (defBody sPa) (defScope sPa) [.int 0] [] f15 (PySem.W.fnOf "percent_at" "percent_at" (defArgs sPa) (defBody sPa) (defScope sPa) (.ref T15) kV15 dc15 pm15 an15 cd15 ct15) :=
    ⟨⟨oc15, od15, _, _, _, _, _, _, _, sl15, rfl, l15, c15, .inr ⟨fun z => (nomatch z), T15, _, [.int 0 tk15_0], tn15, rfl, t15, rfl, .cons ⟨_, rfl⟩ (.nil)⟩, .inl rfl⟩, k15⟩
  have b15 : Binds K (PySem.W.fnOf "percent_at" "percent_at" (defArgs sPa) (defBody sPa) (defScope sPa) (.ref T15) kV15 dc15 pm15 an15 cd15 ct15) ["offs", "item", "minute"] [] := by
    obtain ⟨ds, vd, bd⟩ := F15.binds1 (ps := ["offs", "item", "minute"]) 3 1 (fun z => (nomatch z)) rfl (fun T kV doc pm an cdv ct us its hu hi => match us, hu, its, hi with | [_, _, _], _, [_], _ => ⟨_, rfl, rfl⟩)
    cases vd
    exact bd
  have g15 := PySem.W.mg_of X G a15
  have F16 : FunD K "cost" "cost" (defArgs sCs) (defBody sCs) (defScope sCs) [.int 0] [] f16 (PySem.W.fnOf "cost" "cost" (defArgs sCs) (defBody sCs) (defScope sCs) (.ref T16) kV16 dc16 pm16 an16 cd16 ct16) :=
    ⟨⟨oc16, od16, _, _, _, _, _, _, _, sl16, rfl, l16, c16, .inr ⟨fun z => (nomatch z), T16, _, [.int 0 tk16_0], tn16, rfl, t16, rfl, .cons ⟨_, rfl⟩ (.nil)⟩, .inl rfl⟩, k16⟩
  have b16 : Binds K (PySem.W.fnOf "cost" "cost" (defArgs sCs) (defBody sCs) (defScope sCs) (.ref T16) kV16 dc16 pm16 an16 cd16 ct16) ["menu", "offs", "item", "minute"] [] := by
    obtain ⟨ds, vd, bd⟩ := F16.binds1 (ps := ["menu", "offs", "item", "minute"]) 4 1 (fun z => (nomatch z)) rfl (fun T kV doc pm an cdv ct us its hu hi => match us, hu, its, hi with | [_, _, _, _], _, [_], _ => ⟨_, rfl, rfl⟩)
    cases vd
    exact bd
  have g16 := PySem.W.mg_of X G a16
  have F17 := fun_mk (st := sFeed) l17 c17 k17
  have b17 := F17.binds (ps := ["_law_script"]) fun _ _ _ _ _ _ us hl => match us, hl with | [_], _ => rfl
  have g17 := PySem.W.mg_of X G a17
  have F18 := fun_mk (st := sDraw) l18 c18 k18
  have b18 := F18.binds (ps := ["_law_feed_here", "_law_many"]) fun _ _ _ _ _ _ us hl => match us, hl with | [_, _], _ => rfl
  have g18 := PySem.W.mg_of X G a18
  have F19 := fun_mk (st := sAf) l19 c19 k19
  have b19 := F19.binds (ps := ["_law_word_here"]) fun _ _ _ _ _ _ us hl => match us, hl with | [_], _ => rfl
  have g19 := PySem.W.mg_of X G a19
  have F20 := fun_mk (st := sWd) l20 c20 k20
  have b20 := F20.binds (ps := ["_law_feed_here", "_law_found"]) fun _ _ _ _ _ _ us hl => match us, hl with | [_, _], _ => rfl
  have g20 := PySem.W.mg_of X G a20
  have F21 := fun_mk (st := sPr) l21 c21 k21
  have b21 := F21.binds (ps := ["_law_feed_here"]) fun _ _ _ _ _ _ us hl => match us, hl with | [_], _ => rfl
  have g21 := PySem.W.mg_of X G a21
  have F22 := fun_mk (st := sMn) l22 c22 k22
  have b22 := F22.binds (ps := ["_law_feed_here", "_law_many"]) fun _ _ _ _ _ _ us hl => match us, hl with | [_, _], _ => rfl
  have g22 := PySem.W.mg_of X G a22
  have F23 := fun_mk (st := sLo) l23 c23 k23
  have b23 := F23.binds (ps := ["_law_feed_here", "_law_menu_here"]) fun _ _ _ _ _ _ us hl => match us, hl with | [_, _], _ => rfl
  have g23 := PySem.W.mg_of X G a23
  have F24 := fun_mk (st := sLm) l24 c24 k24
  have b24 := F24.binds (ps := ["_law_feed_here", "_law_menu_here", "_law_offs_here"]) fun _ _ _ _ _ _ us hl => match us, hl with | [_, _, _], _ => rfl
  have g24 := PySem.W.mg_of X G a24
  have F25 := fun_mk (st := sOr) l25 c25 k25
  have b25 := F25.binds (ps := ["_law_menu_here", "_law_offs_here", "_law_item", "_law_minute"]) fun _ _ _ _ _ _ us hl => match us, hl with | [_, _, _, _], _ => rfl
  have g25 := PySem.W.mg_of X G a25
  have F26 := fun_mk (st := sRt) l26 c26 k26
  have b26 := F26.binds (ps := ["_law_feed_here", "_law_menu_here", "_law_offs_here", "_law_minute"]) fun _ _ _ _ _ _ us hl => match us, hl with | [_, _, _, _], _ => rfl
  have g26 := PySem.W.mg_of X G a26
  have F27 := fun_mk (st := sLaw) l27 c27 k27
  have b27 := F27.binds (ps := ["_law_script"]) fun _ _ _ _ _ _ us hl => match us, hl with | [_], _ => rfl
  have g27 := PySem.W.mg_of X G a27
  have mg_LONGEST_WORD := PySem.W.mg_of X G a_LONGEST_WORD
  have mg_WHOLE := PySem.W.mg_of X G a_WHOLE
  have m_isinstance := PySem.W.mg_none_of X G z_isinstance
  have m_int := PySem.W.mg_none_of X G z_int
  have m_bool := PySem.W.mg_none_of X G z_bool
  have m_str := PySem.W.mg_none_of X G z_str
  have m_tuple := PySem.W.mg_none_of X G z_tuple
  have m_len := PySem.W.mg_none_of X G z_len
  have m_all := PySem.W.mg_none_of X G z_all
  have m_zip := PySem.W.mg_none_of X G z_zip
  have m_max := PySem.W.mg_none_of X G z_max
  have m_min := PySem.W.mg_none_of X G z_min
  have m_range := PySem.W.mg_none_of X G z_range
  have m_sorted := PySem.W.mg_none_of X G z_sorted
  refine ⟨PySem.W.fnOf "law" "law" (defArgs sLaw) (defBody sLaw) (defScope sLaw) .none kV27 dc27 pm27 an27 cd27 ct27, fun s v => .of_eq rfl, fun base _ _ => ?_⟩
  have GNu := ok_n (P := l.prog) (w := w) (base := base) (k := 0) F1 m_isinstance m_int m_bool
  have GWo := ok_w (P := l.prog) (w := w) (base := base) (k := 0) F2 m_isinstance m_str m_len m_all mg_LONGEST_WORD ⟨_, rfl⟩
  have GCo := ok_c (P := l.prog) (w := w) (base := base) F3 GNu k1 b1 g1
  have GTu := ok_t (P := l.prog) (w := w) (base := base) (k := 0) F4 m_isinstance m_tuple m_len
  have GAc := ok_ac (P := l.prog) (w := w) (base := base) F5 GCo k3 b3 g3 GTu k4 b4 g4 m_all
  have GRi := ok_ri (P := l.prog) (w := w) (base := base) (k := 0) F6 m_all m_zip
  have GRw := ok_rw (P := l.prog) (w := w) (base := base) F7 GWo k2 b2 g2 GRi k6 b6 g6 m_isinstance m_tuple m_all
  have GAp := ok_ap (P := l.prog) (w := w) (base := base) F10 GAc k5 b5 g5 GRi k6 b6 g6 m_isinstance m_tuple m_all m_len
  have GMr := ok_mr (P := l.prog) (w := w) (base := base) F9 GTu k4 b4 g4 GWo k2 b2 g2 GCo k3 b3 g3 GAp k10 b10 g10
  have GMe := ok_me (P := l.prog) (w := w) (base := base) F8 GMr k9 b9 g9 GRi k6 b6 g6 m_isinstance m_tuple m_all m_len
  have GOf := ok_of (P := l.prog) (w := w) (base := base) F12 GTu k4 b4 g4 GRw k7 b7 g7 GAc k5 b5 g5 mg_WHOLE ⟨_, rfl⟩
  have GOs := ok_os (P := l.prog) (w := w) (base := base) F11 GOf k12 b12 g12 m_isinstance m_tuple m_all
  have GRo := ok_ro (P := l.prog) (w := w) (base := base) (mg := mg) (k := 0) F14
  have GPc := ok_pc (P := l.prog) (w := w) (base := base) F13 GRo k14 b14 g14
  have GPa := ok_pa (P := l.prog) (w := w) (base := base) (k := 0) F15 m_max
  have GCs := ok_cs (P := l.prog) (w := w) (base := base) F16 GPc k13 b13 g13 GPa k15 b15 g15 mg_WHOLE ⟨_, rfl⟩
  have GFd := ok_feed (P := l.prog) (w := w) (base := base) (mg := mg) (k := 0) F17
  have GDr := ok_draw (P := l.prog) (w := w) (base := base) (mg := mg) (k := 0) F18 m_len
  have GAf := ok_af (P := l.prog) (w := w) (base := base) (k := 0) F19 m_len
  have GWd := ok_wd (P := l.prog) (w := w) (base := base) F20 GDr k18 b18 g18 GAf k19 b19 g19 m_range m_len
  have GPr := ok_pr (P := l.prog) (w := w) (base := base) F21 GDr k18 b18 g18 m_range m_tuple
  have GMn := ok_mn (P := l.prog) (w := w) (base := base) F22 GDr k18 b18 g18 GWd k20 b20 g20 GPr k21 b21 g21 m_range m_tuple m_sorted
  have GLo := ok_lo (P := l.prog) (w := w) (base := base) F23 GDr k18 b18 g18 GWd k20 b20 g20 m_range m_tuple m_sorted
  have GLm := ok_lm (P := l.prog) (w := w) (base := base) F24 GDr k18 b18 g18 m_len m_max m_min
  have GOr := ok_or (P := l.prog) (w := w) (base := base) F25 GPc k13 b13 g13 GPa k15 b15 g15 GCs k16 b16 g16
  have GRt := ok_rt (P := l.prog) (w := w) (base := base) F26 GDr k18 b18 g18 GOr k25 b25 g25 GCs k16 b16 g16 GPc k13 b13 g13 m_len
  exact ok_law F27 GFd k17 b17 g17 GDr k18 b18 g18 GMn k22 b22 g22 GLo k23 b23 g23 GMe k8 b8 g8 GOs k11 b11 g11 GLm k24 b24 g24 GRt k26 b26 g26 m_range m_min
end K06
open PySem PySem.W PyProof.Rows
set_option maxHeartbeats 0 in
theorem PySem.Challenge.cw_tablebills_k06_whole_costs_bounded_holds : PySem.Challenge.rw_tablebills_k06_whole_costs_bounded.Holds := by
  w_on; o_law; k_head; (case hw => w_witness2)
  k_fill
  refine TB.walkG (l := PySem.Challenge.rw_tablebills_k06_whole_costs_bounded) (n := 63) (k := 7) (x := "_law_script") (sp := fun w => K06.spLaw _) rfl (by decide) rfl (fun w h Y => PySem.W.kIn_of Y) ⟨rfl, by decide, by decide⟩ ?F (fun _ _ a ns hl hS => ⟨a, ns, rfl, hS, hl, fun _ => rfl⟩)
  case F =>
    intro w mg fa h KX G hmg
    refine' K06.all_mk KX G hmg ?a1 ?l1 ?c1 ?k1 ?a2 ?l2 ?c2 ?k2 ?a3 ?l3 ?c3 ?k3 ?a4 ?l4 ?c4 ?k4 ?a5 ?l5 ?c5 ?k5 ?a6 ?l6 ?c6 ?k6 ?a7 ?l7 ?c7 ?k7 ?a8 ?l8 ?c8 ?k8 ?a9 ?l9 ?c9 ?k9 ?a10 ?l10 ?c10 ?k10 ?a11 ?l11 ?c11 ?k11 ?a12 ?l12 ?c12 ?k12 ?a13 ?l13 ?c13 ?k13 ?t13 ?a14 ?l14 ?c14 ?k14 ?a15 ?l15 ?c15 ?k15 ?t15 ?a16 ?l16 ?c16 ?k16 ?t16 ?a17 ?l17 ?c17 ?k17 ?a18 ?l18 ?c18 ?k18 ?a19 ?l19 ?c19 ?k19 ?a20 ?l20 ?c20 ?k20 ?a21 ?l21 ?c21 ?k21 ?a22 ?l22 ?c22 ?k22 ?a23 ?l23 ?c23 ?k23 ?a24 ?l24 ?c24 ?k24 ?a25 ?l25 ?c25 ?k25 ?a26 ?l26 ?c26 ?k26 ?a27 ?l27 ?c27 ?k27 ?z_isinstance ?z_int ?z_bool ?z_str ?z_tuple ?z_len ?z_all ?z_zip ?z_max ?z_min ?z_range ?z_sorted ?a_LONGEST_WORD ?a_WHOLE
    (case a1 => k_is); (case l1 => k_is); (case c1 => k_is); (case k1 => k_is); (case a2 => k_is); (case l2 => k_is); (case c2 => k_is); (case k2 => k_is); (case a3 => k_is); (case l3 => k_is); (case c3 => k_is); (case k3 => k_is); (case a4 => k_is); (case l4 => k_is); (case c4 => k_is); (case k4 => k_is); (case a5 => k_is); (case l5 => k_is); (case c5 => k_is); (case k5 => k_is); (case a6 => k_is); (case l6 => k_is); (case c6 => k_is); (case k6 => k_is); (case a7 => k_is); (case l7 => k_is); (case c7 => k_is); (case k7 => k_is); (case a8 => k_is); (case l8 => k_is); (case c8 => k_is); (case k8 => k_is); (case a9 => k_is); (case l9 => k_is); (case c9 => k_is); (case k9 => k_is); (case a10 => k_is); (case l10 => k_is); (case c10 => k_is); (case k10 => k_is); (case a11 => k_is); (case l11 => k_is); (case c11 => k_is); (case k11 => k_is); (case a12 => k_is); (case l12 => k_is); (case c12 => k_is); (case k12 => k_is); (case a13 => k_is); (case l13 => k_is); (case c13 => k_is); (case k13 => k_is); (case t13 => k_is); (case a14 => k_is); (case l14 => k_is); (case c14 => k_is); (case k14 => k_is); (case a15 => k_is); (case l15 => k_is); (case c15 => k_is); (case k15 => k_is); (case t15 => k_is); (case a16 => k_is); (case l16 => k_is); (case c16 => k_is); (case k16 => k_is); (case t16 => k_is); (case a17 => k_is); (case l17 => k_is); (case c17 => k_is); (case k17 => k_is); (case a18 => k_is); (case l18 => k_is); (case c18 => k_is); (case k18 => k_is); (case a19 => k_is); (case l19 => k_is); (case c19 => k_is); (case k19 => k_is); (case a20 => k_is); (case l20 => k_is); (case c20 => k_is); (case k20 => k_is); (case a21 => k_is); (case l21 => k_is); (case c21 => k_is); (case k21 => k_is); (case a22 => k_is); (case l22 => k_is); (case c22 => k_is); (case k22 => k_is); (case a23 => k_is); (case l23 => k_is); (case c23 => k_is); (case k23 => k_is); (case a24 => k_is); (case l24 => k_is); (case c24 => k_is); (case k24 => k_is); (case a25 => k_is); (case l25 => k_is); (case c25 => k_is); (case k25 => k_is); (case a26 => k_is); (case l26 => k_is); (case c26 => k_is); (case k26 => k_is); (case a27 => k_is); (case l27 => k_is); (case c27 => k_is); (case k27 => k_is); (case z_isinstance => k_is); (case z_int => k_is); (case z_bool => k_is); (case z_str => k_is); (case z_tuple => k_is); (case z_len => k_is); (case z_all => k_is); (case z_zip => k_is); (case z_max => k_is); (case z_min => k_is); (case z_range => k_is); (case z_sorted => k_is); (case a_LONGEST_WORD => k_is); (case a_WHOLE => k_is)
