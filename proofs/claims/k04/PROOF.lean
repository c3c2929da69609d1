import PyProof.Rows.All
import Wide.All
import OpenK.AllK
import Wide.FinOn
import HandS.ForMost
import HandS.Wide
import HandS.Defaults
import HandS.Flow
import HandS.Style
import HandS.IsInst
import HandS.MakeKw
import HandS.Exc
import HandS.WordsExc
import HandS.Lambda
import HandS.Zip
import HandS.TupAny
import HandS.RaiseMore
import HandS.TupMul
import KE.GoesMore
import HandS.Walk
import KE.GoesEnum
import KE.KExcIs
import HandS.ForExc
import HandS.ExcInit
import HandS.ExcField
import PyProof.Rows.IntBool
import HandS.Text
import HandS.Replace
import HandS.Deep
import HandS.TupLe
import KE.KMinKey
import HandS.SortKw
import PyProof.AutoSeq1
import HandS.WordsDict
import HandS.TryOnly
import HandS.SortInts
import HandS.More
import KE.KDictPairs
import KE.KDictOf
import HandS.Conv
import HandS.SetFor
import HandS.SetTxt0
import HandS.TupSets
import PyProof.Rows.SortShellAny
import HandS.StrMore
import HandS.Strs
import HandS.ExcOwn
import KE.KDictKeyed
import HandS.SortRule
import HandS.DictTup
import HandS.EndTab
import PySem.Challenge.RW_tablebills_k04_prices_by_hour
set_option Elab.async false
set_option linter.all false
set_option maxHeartbeats 4000000
set_option maxRecDepth 100000
namespace TB
open PySem PySem.Spec PyProof.Rows L2
section
variable (P : Program) (w : World) (K : PySem.W.Frag) (mg : Str → Option Value) (base : Heap)
structure FnG (CX : CXT) (k : Nat) (f : Addr) (fd : FuncData) (ps : List Str) (sp : Sp) : Prop where
 len : ∀ xs G R Z,sp xs G R Z → xs.length = ps.length
 run : ∀ (A : Around),A.guards = some [] → Room k A →
   ∀ (outer : List Env) (s : Shared) (H : Hp),Env0 P w K mg base A outer s H →
   ∀ (args : Args) (us : List Value) (vs : List V),BindsTo s fd args (ps.zip us) → Vals vs us →
   ∀ (Q : VK) (E : XK),sp vs H Q E →
     codeAny (model P w) A (Code.call (Value.ref f) args)
       (CR CX outer P w H s Q E) s
end
section
variable {P : Program} {w : World} {K : PySem.W.Frag} {mg : Str → Option Value} {base : Heap} {CX : CXT}
theorem FnG.of {k : Nat} {f : Addr} {fd : FuncData} {ps : List Str} {sp : Sp}
   (F : FnOk P w K mg base CX k f fd ps sp) : FnG P w K mg base CX k f fd ps sp :=
 ⟨F.len,fun A _ hr outer s H e0 args us vs hb r Q E h=>F.run A outer s H args us vs Q E hr e0 hb r h⟩
/-- the body's walk gives the promise -/
theorem gfn {k : Nat} {f : Addr} {nm qual : Str} {prm : Arguments} {bd : List Stmt} {sc : Scope} {dV kV doc pm cdv ct oc : Value} {an od : Option Addr}
   {osl : Array (Option Value)} {N : List Str} {ps : List Str} {sp : Sp}
   (lk : K.lookup f = some ⟨oc,od,.func (PySem.W.fnOf nm qual prm bd sc dV kV doc pm an cdv ct),osl⟩)
   (hcd : PySem.W.codeIn K cdv qual = true) (S : FnScope N ps sc) (len : ∀ vs H Q E,sp vs H Q E → vs.length = ps.length)
   (walk : ∀ (A : Around),A.guards = some [] → ∀ (outer : List Env) (s : Shared) (H : Hp) (vs : List V) (Q : VK) (E : XK),
     Room k (A.deeper (envOfC qual sc s.heap.objs.size f cdv)) → sp vs H Q E →
     ∃ t,PSs (cxOf CX P w K mg base N qual sc f cdv A outer s H E) bd t ∧ t ⟨fun _ H'=>Q .non H',Q,fun _ _=>False,fun _ _=>False⟩ (start N vs) H) :
   FnG P w K mg base CX (k + 1) f (PySem.W.fnOf nm qual prm bd sc dV kV doc pm an cdv ct) ps sp:=by
 constructor
 · exact len
 intro A hg hr outer s H e0 args us vs hb r Q E hsp
 have keeps : ∀ b o,base.get? b = some o → s.heap.get? b = some o:=fun b o e=>(e0.bs b o e).1
 have KX : K.In s.heap:=e0.mod.kin.keeps keeps
 have lim : s.heap.NoLimit:=e0.mod.nolimit.keeps keeps
 obtain ⟨t,ht,hq⟩:=walk A hg outer s H vs Q E (hr.deeper _) hsp
 have crec:=PySem.W.codeRec_of KX hcd
 refine codeAny_call_function hr.depth (KX _ _ lk) rfl S.co S.gen rfl crec (hb _ _ _ _ ?_)
 refine wpAny_newFunctionEnv_cells S.kind ?_ ?_
 · rintro ⟨n,v⟩ hy
   have q:=S.par n (List.of_mem_zip hy).1
   cases q with
   | inl q=>exact Or.inl q
   | inr q=>exact Or.inr ⟨q,PySem.W.cellsFrom_some _ _ _ (Or.inl q)⟩
 · intro env he s1 x
   cases he
   have I:=inv_start (CX:=CX) (P:=P) (w:=w) (mg:=mg) (N:=N) (qual:=qual) (f:=f) (cd:=cdv) (E:=E) S hr.hd e0 (len _ _ _ _ hsp) r x
   refine ⟨lim.keeps x.toInCall.keep,codeAny_func (wpAny_mono (ht.run [] s1 (start N vs) H _ I hq) ?_ (fun e s' hs=>hs))⟩
   intro fl s' hs
   match fl,hs with
   | .ret u,⟨v,_,H',J,rv,q⟩=>exact ⟨v,H',J.os,J.bare,J.base,J.hok,rv,q⟩
   | .next,⟨_,H',J,q⟩=>exact ⟨V.non,H',J.os,J.bare,J.base,J.hok,rfl,q⟩
   | .brk,⟨_,_,_,q⟩=>exact q.elim
   | .cont,⟨_,_,_,q⟩=>exact q.elim
end
section
variable {X : Cx}
def rRepr (K : PySem.W.Frag) : List V → Hp → VK → Prop:=fun xs H Q=>∃ a d,xs = [.ref a] ∧ Dp K H (.ref a) d ∧ d.showable = true ∧ d.hasDict = false ∧ d.depth ≤ 60 ∧ d.shown.length ≤ sizeLine ∧ Q (.str d.shown) H
theorem call_reprD (gd : X.A.guards = some []) (hu : X.A.units + 64 < cLine) : CallR X (.builtin "repr") (rRepr X.K):=by
 intro pins s σ H args us Q I r h
 obtain ⟨a,d,rfl,hd,hs,hn,hp,hz,q⟩:=h
 cases r with
 | cons r1 r2 =>
   cases r2
   have e:=r1
   obtain rfl:=show _ = Value.ref a from e
   obtain ⟨as,rd⟩:=Dp.reads I d _ _ hd rfl
   refine repr_of_reads' rd hs (PyData.noDict_hsm hn) gd (by omega) (fun _ _ z=>z) (fun h' u tk k=>?_) hz
   exact ⟨.str d.shown,H,I.kept k,⟨u,rfl⟩,q⟩
/-- xs[i] read,i no less than 0,by values -/
def rGetN (K : PySem.W.Frag) : V → V → Hp → VK → Prop:=fun o i H Q=>∃ (p : Addr) (xs : List V) (j : Nat) (v : V),o = .ref p ∧ i = .int (j : Int) ∧ SqL K H p xs ∧ xs[j]? = some v ∧ Q v H
theorem get_list : PGet X (rGetN X.K):=by
 intro pins s σ H o i ov iv Q I ro ri h
 obtain ⟨p,xs,j,z,rfl,rfl,hq,he,q⟩:=h
 cases ro
 obtain ⟨t,rfl⟩:=ri
 obtain ⟨its,rl,pl,hz⟩:=I.list hq
 obtain ⟨v,ev,rv⟩:=rl.get he
 have hl:=rl.length
 have hj : j < xs.length:=(List.getElem?_eq_some_iff.mp he).1
 have hn:=line63
 exact wpAny_getItem_list pl.isList (by omega) (by omega) (by rw [Int.toNat_natCast]; simpa using ev) ⟨z,H,I,rv,q⟩
end
end TB
namespace TB
open PySem PySem.Spec PyProof.Rows L2
structure Sh (k n : Nat) (d : PyData) : Prop where
 sh : d.showable = true
 nd : d.hasDict = false
 dp : d.depth ≤ k
 ln : d.shown.length ≤ n
theorem Sh.mono {k k' n n' : Nat} {d : PyData} (h : Sh k n d) (a : k ≤ k') (b : n ≤ n') : Sh k' n' d :=
 ⟨h.sh,h.nd,Nat.le_trans h.dp a,Nat.le_trans h.ln b⟩
def dInts (ns : List Int) : List PyData:=ns.map PyData.int
theorem same_upd {H : Hp} {p : Addr} {o : HO} (h : H p = none) : Same H (upd H p o):=fun b x e=>by
 rw [upd_ne (ne_of_none e h)]
 exact e
theorem Same.tup {K : PySem.W.Frag} {H H' : Hp} {a : Addr} {xs : List V} (e : Same H H') (h : SqT K H a xs) : SqT K H' a xs:=by
 rcases h with (h | ⟨o,h⟩) | h
 · exact .inl (.inl (e _ _ h))
 · exact .inl (.inr ⟨o,e _ _ h⟩)
 · exact .inr h
/-- all that was tracked is as it was,but what stands at f -/
def But (f : Addr) (H H' : Hp) : Prop:=∀ b o,b ≠ f → H b = some o → H' b = some o
theorem But.refl (f : Addr) (H : Hp) : But f H H:=fun _ _ _ h=>h
theorem But.trans {f : Addr} {H H1 H2 : Hp} (a : But f H H1) (b : But f H1 H2) : But f H H2:=fun c o n h=>b c o n (a c o n h)
theorem But.same {f : Addr} {H H1 H2 : Hp} (a : But f H H1) (b : Same H1 H2) : But f H H2:=fun c o n h=>b c o (a c o n h)
theorem But.of {f : Addr} {H H' : Hp} (a : Same H H') : But f H H':=fun c o _ h=>a c o h
theorem But.upd {f : Addr} {H : Hp} {o : HO} : But f H (upd H f o):=fun b x n e=>by
 rw [upd_ne n]
 exact e
mutual
theorem Dp.same {K : PySem.W.Frag} {H H' : Hp} (e : Same H H') : ∀ (d : PyData) (v : V),Dp K H v d → Dp K H' v d
 | .none,_,.non=>.non
 | .bool _,_,.bl b=>.bl b
 | .int _,_,.int i=>.int i
 | .str _,_,.str x=>.str x
 | .list ds,_,.lst h a=>.lst (e.seq h) (DpAll.same e ds _ a)
 | .tuple ds,_,.tup h a=>.tup (TB.Same.tup e h) (DpAll.same e ds _ a)
theorem DpAll.same {K : PySem.W.Frag} {H H' : Hp} (e : Same H H') : ∀ (ds : List PyData) (vs : List V),DpAll K H vs ds → DpAll K H' vs ds
 | [],_,.nil=>.nil
 | d :: ds,_,.cons h t=>.cons (Dp.same e d _ h) (DpAll.same e ds _ t)
end
theorem DpAll.snoc {K : PySem.W.Frag} {H : Hp} {v : V} {d : PyData} (h : Dp K H v d) : ∀ {vs : List V} {ds : List PyData},DpAll K H vs ds → DpAll K H (vs ++ [v]) (ds ++ [d])
 | _,_,.nil=>.cons h .nil
 | _,_,.cons a t=>.cons a (DpAll.snoc h t)
theorem DpAll.len {K : PySem.W.Frag} {H : Hp} : ∀ {vs : List V} {ds : List PyData},DpAll K H vs ds → vs.length = ds.length
 | _,_,.nil=>rfl
 | _,_,.cons _ t=>congrArg Nat.succ (DpAll.len t)
theorem DpAll.get {K : PySem.W.Frag} {H : Hp} : ∀ {vs : List V} {ds : List PyData} {i : Nat} {v : V},DpAll K H vs ds → vs[i]? = some v → ∃ d,ds[i]? = some d ∧ Dp K H v d
 | _,_,_,_,.nil,h=>by simp at h
 | _,_,0,_,.cons a _,h=>⟨_,rfl,by simp at h; subst h; exact a⟩
 | _,_,i + 1,_,.cons _ t,h=>by
   obtain ⟨d,e,q⟩:=DpAll.get t (i:=i) (by simpa using h)
   exact ⟨d,by simpa using e,q⟩
mutual
def noL : PyData → Bool
 | .list _=>false
 | .tuple xs=>noLs xs
 | .dict _=>false
 | _=>true
def noLs : List PyData → Bool
 | []=>true
 | x :: xs=>noL x && noLs xs
end
theorem SqT.but {K : PySem.W.Frag} {H H' : Hp} {o a : Addr} {xs zs : List V} (e : But o H H') (ho : H o = some (.lst zs)) (h : SqT K H a xs) : SqT K H' a xs:=by
 rcases h with (h | ⟨u,h⟩) | h
 · exact .inl (.inl (e _ _ (ne_of h ho (fun z=>nomatch z)) h))
 · exact .inl (.inr ⟨u,e _ _ (ne_of h ho (fun z=>nomatch z)) h⟩)
 · exact .inr h
mutual
theorem Dp.but {K : PySem.W.Frag} {H H' : Hp} {o : Addr} {zs : List V} (e : But o H H') (ho : H o = some (.lst zs)) : ∀ (d : PyData) (v : V),noL d = true → Dp K H v d → Dp K H' v d
 | .none,_,_,.non=>.non
 | .bool _,_,_,.bl b=>.bl b
 | .int _,_,_,.int i=>.int i
 | .str _,_,_,.str x=>.str x
 | .list ds,_,n,_=>by simp [noL] at n
 | .tuple ds,_,n,.tup h a=>.tup (TB.SqT.but e ho h) (DpAll.but e ho ds _ (by simpa only [noL] using n) a)
theorem DpAll.but {K : PySem.W.Frag} {H H' : Hp} {o : Addr} {zs : List V} (e : But o H H') (ho : H o = some (.lst zs)) : ∀ (ds : List PyData) (vs : List V),noLs ds = true → DpAll K H vs ds → DpAll K H' vs ds
 | [],_,_,.nil=>.nil
 | d :: ds,_,n,.cons h t=>by
   simp only [noLs,Bool.and_eq_true] at n
   exact .cons (Dp.but e ho d _ n.1 h) (DpAll.but e ho ds _ n.2 t)
end
theorem noLs_snoc {ds : List PyData} {d : PyData} (h : noLs ds = true) (n : noL d = true) : noLs (ds ++ [d]) = true:=by
 induction ds with
 | nil=>simp only [List.nil_append,noLs,n,Bool.and_true]
 | cons x ds ih =>
   simp only [noLs,Bool.and_eq_true] at h
   simp only [List.cons_append,noLs,h.1,ih h.2,Bool.and_self]
structure Acc (K : PySem.W.Frag) (H : Hp) (D : Addr) (ds : List PyData) : Prop where
 ex : ∃ us,H D = some (.lst us) ∧ DpAll K H us ds
 nl : noLs ds = true
theorem Acc.start {K : PySem.W.Frag} {H : Hp} {D : Addr} : Acc K (upd H D (.lst [])) D []:=⟨⟨[],upd_same,.nil⟩,rfl⟩
theorem Acc.same {K : PySem.W.Frag} {H H' : Hp} {D : Addr} {ds : List PyData} (h : Acc K H D ds) (e : Same H H') : Acc K H' D ds:=by
 obtain ⟨us,a,b⟩:=h.ex
 exact ⟨⟨us,e _ _ a,DpAll.same e _ _ b⟩,h.nl⟩
/-- one more -/
theorem Acc.more {K : PySem.W.Frag} {H : Hp} {D : Addr} {ds : List PyData} {v : V} {d : PyData} (h : Acc K H D ds) (dv : Dp K H v d) (n : noL d = true) (hl : ds.length ≤ 900) :
   ∃ us,H D = some (.lst us) ∧ us.length < sizeLine ∧ Acc K (upd H D (.lst (us ++ [v]))) D (ds ++ [d]):=by
 obtain ⟨us,a,b⟩:=h.ex
 have bu : But D H (upd H D (.lst (us ++ [v]))):=But.upd
 exact ⟨us,a,by rw [DpAll.len b]; exact small1000 (by omega),⟨us ++ [v],upd_same,DpAll.snoc (Dp.but bu a _ _ n dv) (DpAll.but bu a _ _ h.nl b)⟩,noLs_snoc h.nl n⟩
theorem same_new {H H2 : Hp} {D : Addr} {o : HO} (nD : H D = none) (sm : Same H H2) : Same H (upd H2 D o):=fun c x e=>by
 rw [upd_ne (ne_of_none e nD)]
 exact sm c x e
/-- a turn of a comprehension that changes nothing else -/
theorem Acc.turn {K : PySem.W.Frag} {H H1 H2 : Hp} {D : Addr} {ds ds' : List PyData} {v : V} {d : PyData} (nD : H D = none) (sm : Same H H1) (ac : Acc K H1 D ds) (s2 : Same H1 H2) (dv : Dp K H2 v d) (n : noL d = true) (hl : ds.length ≤ 900) (he : ds' = ds ++ [d]) :
   ∃ acc,H2 D = some (.lst acc) ∧ acc.length < sizeLine ∧ (Same H (upd H2 D (.lst (acc ++ [v]))) ∧ Acc K (upd H2 D (.lst (acc ++ [v]))) D ds'):=by
 obtain ⟨us,a,b,c⟩:=(ac.same s2).more dv n hl
 exact ⟨us,a,b,same_new nD (sm.trans s2),he ▸ c⟩
/-- the tuple of all that was filled in -/
theorem Acc.tuple {K : PySem.W.Frag} {H : Hp} {D t : Addr} {us : List V} {ds : List PyData} (dv : DpAll K H us ds) (nt : H t = none) : Dp K (upd H t (.tup us)) (.ref t) (.tuple ds) :=
 .tup (.inl (.inl upd_same)) (DpAll.same (same_upd nt) _ _ dv)
@[irreducible] def txt (d : PyData) : Str:=d.shown
theorem txt_eq (d : PyData) : txt d = d.shown:=by
 unfold txt
 rfl
end TB
namespace VL
open PySem PySem.Spec PyProof.Rows L2 TB
/-- what the module's names hold,and the world -/
structure MG where
 f : Str → Option Value
 w : World
abbrev _root_.L2.Cx.mgw (X : L2.Cx) : MG:=⟨X.mg,X.w⟩
/-- a constant: a value,or what a name of the module holds -/
inductive Cv where
 | v (v : V) | gl (x : Str)
/-- a value: data,or one of the things that may change (by its number),or a constant of the text -/
inductive D where
 | non | bl (b : Bool) | int (i : Int) | str (x : Str)
 | tup (ds : List D) | lst (ds : List D) | ctp (ds : List D) | fzl (ds : List D)
 | ref (i : Nat) | cv (c : Cv)
/-- a thing that may change -/
inductive C where
 | lst (ds : List D)
 | dct (kvs : List (Key × D))
 | dtt (kvs : List (List Key × D))
 | dtf (kvs : List (List Key × D))
 | lck (kvs : List (Key × D))
 | lct (kvs : List (List Key × D))
 | lcf (kvs : List (List Key × D))
 | obj (c : Str) (fs : List (Str × D))
abbrev AS:=List C
abbrev En:=List (Option D)
inductive Out (α : Type) where
 | ok (a : α) (s : AS)
 | exc (c : Str) (fs : List (Str × D)) (s : AS)
 | bad
def Out.bind {α β : Type} (o : Out α) (k : α → AS → Out β) : Out β:=match o with
 | .ok a s=>k a s
 | .exc c fs s=>.exc c fs s
 | .bad=>.bad
@[simp] theorem Out.bind_ok {α β : Type} (a : α) (s : AS) (k : α → AS → Out β) : (Out.ok a s).bind k = k a s:=rfl
@[simp] theorem Out.bind_exc {α β : Type} (c : Str) (fs : List (Str × D)) (s : AS) (k : α → AS → Out β) : (Out.exc c fs s : Out α).bind k = .exc c fs s:=rfl
@[simp] theorem Out.bind_bad {α β : Type} (k : α → AS → Out β) : (Out.bad : Out α).bind k = .bad:=rfl
/-- where the numbered things stand; and what is hidden: nothing that is told leans on it -/
structure Bt where
 l : List Addr
 h : List Addr
def Bt.push (β : Bt) (p : Addr) : Bt:=⟨β.l ++ [p],β.h⟩
def Bt.hide (β : Bt) (p : Addr) : Bt:=⟨β.l,p :: β.h⟩
def Bt.out (β : Bt) (a : Addr) : Prop:=a ∉ β.l ∧ a ∉ β.h
def WrL (K : PySem.W.Frag) (a : Addr) (xs : List V) : Prop :=
 ∃ (o : Obj) (its : Array Value) (n : Nat),K.lookup a = some o ∧ o.cls = .type "list" ∧ o.dict = none ∧ o.data = .seq its n ∧ its.size ≤ sizeLine ∧ Vals xs its.toList
/-- a tuple whose object is known,without a dict of its own: written in the text,or made so -/
def CtT (K : PySem.W.Frag) (H : Hp) (β : Bt) (a : Addr) (us : List V) : Prop :=
 (∃ (o : Obj) (its : Array Value) (n : Nat),K.lookup a = some o ∧ o.cls = .type "tuple" ∧ o.dict = none ∧ o.data = .seq its n ∧ its.size ≤ sizeLine ∧ Vals us its.toList) ∨ (β.out a ∧ ∃ o,H a = some (.frz o (.tup us)) ∧ o.dict = none)
theorem CtT.sq {K : PySem.W.Frag} {H : Hp} {β : Bt} {a : Addr} {us : List V} (h : CtT K H β a us) : SqT K H a us:=by
 rcases h with ⟨o,its,n,h1,h2,_,h3,h4,h5⟩ | ⟨_,o,h,_⟩
 · exact .inr ⟨o,its,n,h1,h2,h3,h4,h5⟩
 · exact .inl (.inr ⟨o,h⟩)
theorem CtT.imp {K : PySem.W.Frag} {H H' : Hp} {β β' : Bt} {a : Addr} {us : List V} (h : CtT K H β a us) (f : ∀ o,H a = some (.frz o (.tup us)) → β.out a → H' a = some (.frz o (.tup us)) ∧ β'.out a) : CtT K H' β' a us:=by
 rcases h with h | ⟨h1,o,h2,h3⟩
 · exact .inl h
 · obtain ⟨q1,q2⟩:=f o h2 h1
   exact .inr ⟨q2,o,q1,h3⟩
def RepC (K : PySem.W.Frag) : Cv → V → Prop
 | .v v,u=>u = v
 | .gl x,u=>∃ a,u = .ref a ∧ PySem.W.nsIn K mainGlobals x = some (some (.ref a))
mutual
inductive Rep (K : PySem.W.Frag) (H : Hp) (β : Bt) : D → V → Prop
 | non : Rep K H β .non .non
 | bl (b : Bool) : Rep K H β (.bl b) (.bl b)
 | int (i : Int) : Rep K H β (.int i) (.int i)
 | str (x : Str) : Rep K H β (.str x) (.str x)
 | cv {c : Cv} {v : V} : RepC K c v → Rep K H β (.cv c) v
 | ref {i : Nat} {a : Addr} : β.l[i]? = some a → Rep K H β (.ref i) (.ref a)
 | tup {a : Addr} {ds : List D} {us : List V} : β.out a → H a = some (.tup us) → Reps K H β ds us → Rep K H β (.tup ds) (.ref a)
 | ctp {a : Addr} {ds : List D} {us : List V} : CtT K H β a us → Reps K H β ds us → Rep K H β (.ctp ds) (.ref a)
 | lst {a : Addr} {ds : List D} {us : List V} : β.out a → H a = some (.lst us) → Reps K H β ds us → Rep K H β (.lst ds) (.ref a)
 | fzl {a : Addr} {ds : List D} {us : List V} : ((β.out a ∧ Rd H a (.lst us)) ∨ WrL K a us) → Reps K H β ds us → Rep K H β (.fzl ds) (.ref a)
inductive Reps (K : PySem.W.Frag) (H : Hp) (β : Bt) : List D → List V → Prop
 | nil : Reps K H β [] []
 | cons {d : D} {u : V} {ds : List D} {us : List V} : Rep K H β d u → Reps K H β ds us → Reps K H β (d :: ds) (u :: us)
end
/-- what comes behind: the numbered things keep their numbers,all else is as it was -/
structure Ext (β : Bt) (H : Hp) (β' : Bt) (H' : Hp) : Prop where
 pre : ∃ g,β'.l = β.l ++ g
 hid : β'.h = β.h
 kept0 : ∀ a o,H a = some o → a ∉ β.l → (∀ ps,o ≠ .tbl ps) → H' a = some o ∧ a ∉ β'.l
 frz : ∀ a z u,H a = some (.frz z u) → H' a = some (.frz z u)
theorem Ext.kept {β β' : Bt} {H H' : Hp} (x : Ext β H β' H') (a : Addr) (o : HO) (h : H a = some o) (n : β.out a) (t : ∀ ps,o ≠ .tbl ps:=by intro _ z; cases z) : H' a = some o ∧ β'.out a:=by
 obtain ⟨h1,h2⟩:=x.kept0 a o h n.1 t
 exact ⟨h1,h2,by rw [x.hid]; exact n.2⟩
theorem Ext.refl (β : Bt) (H : Hp) : Ext β H β H:=⟨⟨[],by simp⟩,rfl,fun _ _ h n _=>⟨h,n⟩,fun _ _ _ h=>h⟩
theorem Ext.trans {β β1 β2 : Bt} {H H1 H2 : Hp} (a : Ext β H β1 H1) (b : Ext β1 H1 β2 H2) : Ext β H β2 H2:=by
 obtain ⟨g,e⟩:=a.pre
 obtain ⟨g',e'⟩:=b.pre
 refine ⟨⟨g ++ g',by rw [e',e,List.append_assoc]⟩,b.hid.trans a.hid,fun x o h n t=>?_,fun x z u h=>b.frz x z u (a.frz x z u h)⟩
 obtain ⟨h1,n1⟩:=a.kept0 x o h n t
 exact b.kept0 x o h1 n1 t
theorem Ext.same {β : Bt} {H H' : Hp} (h : Same H H') : Ext β H β H':=⟨⟨[],by simp⟩,rfl,fun a o e n _=>⟨h a o e,n⟩,fun a z u e=>h a _ e⟩
theorem Ext.at {β β' : Bt} {H H' : Hp} (x : Ext β H β' H') {i : Nat} {a : Addr} (h : β.l[i]? = some a) : β'.l[i]? = some a:=by
 obtain ⟨g,e⟩:=x.pre
 have hl:=(List.getElem?_eq_some_iff.mp h).1
 rw [e,List.getElem?_append_left hl]
 exact h
theorem Ext.rd {β β' : Bt} {H H' : Hp} (x : Ext β H β' H') {a : Addr} {o : HO} (n : β.out a) (h : Rd H a o) (t : ∀ ps,o ≠ .tbl ps:=by intro _ z; cases z) : β'.out a ∧ Rd H' a o:=by
 rcases h with h | ⟨u,h⟩
 · obtain ⟨h1,n1⟩:=x.kept a _ h n t
   exact ⟨n1,.inl h1⟩
 · obtain ⟨h1,n1⟩:=x.kept a _ h n
   exact ⟨n1,.inr ⟨u,h1⟩⟩
/-- .. as far as what is told leans on it -/
structure ExtW (β : Bt) (H : Hp) (β' : Bt) (H' : Hp) : Prop where
 pre : ∃ g,β'.l = β.l ++ g
 kept0 : ∀ a o,H a = some o → β.out a → (∀ ps,o ≠ .tbl ps) → H' a = some o ∧ β'.out a
theorem ExtW.kept {β β' : Bt} {H H' : Hp} (x : ExtW β H β' H') (a : Addr) (o : HO) (h : H a = some o) (n : β.out a) (t : ∀ ps,o ≠ .tbl ps:=by intro _ z; cases z) : H' a = some o ∧ β'.out a:=x.kept0 a o h n t
theorem Ext.weak {β β' : Bt} {H H' : Hp} (x : Ext β H β' H') : ExtW β H β' H':=⟨x.pre,fun a o h n t=>x.kept a o h n t⟩
theorem ExtW.refl (β : Bt) (H : Hp) : ExtW β H β H:=(Ext.refl β H).weak
/-- .. and what is locked stays -/
structure ExtF (β : Bt) (H : Hp) (β' : Bt) (H' : Hp) : Prop extends ExtW β H β' H' where
 frz : ∀ a z u,H a = some (.frz z u) → H' a = some (.frz z u)
theorem Ext.weakF {β β' : Bt} {H H' : Hp} (x : Ext β H β' H') : ExtF β H β' H':=⟨x.weak,x.frz⟩
theorem ExtF.refl (β : Bt) (H : Hp) : ExtF β H β H:=(Ext.refl β H).weakF
theorem ExtW.trans {β β1 β2 : Bt} {H H1 H2 : Hp} (a : ExtW β H β1 H1) (b : ExtW β1 H1 β2 H2) : ExtW β H β2 H2:=by
 obtain ⟨g,e⟩:=a.pre
 obtain ⟨g',e'⟩:=b.pre
 refine ⟨⟨g ++ g',by rw [e',e,List.append_assoc]⟩,fun x o h n t=>?_⟩
 obtain ⟨h1,n1⟩:=a.kept x o h n t
 exact b.kept x o h1 n1 t
theorem ExtW.at {β β' : Bt} {H H' : Hp} (x : ExtW β H β' H') {i : Nat} {a : Addr} (h : β.l[i]? = some a) : β'.l[i]? = some a:=by
 obtain ⟨g,e⟩:=x.pre
 have hl:=(List.getElem?_eq_some_iff.mp h).1
 rw [e,List.getElem?_append_left hl]
 exact h
theorem ExtW.rd {β β' : Bt} {H H' : Hp} (x : ExtW β H β' H') {a : Addr} {o : HO} (n : β.out a) (h : Rd H a o) (t : ∀ ps,o ≠ .tbl ps:=by intro _ z; cases z) : β'.out a ∧ Rd H' a o:=by
 rcases h with h | ⟨u,h⟩
 · obtain ⟨h1,n1⟩:=x.kept a _ h n t
   exact ⟨n1,.inl h1⟩
 · obtain ⟨h1,n1⟩:=x.kept a _ h n
   exact ⟨n1,.inr ⟨u,h1⟩⟩
mutual
theorem Rep.extW {K : PySem.W.Frag} {β β' : Bt} {H H' : Hp} (x : ExtW β H β' H') : ∀ {d : D} {u : V},Rep K H β d u → Rep K H' β' d u
 | _,_,.non=>.non
 | _,_,.bl b=>.bl b
 | _,_,.int i=>.int i
 | _,_,.str s=>.str s
 | _,_,.cv v=>.cv v
 | _,_,.ref h=>.ref (x.at h)
 | _,_,.tup n h r=>.tup (x.kept _ _ h n).2 (x.kept _ _ h n).1 (Reps.extW x r)
 | _,_,.ctp h r=>.ctp (h.imp fun o e n=>x.kept _ _ e n) (Reps.extW x r)
 | _,_,.lst n h r=>.lst (x.kept _ _ h n).2 (x.kept _ _ h n).1 (Reps.extW x r)
 | _,_,.fzl h r=>.fzl (h.imp (fun z=>x.rd z.1 z.2) id) (Reps.extW x r)
theorem Reps.extW {K : PySem.W.Frag} {β β' : Bt} {H H' : Hp} (x : ExtW β H β' H') : ∀ {ds : List D} {us : List V},Reps K H β ds us → Reps K H' β' ds us
 | _,_,.nil=>.nil
 | _,_,.cons r t=>.cons (Rep.extW x r) (Reps.extW x t)
end
mutual
theorem Rep.ext {K : PySem.W.Frag} {β β' : Bt} {H H' : Hp} (x : Ext β H β' H') : ∀ {d : D} {u : V},Rep K H β d u → Rep K H' β' d u
 | _,_,.non=>.non
 | _,_,.bl b=>.bl b
 | _,_,.int i=>.int i
 | _,_,.str s=>.str s
 | _,_,.cv v=>.cv v
 | _,_,.ref h=>.ref (x.at h)
 | _,_,.tup n h r=>.tup (x.kept _ _ h n).2 (x.kept _ _ h n).1 (Reps.ext x r)
 | _,_,.ctp h r=>.ctp (h.imp fun o e n=>x.kept _ _ e n) (Reps.ext x r)
 | _,_,.lst n h r=>.lst (x.kept _ _ h n).2 (x.kept _ _ h n).1 (Reps.ext x r)
 | _,_,.fzl h r=>.fzl (h.imp (fun z=>x.rd z.1 z.2) id) (Reps.ext x r)
theorem Reps.ext {K : PySem.W.Frag} {β β' : Bt} {H H' : Hp} (x : Ext β H β' H') : ∀ {ds : List D} {us : List V},Reps K H β ds us → Reps K H' β' ds us
 | _,_,.nil=>.nil
 | _,_,.cons r t=>.cons (Rep.ext x r) (Reps.ext x t)
end
theorem Reps.length {K : PySem.W.Frag} {H : Hp} {β : Bt} : ∀ {ds : List D} {us : List V},Reps K H β ds us → us.length = ds.length
 | _,_,.nil=>rfl
 | _,_,.cons _ t=>congrArg Nat.succ (Reps.length t)
theorem Reps.append {K : PySem.W.Frag} {H : Hp} {β : Bt} : ∀ {ds es : List D} {us ws : List V},Reps K H β ds us → Reps K H β es ws → Reps K H β (ds ++ es) (us ++ ws)
 | _,_,_,_,.nil,s=>s
 | _,_,_,_,.cons r t,s=>.cons r (Reps.append t s)
theorem Reps.get {K : PySem.W.Frag} {H : Hp} {β : Bt} : ∀ {ds : List D} {us : List V} {i : Nat} {d : D},Reps K H β ds us → ds[i]? = some d → ∃ u,us[i]? = some u ∧ Rep K H β d u
 | _,_,_,_,.nil,e=>by simp at e
 | _,_,0,_,.cons r _,e=>by simp at e; subst e; exact ⟨_,rfl,r⟩
 | _,_,i + 1,d,.cons _ t,e=>by
   obtain ⟨u,h1,h2⟩:=Reps.get (i:=i) (d:=d) t (by simpa using e)
   exact ⟨u,by simpa using h1,h2⟩
theorem Reps.get' {K : PySem.W.Frag} {H : Hp} {β : Bt} : ∀ {ds : List D} {us : List V} {i : Nat} {u : V},Reps K H β ds us → us[i]? = some u → ∃ d,ds[i]? = some d ∧ Rep K H β d u
 | _,_,_,_,.nil,e=>by simp at e
 | _,_,0,_,.cons r _,e=>by simp at e; subst e; exact ⟨_,rfl,r⟩
 | _,_,i + 1,d,.cons _ t,e=>by
   obtain ⟨u,h1,h2⟩:=Reps.get' (i:=i) (u:=d) t (by simpa using e)
   exact ⟨u,by simpa using h1,h2⟩
theorem Reps.set {K : PySem.W.Frag} {H : Hp} {β : Bt} {d : D} {u : V} (r : Rep K H β d u) : ∀ {ds : List D} {us : List V} (i : Nat),Reps K H β ds us → Reps K H β (ds.set i d) (us.set i u)
 | _,_,_,.nil=>.nil
 | _,_,0,.cons _ t=>.cons r t
 | _,_,i + 1,.cons q t=>.cons q (Reps.set r i t)
theorem Reps.take {K : PySem.W.Frag} {H : Hp} {β : Bt} : ∀ {ds : List D} {us : List V} (n : Nat),Reps K H β ds us → Reps K H β (ds.take n) (us.take n)
 | _,_,0,_=>.nil
 | _,_,_ + 1,.nil=>.nil
 | _,_,n + 1,.cons r t=>.cons r (Reps.take n t)
theorem Reps.drop {K : PySem.W.Frag} {H : Hp} {β : Bt} : ∀ {ds : List D} {us : List V} (n : Nat),Reps K H β ds us → Reps K H β (ds.drop n) (us.drop n)
 | _,_,0,r=>r
 | _,_,_ + 1,.nil=>.nil
 | _,_,n + 1,.cons _ t=>Reps.drop n t
/-- fields by name -/
def RepF (K : PySem.W.Frag) (H : Hp) (β : Bt) (fs : List (Str × D)) (vs : List (Str × V)) : Prop :=
 fs.map (·.1) = vs.map (·.1) ∧ Reps K H β (fs.map (·.2)) (vs.map (·.2))
theorem RepF.ext {K : PySem.W.Frag} {β β' : Bt} {H H' : Hp} (x : Ext β H β' H') {fs : List (Str × D)} {vs : List (Str × V)} (h : RepF K H β fs vs) : RepF K H' β' fs vs:=⟨h.1,h.2.ext x⟩
def RepK {κ : Type} (K : PySem.W.Frag) (H : Hp) (β : Bt) (fs : List (κ × D)) (vs : List (κ × V)) : Prop :=
 fs.map (·.1) = vs.map (·.1) ∧ Reps K H β (fs.map (·.2)) (vs.map (·.2))
theorem RepK.ext {κ : Type} {K : PySem.W.Frag} {β β' : Bt} {H H' : Hp} (x : Ext β H β' H') {fs : List (κ × D)} {vs : List (κ × V)} (h : RepK K H β fs vs) : RepK K H' β' fs vs:=⟨h.1,h.2.ext x⟩
/-- a dict whose keys are known tuples: an object of its own kind -/
def hashT (w : World) (ks : List Key) : Int:=reduceHash (Builtin.Tuple.tupleHashOf (ks.map (keyH w)))
def dF (w : World) (a : Addr) (us : List (List Key × V)) (bs : List Addr) : HO:=.ext fun h=>us.length ≤ sizeLine ∧ (a == sysModules) = false ∧ ∃ xs : List (List Key × Addr × Value),
 Paired (fun (p : List Key × V) (q : List Key × Addr × Value)=>p.1 = q.1 ∧ RelV p.2 q.2.2) us xs ∧ xs.map (·.2.1) = bs ∧ (xs.map (·.1)).Nodup ∧
 ∃ o es ep,h.get? a = some o ∧ o.ExactDict ∧ o.data = .dict es ep ∧ es.toList = xs.map fun x=>⟨hashT w x.1,.ref x.2.1,x.2.2⟩
def kD : Key → D
 | .inl i=>.int i
 | .inr x=>.str x
/-- the thing numbered stands at a -/
def CellOk (K : PySem.W.Frag) (mg : MG) (H : Hp) (β : Bt) (a : Addr) : C → Prop
 | .lst ds=>∃ us,H a = some (.lst us) ∧ Reps K H β ds us
 | .dct kvs=>∃ us,H a = some (.dK us) ∧ RepK K H β kvs us
 | .dtt kvs=>∃ us,H a = some (.dT us) ∧ RepK K H β kvs us
 | .dtf kvs=>∃ us bs,H a = some (dF mg.w a us bs) ∧ RepK K H β kvs us ∧ Reps K H β (kvs.map fun p=>.ctp (p.1.map kD)) (bs.map V.ref)
 | .lck kvs=>∃ z us,H a = some (.frz z (.dK us)) ∧ RepK K H β kvs us
 | .lct kvs=>∃ z us,H a = some (.frz z (.dT us)) ∧ RepK K H β kvs us
 | .lcf kvs=>∃ z us bs,H a = some (.frz z (dF mg.w a us bs)) ∧ RepK K H β kvs us ∧ Reps K H β (kvs.map fun p=>.ctp (p.1.map kD)) (bs.map V.ref)
 | .obj c fs=>∃ (Ca dx : Addr) (vs : List (Str × V)),mg.f c = some (.ref Ca) ∧ H a = some (.ins Ca dx vs) ∧ RepF K H β fs vs
/-- a lambda stands within -/
def lamE : Nat → Expr → Bool
 | 0,_=>false
 | n + 1,e=>match e with
   | .Lambda _ _ _ _=>true
   | .BoolOp _ vs _=>vs.any (lamE n)
   | .BinOp l _ r _=>lamE n l || lamE n r
   | .UnaryOp _ x _=>lamE n x
   | .IfExp a b c _=>lamE n a || lamE n b || lamE n c
   | .ListComp elt gens _ _=>lamE n elt || gens.any fun g=>lamE n g.iter || g.ifs.any (lamE n)
   | .Compare l _ cs _=>lamE n l || cs.any (lamE n)
   | .Call f args kws _=>lamE n f || args.any (lamE n) || kws.any fun k=>lamE n k.value
   | .Subscript v s _=>lamE n v || lamE n s
   | .Attribute v _ _=>lamE n v
   | .List es _=>es.any (lamE n)
   | .Tuple es _ _=>es.any (lamE n)
   | _=>false
def lamS : Nat → Stmt → Bool
 | 0,_=>false
 | n + 1,s=>match s with
   | .Return (some e) _=>lamE n e
   | .Assign _ e _=>lamE n e
   | .AugAssign _ _ e _=>lamE n e
   | .For _ i b c _=>lamE n i || b.any (lamS n) || c.any (lamS n)
   | .While i b c _=>lamE n i || b.any (lamS n) || c.any (lamS n)
   | .If i b c _=>lamE n i || b.any (lamS n) || c.any (lamS n)
   | .Try b _ c d _=>b.any (lamS n) || c.any (lamS n) || d.any (lamS n)
   | .Expr e _=>lamE n e
   | _=>false
/-- the maker of an inner def: the place of its table,the name of what it makes -/
def mkrO (K : PySem.W.Frag) (o : Obj) : Option (Addr × Str):=match o.data with
 | .func fd=>if (match fd.body with | .stmts ss=>ss.any (lamS 40) | _=>false) = true then (match fd.code with
   | .ref c=>(match K.lookup c with
     | some ⟨_,_,.fields vs,_⟩=>(match (vs[11]? : Option Value) with
       | some (.ref P)=>some (P,fd.qualname ++ ".<locals>." ++ "<lambda>")
       | _=>none)
     | _=>none)
   | _=>none) else none
 | _=>none
/-- the tables of code objects that may grow -/
def tabL (K : PySem.W.Frag) : List (Addr × Str):=K.filterMap fun p=>mkrO K p.2
/-- a table that may grow: each code object that it tells bears the name q -/
def Tb (β : Bt) (H : Hp) (P : Addr) (q : Str) : Prop:=β.out P ∧ ∃ ps : Array Value,H P = some (.tbl ps) ∧ TriplesOk ps.toList ∧ ∀ (pos : Pos) (cv : Value),codeAmong pos ps.toList = some cv → ∃ c,cv = .ref c ∧ H c = some (LamX.CodeO c q) ∧ β.out c
theorem Tb.imp {β β' : Bt} {H H' : Hp} {P : Addr} {q : Str} (h : Tb β H P q) (f : ∀ a o,H a = some o → β.out a → H' a = some o ∧ β'.out a) : Tb β' H' P q:=by
 obtain ⟨n,ps,e,t,k⟩:=h
 obtain ⟨e2,n2⟩:=f _ _ e n
 refine ⟨n2,ps,e2,t,fun pos cv hc=>?_⟩
 obtain ⟨c,rfl,e3,n3⟩:=k pos cv hc
 obtain ⟨e4,n4⟩:=f _ _ e3 n3
 exact ⟨c,rfl,e4,n4⟩
structure Sim (K : PySem.W.Frag) (mg : MG) (β : Bt) (st : AS) (H : Hp) : Prop where
 len : β.l.length = st.length
 nd : β.l.Nodup
 hid : ∀ a ∈ β.h,a ∉ β.l ∧ ∃ o,H a = some o ∧ (∀ us,o ≠ .tup us) ∧ (∀ ps,o ≠ .tbl ps) ∧ ∀ c q,o ≠ LamX.CodeO c q
 cell : ∀ (i : Nat) (a : Addr) (c : C),β.l[i]? = some a → st[i]? = some c → CellOk K mg H β a c
 tab : ∀ p ∈ tabL K,Tb β H p.1 p.2
theorem CellOk.there {K : PySem.W.Frag} {mg : MG} {H : Hp} {β : Bt} {a : Addr} {c : C} (h : CellOk K mg H β a c) : ∃ o,H a = some o ∧ (∀ us,o ≠ .tup us) ∧ ∀ z,o ≠ .own z:=by
 cases c with
 | lst ds=>obtain ⟨us,e,_⟩:=h; exact ⟨_,e,fun _ z=>(nomatch z),fun _ z=>(nomatch z)⟩
 | dct kvs=>obtain ⟨us,e,_⟩:=h; exact ⟨_,e,fun _ z=>(nomatch z),fun _ z=>(nomatch z)⟩
 | dtt kvs=>obtain ⟨us,e,_⟩:=h; exact ⟨_,e,fun _ z=>(nomatch z),fun _ z=>(nomatch z)⟩
 | dtf kvs=>obtain ⟨us,bs,e,_⟩:=h; exact ⟨_,e,fun _ z=>(by unfold dF at z; cases z),fun _ z=>(by unfold dF at z; cases z)⟩
 | lck kvs=>obtain ⟨_,us,e,_⟩:=h; exact ⟨_,e,fun _ z=>(nomatch z),fun _ z=>(nomatch z)⟩
 | lct kvs=>obtain ⟨_,us,e,_⟩:=h; exact ⟨_,e,fun _ z=>(nomatch z),fun _ z=>(nomatch z)⟩
 | lcf kvs=>obtain ⟨_,us,bs,e,_⟩:=h; exact ⟨_,e,fun _ z=>(nomatch z),fun _ z=>(nomatch z)⟩
 | obj c fs=>obtain ⟨_,_,us,_,e,_⟩:=h; exact ⟨_,e,fun _ z=>(nomatch z),fun _ z=>(nomatch z)⟩
/-- a dict is no code object -/
theorem dF_code {w : World} {a c : Addr} {us : List (List Key × V)} {bs : List Addr} {q : Str} : dF w a us bs ≠ LamX.CodeO c q:=fun z=>by
 unfold dF LamX.CodeO at z
 injection z with z
 obtain ⟨ob,hob⟩ : ∃ ob : Obj,ob = { cls:=.none,data:=.fields #[.none,.str q default] }:=⟨_,rfl⟩
 obtain ⟨h,hh⟩ : ∃ h : Heap,h = { objs:=Array.replicate (c + 1) ob }:=⟨_,rfl⟩
 have g : ∀ b o,h.get? b = some o → o = ob:=fun b o e=>by
   subst hh
   unfold Heap.get? at e
   by_cases hb : b < c + 1
   · have e2 : (Array.replicate (c + 1) ob)[b]? = some ob:=by simp [hb]
     dsimp only at e
     rw [e2] at e
     subst hob
     exact (Option.some.inj e).symm
   · have e2 : (Array.replicate (c + 1) ob)[b]? = none:=Array.getElem?_eq_none (by rw [Array.size_replicate]; exact Nat.le_of_not_lt hb)
     dsimp only at e
     rw [e2] at e
     cases e
 have gc : h.get? c = some ob:=by
   subst hh
   unfold Heap.get?
   have e2 : (Array.replicate (c + 1) ob)[c]? = some ob:=by simp
   dsimp only
   rw [e2]
   subst hob
   rfl
 have p:=congrFun z h
 have p2:=p.mpr ⟨ob,_,default,gc,by rw [hob],rfl⟩
 obtain ⟨_,_,xs,_,_,_,o,es,ep,h6,_,h8,_⟩:=p2
 have:=g _ _ h6
 subst this
 rw [hob] at h8
 cases h8
theorem CellOk.nc {K : PySem.W.Frag} {mg : MG} {H : Hp} {β : Bt} {a : Addr} {c : C} (h : CellOk K mg H β a c) : ∃ o,H a = some o ∧ (∀ ps,o ≠ .tbl ps) ∧ ∀ c q,o ≠ LamX.CodeO c q:=by
 have nc : ∀ {o : HO},(∀ p,o ≠ .ext p) → ∀ c q,o ≠ LamX.CodeO c q:=fun {o} n c q z=>by
   unfold LamX.CodeO at z
   exact n _ z
 cases c with
 | lst ds=>obtain ⟨us,e,_⟩:=h; exact ⟨_,e,fun _ z=>(nomatch z),nc fun _ z=>(nomatch z)⟩
 | dct kvs=>obtain ⟨us,e,_⟩:=h; exact ⟨_,e,fun _ z=>(nomatch z),nc fun _ z=>(nomatch z)⟩
 | dtt kvs=>obtain ⟨us,e,_⟩:=h; exact ⟨_,e,fun _ z=>(nomatch z),nc fun _ z=>(nomatch z)⟩
 | dtf kvs=>obtain ⟨us,bs,e,_⟩:=h; exact ⟨_,e,fun _ z=>(by unfold dF at z; cases z),fun _ _=>dF_code⟩
 | lck kvs=>obtain ⟨_,us,e,_⟩:=h; exact ⟨_,e,fun _ z=>(nomatch z),nc fun _ z=>(nomatch z)⟩
 | lct kvs=>obtain ⟨_,us,e,_⟩:=h; exact ⟨_,e,fun _ z=>(nomatch z),nc fun _ z=>(nomatch z)⟩
 | lcf kvs=>obtain ⟨_,us,bs,e,_⟩:=h; exact ⟨_,e,fun _ z=>(nomatch z),nc fun _ z=>(nomatch z)⟩
 | obj c fs=>obtain ⟨_,_,us,_,e,_⟩:=h; exact ⟨_,e,fun _ z=>(nomatch z),nc fun _ z=>(nomatch z)⟩
theorem CellOk.ext {K : PySem.W.Frag} {mg : MG} {H H' : Hp} {β β' : Bt} {a : Addr} {c : C} (x : Ext β H β' H') (e : H' a = H a) (h : CellOk K mg H β a c) : CellOk K mg H' β' a c:=by
 cases c with
 | lst ds=>obtain ⟨us,q,r⟩:=h; exact ⟨us,e.trans q,r.ext x⟩
 | dct kvs=>obtain ⟨us,q,r⟩:=h; exact ⟨us,e.trans q,r.ext x⟩
 | dtt kvs=>obtain ⟨us,q,r⟩:=h; exact ⟨us,e.trans q,r.ext x⟩
 | dtf kvs=>obtain ⟨us,bs,q,r,t⟩:=h; exact ⟨us,bs,e.trans q,r.ext x,t.ext x⟩
 | lck kvs=>obtain ⟨z,us,q,r⟩:=h; exact ⟨z,us,e.trans q,r.ext x⟩
 | lct kvs=>obtain ⟨z,us,q,r⟩:=h; exact ⟨z,us,e.trans q,r.ext x⟩
 | lcf kvs=>obtain ⟨z,us,bs,q,r,t⟩:=h; exact ⟨z,us,bs,e.trans q,r.ext x,t.ext x⟩
 | obj c fs=>obtain ⟨Ca,dx,us,m,q,r⟩:=h; exact ⟨Ca,dx,us,m,e.trans q,r.ext x⟩
section
variable {K : PySem.W.Frag} {mg : MG} {H H' : Hp} {β β' : Bt} {st : AS}
theorem Sim.at (S : Sim K mg β st H) {i : Nat} {c : C} (h : st[i]? = some c) : ∃ a,β.l[i]? = some a ∧ CellOk K mg H β a c:=by
 have hl:=(List.getElem?_eq_some_iff.mp h).1
 have hb : i < β.l.length:=by rw [S.len]; exact hl
 exact ⟨β.l[i],by simp [hb],S.cell i _ c (by simp [hb]) h⟩
theorem Sim.here (S : Sim K mg β st H) {a : Addr} (h : a ∈ β.l) : ∃ o,H a = some o:=by
 obtain ⟨i,hi,e⟩:=List.getElem_of_mem h
 have hs : i < st.length:=by rw [← S.len]; exact hi
 obtain ⟨o,e2,_⟩:=(S.cell i a st[i] (by simp [hi,e]) (by simp [hs])).there
 exact ⟨o,e2⟩
theorem Sim.fresh (S : Sim K mg β st H) {p : Addr} (h : H p = none) : β.out p:=by
 refine ⟨fun z=>?_,fun z=>?_⟩
 · obtain ⟨o,e⟩:=S.here z
   rw [h] at e
   cases e
 · obtain ⟨_,o,e,_⟩:=S.hid p z
   rw [h] at e
   cases e
/-- nothing that was tracked has changed -/
theorem Sim.same (S : Sim K mg β st H) (x : Same H H') : Sim K mg β st H':=by
 refine ⟨S.len,S.nd,fun a ha=>?_,fun i a c h1 h2=>?_,fun p hp=>(S.tab p hp).imp fun a o e n=>⟨x _ _ e,n⟩⟩
 · obtain ⟨n,o,e,t⟩:=S.hid a ha
   exact ⟨n,o,x _ _ e,t⟩
 · have q:=S.cell i a c h1 h2
   obtain ⟨o,e,_⟩:=q.there
   exact q.ext (Ext.same x) ((x _ _ e).trans e.symm)
theorem ext_push {p : Addr} {o : HO} (hp : H p = none) : Ext β H (β.push p) (upd H p o) :=
 ⟨⟨[p],rfl⟩,rfl,fun a u e n _=>⟨by rw [upd_ne (ne_of_none e hp)]; exact e,fun z=>by
   rcases List.mem_append.mp z with z | z
   · exact n z
   · rw [List.mem_singleton.mp z,hp] at e
     cases e⟩,fun a z u e=>by rw [upd_ne (ne_of_none e hp)]; exact e⟩
theorem ext_put {p : Addr} {o o1 : HO} (hm : p ∈ β.l) (e1 : H p = some o1) (hf : ∀ z u,o1 ≠ .frz z u:=by intro _ _ z; cases z) : Ext β H β (upd H p o):=⟨⟨[],by simp⟩,rfl,fun b u e n _=>by
 have ne : b ≠ p:=by
   rintro rfl
   exact n hm
 exact ⟨(upd_ne ne).trans e,n⟩,fun b z u e=>by
 have ne : b ≠ p:=by
   rintro rfl
   rw [e1] at e
   exact hf z u (Option.some.inj e)
 exact (upd_ne ne).trans e⟩
/-- one more thing that may change -/
theorem Sim.push (S : Sim K mg β st H) {p : Addr} {o : HO} {c : C} (hp : H p = none) (hc : CellOk K mg (upd H p o) (β.push p) p c) : Sim K mg (β.push p) (st ++ [c]) (upd H p o):=by
 have hp0:=hp
 have nb:=S.fresh hp
 have x : Ext β H (β.push p) (upd H p o):=ext_push hp
 refine ⟨by simp [Bt.push,S.len],?_,fun a ha=>?_,fun i a c' h1 h2=>?_,fun p hp=>(S.tab p hp).imp fun a o e n=>?_⟩
 rotate_right
 · have ne:=ne_of_none e hp0
   exact ⟨(upd_ne ne).trans e,fun z=>(List.mem_append.mp z).elim n.1 fun z=>ne (List.mem_singleton.mp z),n.2⟩
 · show (β.l ++ [p]).Nodup
   rw [List.nodup_append]
   refine ⟨S.nd,by simp,fun a ha b hb=>?_⟩
   rw [List.mem_singleton.mp hb]
   rintro rfl
   exact nb.1 ha
 · obtain ⟨n,u,e,t⟩:=S.hid a ha
   have ne : a ≠ p:=ne_of_none e hp
   refine ⟨fun z=>?_,u,(upd_ne ne).trans e,t⟩
   rcases List.mem_append.mp z with z | z
   · exact n z
   · exact ne (List.mem_singleton.mp z)
 · change (β.l ++ [p])[i]? = some a at h1
   by_cases hi : i < st.length
   · rw [List.getElem?_append_left (by rw [S.len]; exact hi)] at h1
     rw [List.getElem?_append_left hi] at h2
     have q:=S.cell i a c' h1 h2
     obtain ⟨o',e,_⟩:=q.there
     exact q.ext x (upd_ne (ne_of_none e hp))
   · have h3 : i < (st ++ [c]).length:=(List.getElem?_eq_some_iff.mp h2).1
     have e : i = st.length:=by simp at h3; omega
     subst e
     rw [List.getElem?_append_right (by omega),Nat.sub_self] at h2
     rw [List.getElem?_append_right (by rw [S.len]; omega),S.len,Nat.sub_self] at h1
     simp at h1 h2
     subst h1
     subst h2
     exact hc
theorem extW_put {p : Addr} {o : HO} (hm : p ∈ β.l) : ExtW β H β (upd H p o):=⟨⟨[],by simp⟩,fun b u e n _=>by
 have ne : b ≠ p:=by
   rintro rfl
   exact n.1 hm
 exact ⟨(upd_ne ne).trans e,n⟩⟩
theorem CellOk.extW {a : Addr} {c : C} (x : ExtW β H β' H') (e : H' a = H a) (h : CellOk K mg H β a c) : CellOk K mg H' β' a c:=by
 cases c with
 | lst ds=>obtain ⟨us,q,r⟩:=h; exact ⟨us,e.trans q,r.extW x⟩
 | dct kvs=>obtain ⟨us,q,r⟩:=h; exact ⟨us,e.trans q,r.1,r.2.extW x⟩
 | dtt kvs=>obtain ⟨us,q,r⟩:=h; exact ⟨us,e.trans q,r.1,r.2.extW x⟩
 | dtf kvs=>obtain ⟨us,bs,q,r,t⟩:=h; exact ⟨us,bs,e.trans q,⟨r.1,r.2.extW x⟩,t.extW x⟩
 | lck kvs=>obtain ⟨z,us,q,r⟩:=h; exact ⟨z,us,e.trans q,r.1,r.2.extW x⟩
 | lct kvs=>obtain ⟨z,us,q,r⟩:=h; exact ⟨z,us,e.trans q,r.1,r.2.extW x⟩
 | lcf kvs=>obtain ⟨z,us,bs,q,r,t⟩:=h; exact ⟨z,us,bs,e.trans q,⟨r.1,r.2.extW x⟩,t.extW x⟩
 | obj c fs=>obtain ⟨Ca,dx,us,m,q,r⟩:=h; exact ⟨Ca,dx,us,m,e.trans q,r.1,r.2.extW x⟩
/-- the thing numbered i has changed -/
theorem Sim.put (S : Sim K mg β st H) {i : Nat} {a : Addr} {o : HO} {c : C} (ha : β.l[i]? = some a) (hc : CellOk K mg (upd H a o) β a c) : Sim K mg β (st.set i c) (upd H a o):=by
 have hm : a ∈ β.l:=List.mem_of_getElem? ha
 have x : ExtW β H β (upd H a o):=extW_put hm
 refine ⟨by simp [S.len],S.nd,fun b hb=>?_,fun j b c' h1 h2=>?_,fun p hp=>(S.tab p hp).imp fun b u e n=>⟨(upd_ne fun z=>n.1 (by rw [z]; exact hm)).trans e,n⟩⟩
 · obtain ⟨n,u,e,t⟩:=S.hid b hb
   have ne : b ≠ a:=fun z=>n (by rw [z]; exact hm)
   exact ⟨n,u,(upd_ne ne).trans e,t⟩
 · by_cases hj : j = i
   · subst hj
     rw [ha] at h1
     cases h1
     have hl : j < st.length:=by
       have:=(List.getElem?_eq_some_iff.mp h2).1
       simpa using this
     rw [List.getElem?_set_self hl] at h2
     cases h2
     exact hc
   · rw [List.getElem?_set_ne (Ne.symm hj)] at h2
     have ne : b ≠ a:=fun z=>by
       subst z
       obtain ⟨l1,e1⟩:=List.getElem?_eq_some_iff.mp h1
       obtain ⟨l2,e2⟩:=List.getElem?_eq_some_iff.mp ha
       exact hj ((List.getElem_inj S.nd).mp (e1.trans e2.symm))
     exact (S.cell j b c' h1 h2).extW x (upd_ne ne)
end
structure EnvR (K : PySem.W.Frag) (H : Hp) (β : Bt) (env : En) (σ : L2.St) : Prop where
 len : env.length = σ.length
 get : ∀ (i : Nat) (d : D),env[i]? = some (some d) → ∃ u,σ[i]? = some (some u) ∧ Rep K H β d u
section
variable {K : PySem.W.Frag} {H H' : Hp} {β β' : Bt} {env : En} {σ : L2.St}
theorem EnvR.ext (e : EnvR K H β env σ) (x : Ext β H β' H') : EnvR K H' β' env σ:=⟨e.len,fun i d h=>by
 obtain ⟨u,h1,h2⟩:=e.get i d h
 exact ⟨u,h1,h2.ext x⟩⟩
theorem EnvR.set (e : EnvR K H β env σ) {d : D} {u : V} (r : Rep K H β d u) (i : Nat) : EnvR K H β (env.set i (some d)) (σ.set i (some u)):=by
 refine ⟨by simp [e.len],fun j c h=>?_⟩
 by_cases hj : j = i
 · subst hj
   have hl : j < env.length:=by
     have:=(List.getElem?_eq_some_iff.mp h).1
     simpa using this
   rw [List.getElem?_set_self hl] at h
   cases h
   exact ⟨u,by rw [List.getElem?_set_self (by rw [← e.len]; exact hl)],r⟩
 · rw [List.getElem?_set_ne (Ne.symm hj)] at h
   obtain ⟨w,h1,h2⟩:=e.get j c h
   exact ⟨w,by rw [List.getElem?_set_ne (Ne.symm hj)]; exact h1,h2⟩
/-- fewer slots are known -/
theorem EnvR.less {env' : En} (e : EnvR K H β env σ) (hl : env'.length = env.length) (h : ∀ (i : Nat) d,env'[i]? = some (some d) → env[i]? = some (some d)) : EnvR K H β env' σ :=
 ⟨hl.trans e.len,fun i d q=>e.get i d (h i d q)⟩
end
/-- an exception of the text: its class,its fields -/
def XRep (K : PySem.W.Frag) (mg : MG) (H : Hp) (β : Bt) (c : Str) (fs : List (Str × D)) (cls : Value) (d : Option Addr) : Prop :=
 ∃ (Ca dx : Addr) (vs : List (Str × V)),cls = .ref Ca ∧ mg.f c = some (.ref Ca) ∧ d = some dx ∧ β.out dx ∧ H dx = some (.xd vs) ∧ RepF K H β fs vs
def Post {α ρ : Type} (K : PySem.W.Frag) (mg : MG) (R : Hp → Bt → α → ρ → Prop) (E : XK) (β : Bt) (H : Hp) (Q : ρ → Hp → Prop) : Out α → Prop
 | .ok a st=>∀ β' H' u,Ext β H β' H' → Sim K mg β' st H' → R H' β' a u → Q u H'
 | .exc c fs st=>∀ β' H' cls d,Ext β H β' H' → Sim K mg β' st H' → XRep K mg H' β' c fs cls d → E cls d H'
 | .bad=>False
abbrev rD (K : PySem.W.Frag) : Hp → Bt → D → V → Prop:=fun H β d u=>Rep K H β d u
abbrev rDs (K : PySem.W.Frag) : Hp → Bt → List D → List V → Prop:=fun H β d u=>Reps K H β d u
abbrev rB : Hp → Bt → Bool → Bool → Prop:=fun _ _ a b=>a = b
section
variable {α ρ : Type} {K : PySem.W.Frag} {mg : MG} {R : Hp → Bt → α → ρ → Prop} {E : XK} {β β' : Bt} {H H' : Hp} {Q Q' : ρ → Hp → Prop}
theorem Post.ext {o : Out α} (x : Ext β H β' H') (h : Post K mg R E β H Q o) : Post K mg R E β' H' Q o:=by
 cases o with
 | ok a st=>exact fun β2 H2 u x2 s r=>h β2 H2 u (x.trans x2) s r
 | exc c fs st=>exact fun β2 H2 cls d x2 s r=>h β2 H2 cls d (x.trans x2) s r
 | bad=>exact h
end
/-- the reading of a plain function -/
def tG {α ρ : Type} (K : PySem.W.Frag) (mg : MG) (R : Hp → Bt → α → ρ → Prop) (E : XK) (f : En → AS → Out α) : L2.St → Hp → (ρ → Hp → Prop) → Prop :=
 fun σ H Q=>∃ (β : Bt) (env : En) (st : AS),EnvR K H β env σ ∧ Sim K mg β st H ∧ Post K mg R E β H Q (f env st)
/-- the first step of two -/
theorem tG_bind {α ρ γ τ : Type} {K : PySem.W.Frag} {mg : MG} {R : Hp → Bt → α → ρ → Prop} {R' : Hp → Bt → γ → τ → Prop} {E : XK} {β : Bt} {H : Hp} {Q : τ → Hp → Prop} {Q' : ρ → Hp → Prop}
   {f : En → AS → Out α} {k : α → AS → Out γ} {env : En} {st : AS} {σ : L2.St} (he : EnvR K H β env σ) (hs : Sim K mg β st H) (h : Post K mg R' E β H Q ((f env st).bind k))
   (hk : ∀ a st1 β1 H1 u,Ext β H β1 H1 → Sim K mg β1 st1 H1 → EnvR K H1 β1 env σ → R H1 β1 a u → Post K mg R' E β1 H1 Q (k a st1) → Q' u H1) : tG K mg R E f σ H Q':=by
 refine ⟨β,env,st,he,hs,?_⟩
 cases e : f env st with
 | ok a st1 =>
   rw [e] at h
   exact fun β1 H1 u x s r=>hk a st1 β1 H1 u x s (he.ext x) r (h.ext x)
 | exc c fs st1 =>
   rw [e] at h
   exact h
 | bad =>
   rw [e] at h
   exact h
abbrev tV (K : PySem.W.Frag) (mg : MG) (E : XK) (f : En → AS → Out D) : TE:=tG K mg (rD K) E f
abbrev tVA (K : PySem.W.Frag) (mg : MG) (E : XK) (f : En → AS → Out (List D)) : TA:=tG K mg (rDs K) E f
abbrev tVT (K : PySem.W.Frag) (mg : MG) (E : XK) (f : En → AS → Out Bool) : TT:=tG K mg rB E f
abbrev VE (X : Cx) (E : XK) (e : Expr) (f : En → AS → Out D) : Prop:=PE X e (tV X.K X.mgw E f)
abbrev VT (X : Cx) (E : XK) (e : Expr) (f : En → AS → Out Bool) : Prop:=PT X e (tVT X.K X.mgw E f)
abbrev VW (X : Cx) (E : XK) (e : Expr) (f : En → AS → Out Bool) : Prop:=PW X e (tVT X.K X.mgw E f)
abbrev VA (X : Cx) (E : XK) (es : List Expr) (f : En → AS → Out (List D)) : Prop:=PA X es (tVA X.K X.mgw E f)
theorem weakE {X : Cx} {e : Expr} {t t' : TE} (h : PE X e t) (w : ∀ σ H Q,t' σ H Q → t σ H Q) : PE X e t':=⟨fun pins s σ H Q I q=>h.run pins s σ H Q I (w σ H Q q)⟩
theorem weakT {X : Cx} {e : Expr} {t t' : TT} (h : PT X e t) (w : ∀ σ H Q,t' σ H Q → t σ H Q) : PT X e t':=⟨fun pins s σ H Q I q=>h.run pins s σ H Q I (w σ H Q q)⟩
theorem weakW {X : Cx} {e : Expr} {t t' : TT} (h : PW X e t) (w : ∀ σ H Q,t' σ H Q → t σ H Q) : PW X e t':=⟨fun wh pins s σ H Q I q=>h.run wh pins s σ H Q I (w σ H Q q)⟩
theorem weakA {X : Cx} {es : List Expr} {t t' : TA} (h : PA X es t) (w : ∀ σ H Q,t' σ H Q → t σ H Q) : PA X es t':=⟨fun pos pins s σ H Q I q=>h.run pos pins s σ H Q I (w σ H Q q)⟩
theorem weakS {X : Cx} {st : Stmt} {t t' : TS} (h : PS X st t) (w : ∀ De σ H,t' De σ H → t De σ H) : PS X st t':=⟨fun pins s σ H De I q=>h.run pins s σ H De I (w De σ H q)⟩
theorem weakSs {X : Cx} {st : List Stmt} {t t' : TS} (h : PSs X st t) (w : ∀ De σ H,t' De σ H → t De σ H) : PSs X st t':=⟨fun pins s σ H De I q=>h.run pins s σ H De I (w De σ H q)⟩
end VL
namespace TB
open PySem PySem.Spec PyProof.Rows L2
section
variable {l : Addr} {its : List Value} {ns : List Int} {prog : Program} {w : World} {A : Around} {s : Shared} {Q E : Value → Shared → Prop}
theorem tup_old {h' : Heap} {ob : Obj} (kept : ∀ b o,b ∉ [s.heap.objs.size] → (s.heap.push ob).get? b = some o → h'.get? b = some o) : ∀ b o,s.heap.get? b = some o → h'.get? b = some o:=fun b o e =>
 kept b o (fun z=>by
   have z' : b = s.heap.objs.size:=by simpa using z
   have:=Heap.lt_size e
   rw [z'] at this
   exact Nat.lt_irrefl _ this) (Heap.get?_push_of_some _ e)
theorem tup_fp {ob : Obj} {xs : Array Value} (hl : s.heap.IsTuple l xs) : l < s.heap.objs.size ∧ ∀ b ∈ [s.heap.objs.size,l],b < (s.heap.push ob).objs.size:=by
 obtain ⟨o,ho,_⟩:=hl
 have lt:=Heap.lt_size ho
 refine ⟨lt,fun b hb=>?_⟩
 rw [Heap.size_push]
 have : b = s.heap.objs.size ∨ b = l:=by simpa using hb
 rcases this with rfl | rfl
 · exact Nat.lt_succ_self _
 · exact Nat.lt_succ_of_lt lt
theorem min_tupR (hh : A.handled = none) (hl : s.heap.IsTuple l its.toArray) (hi : IntsAre its ns) (hne : 0 < ns.length)
   (told : ∀ h' tk M t',(∀ b o,s.heap.get? b = some o → h'.get? b = some o) → M ∈ ns → (∀ a,a ∈ ns → M ≤ a) → Q (.int M t') { s with heap:=h',toks:=tk }) : wpAny (model prog w) A (call (.builtin "min") [.ref l]) Q E s:=by
 obtain ⟨pairs,e⟩:=hi.allInts.items
 have nums : numsOf (intItems pairs).toList = ns:=by rw [← e]; exact hi.numsOf
 rw [nums_intItems] at nums
 subst nums
 rw [e] at hl
 have some1 : 0 < pairs.size:=by simpa using hne
 refine call_min_walk (wpAny_pyIter_tuple hl ?_)
 refine ⟨_,[_,l],[_],_,_,_,_,rfl,Walks.tuple (A:=A.in1) hh _ l (Nat.ne_of_lt (tup_fp (ob:=default) hl).1) (intItems pairs),⟨⟨_,Heap.get?_push_size _ rfl,rfl,rfl⟩,hl.push _⟩,(tup_fp hl).2,by simpa [intItems] using some1,CmpOf.ints_lt (numAt pairs) (fun _ _=>intItems_at),fun v h' tk hP hk=>?_⟩
 have ez : (intItems pairs).size = pairs.size:=by simp [intItems]
 rw [ez] at hP
 obtain ⟨t,rfl⟩:=intItems_at hP
 obtain ⟨_,least⟩:=argBest_lt (numAt pairs) (pairs.size - 1)
 refine told h' tk _ t (tup_old hk) ?_ fun a ha=>?_
 · rw [numAt_eq]
   exact PySem.getD_mem (by rw [List.length_map,Array.length_toList]; omega)
 · obtain ⟨i,hi',rfl⟩:=mem_getD ha
   have lt : i < pairs.toList.length:=by simpa using hi'
   rw [Array.length_toList] at lt
   exact numAt_eq .. ▸ least i (by omega)
theorem max_tupR (hh : A.handled = none) (hl : s.heap.IsTuple l its.toArray) (hi : IntsAre its ns) (hne : 0 < ns.length)
   (told : ∀ h' tk M t',(∀ b o,s.heap.get? b = some o → h'.get? b = some o) → M ∈ ns → (∀ a,a ∈ ns → a ≤ M) → Q (.int M t') { s with heap:=h',toks:=tk }) : wpAny (model prog w) A (call (.builtin "max") [.ref l]) Q E s:=by
 obtain ⟨pairs,e⟩:=hi.allInts.items
 have nums : numsOf (intItems pairs).toList = ns:=by rw [← e]; exact hi.numsOf
 rw [nums_intItems] at nums
 subst nums
 rw [e] at hl
 have some1 : 0 < pairs.size:=by simpa using hne
 refine call_max_walk (wpAny_pyIter_tuple hl ?_)
 refine ⟨_,[_,l],[_],_,_,_,_,rfl,Walks.tuple (A:=A.in1) hh _ l (Nat.ne_of_lt (tup_fp (ob:=default) hl).1) (intItems pairs),⟨⟨_,Heap.get?_push_size _ rfl,rfl,rfl⟩,hl.push _⟩,(tup_fp hl).2,by simpa [intItems] using some1,CmpOf.ints_gt (numAt pairs) (fun _ _=>intItems_at),fun v h' tk hP hk=>?_⟩
 have ez : (intItems pairs).size = pairs.size:=by simp [intItems]
 rw [ez] at hP
 obtain ⟨t,rfl⟩:=intItems_at hP
 obtain ⟨_,most⟩:=argBest_gt (numAt pairs) (pairs.size - 1)
 refine told h' tk _ t (tup_old hk) ?_ fun a ha=>?_
 · rw [numAt_eq]
   exact PySem.getD_mem (by rw [List.length_map,Array.length_toList]; omega)
 · obtain ⟨i,hi',rfl⟩:=mem_getD ha
   have lt : i < pairs.toList.length:=by simpa using hi'
   rw [Array.length_toList] at lt
   exact numAt_eq .. ▸ most i (by omega)
end
section
variable {X : Cx}
def rMaxT (K : PySem.W.Frag) : List V → Hp → VK → Prop:=fun vs H Q=>∃ (a : Addr) (ns : List Int),vs = [V.ref a] ∧ SqT K H a (ns.map V.int) ∧ 0 < ns.length ∧ ∀ m,m ∈ ns → (∀ y,y ∈ ns → y ≤ m) → Q (.int m) H
def rMinT (K : PySem.W.Frag) : List V → Hp → VK → Prop:=fun vs H Q=>∃ (a : Addr) (ns : List Int),vs = [V.ref a] ∧ SqT K H a (ns.map V.int) ∧ 0 < ns.length ∧ ∀ m,m ∈ ns → (∀ y,y ∈ ns → m ≤ y) → Q (.int m) H
theorem call_maxT (hc : X.calm = true) : CallR X (.builtin "max") (rMaxT X.K):=by
 intro pins s σ H vs us Q I rel h
 obtain ⟨t,ns,rfl,at_t,hne,q⟩:=h
 obtain ⟨its,rv,hl,_⟩:=I.tuple at_t
 rw [Vals.ref1 rel]
 exact max_tupR (I.ok.hd hc) hl rv.ints hne fun h' tk m t' hk h1 h2=>⟨.int m,H,I.kept hk,⟨_,rfl⟩,q m h1 h2⟩
theorem call_minT (hc : X.calm = true) : CallR X (.builtin "min") (rMinT X.K):=by
 intro pins s σ H vs us Q I rel h
 obtain ⟨t,ns,rfl,at_t,hne,q⟩:=h
 obtain ⟨its,rv,hl,_⟩:=I.tuple at_t
 rw [Vals.ref1 rel]
 exact min_tupR (I.ok.hd hc) hl rv.ints hne fun h' tk m t' hk h1 h2=>⟨.int m,H,I.kept hk,⟨_,rfl⟩,q m h1 h2⟩
end
end TB
namespace TB
open PySem PySem.Spec PyProof.Rows L2 HT
theorem back_adjust (n : Nat) : Builtin.Slice.sliceAdjust none none (-1) (n : Int) = ((n : Int) - 1,-1):=by
 simp [Builtin.Slice.sliceAdjust]
theorem back_places (n : Nat) : Builtin.Slice.slicePlaces ((n : Int) - 1) (-1) (-1) = n:=by
 have no : ¬ ((-1 : Int) > 0):=by decide
 simp only [Builtin.Slice.slicePlaces,no,if_false]
 by_cases c : (n : Int) - 1 > -1
 · rw [if_pos c,show (- -1 : Int) = 1 by decide,Int.ediv_one]
   omega
 · rw [if_neg c]
   omega
theorem fm_congr {α β : Type} {f g : α → Option β} : ∀ {l : List α},(∀ a ∈ l,f a = g a) → l.filterMap f = l.filterMap g
 | [],_=>rfl
 | x :: l,h=>by
   rw [List.filterMap_cons,List.filterMap_cons,h x List.mem_cons_self,fm_congr fun a ha=>h a (List.mem_cons_of_mem _ ha)]
theorem back_pick (xs : Array Value) : ((List.range xs.size).filterMap fun (m : Nat)=>xs[(((xs.size : Int) - 1) + (m : Int) * (-1)).toNat]?).toArray = xs.toList.reverse.toArray:=by
 have e : (List.range xs.size).filterMap (fun (m : Nat)=>xs[(((xs.size : Int) - 1) + (m : Int) * (-1)).toNat]?) = ((List.range xs.size).map fun m=>xs.size - 1 - m).filterMap (xs[·]?):=by
   rw [List.filterMap_map]
   refine fm_congr fun m hm=>?_
   have : (((xs.size : Int) - 1) + (m : Int) * (-1)).toNat = xs.size - 1 - m:=by
     have:=List.mem_range.mp hm
     omega
   rw [this]
   rfl
 rw [e,PySem.W.krv_range,List.filterMap_reverse,PySem.W.krv_all]
section
variable {w : World} {prog : Program} {s : Shared} {A : Around} {E : Value → Shared → Prop}
theorem back_applied {sl : Addr} {vs : Value} {n : Nat} {Q : Int × Int × Nat → Shared → Prop} (hs : s.heap.IsSliceOf sl .none .none vs) (ps : IsPart vs (some (-1))) (h : Q ((n : Int) - 1, -1, n) s) :
   wpAny (model prog w) A (Builtin.Slice.sliceApplied (Value.ref sl) (pure (n : Int))) Q E s:=by
 obtain ⟨o,ho,_,hd⟩:=id hs
 unfold Builtin.Slice.sliceApplied
 unfold Builtin.Slice.sliceFields
 refine wpAny_bind (wpAny_bind (wpAny_field ho hd (x:=.none) rfl (wpAny_bind (wpAny_field ho hd (x:=.none) rfl (wpAny_bind (wpAny_field ho hd (x:=vs) rfl (wpAny_pure ?_)))))))
 apply wpAny_bind
 refine slicePart_ ps ?_
 show wpAny _ _ (if ((-1 : Int) == 0) = true then _ else _) _ _ s
 rw [if_neg (by decide)]
 apply wpAny_bind
 refine slicePart_ .none ?_
 apply wpAny_bind
 refine slicePart_ .none ?_
 apply wpAny_bind
 refine wpAny_pure ?_
 show wpAny _ _ (match Builtin.Slice.sliceAdjust none none (-1) (n : Int) with | (lo,hi)=>pure (lo,(-1 : Int),Builtin.Slice.slicePlaces lo hi (-1))) _ _ s
 rw [back_adjust]
 show wpAny _ _ (pure ((n : Int) - 1,(-1 : Int),Builtin.Slice.slicePlaces ((n : Int) - 1) (-1) (-1))) _ _ s
 rw [back_places]
 exact wpAny_pure h
theorem back_item {t sl : Addr} {items : Array Value} {vs : Value} {Q : Value → Shared → Prop} (ht : IsTup s.heap t items) (hs : s.heap.IsSliceOf sl .none .none vs) (ps : IsPart vs (some (-1)))
   (h : Q (.ref s.heap.objs.size) { s with heap:=s.heap.push { cls:=.type "tuple",data:=.seq items.toList.reverse.toArray } }) (hsz : items.size ≤ sizeLine) : wpAny (model prog w) A (getItem (.ref t) (.ref sl)) Q E s:=by
 have fits : sizeOk (.seq items.toList.reverse.toArray):=by
   show items.toList.reverse.toArray.size ≤ sizeLine
   rw [List.size_toArray,List.length_reverse,Array.length_toList]
   exact hsz
 obtain ⟨o,ho,hc,hd⟩:=id hs
 have isS : s.TypeIs (.ref sl) "slice":=⟨o,ho,hc⟩
 unfold getItem
 try with_reducible apply wpAny_holding
 try refine wpAny_bind (wpAny_pure ?_)
 apply wpAny_bind
 refine wpAny_sequenceKey ht.typeIs (by decide) ?_
 apply wpAny_bind
 refine wpAny_callSpecial?_slot (name:=Str.ofString "__getitem__") ht.typeIs PyProof.Rows.slot_tuple_getitem (wpAny_call_entry PyProof.Rows.slot_tuple_getitem ht.typeIs entry_tuple_getitem ?_ (args_tuple_getitem _ _))
 show wpAny _ _ (Builtin.Tuple.tupleItemsOf (Value.ref t) >>= _) _ _ s
 apply wpAny_bind
 refine tupleItemsOf_ ht ?_
 apply wpAny_bind
 refine wpAny_typeOf isS ?_
 rw [if_pos (by decide)]
 apply wpAny_bind
 refine back_applied hs ps ?_
 show wpAny _ _ (if (((items.size : Int) - 1) == 0 && (-1 : Int) == 1 && items.size == items.size) = true then _ else _) _ _ s
 rw [if_neg (by simp),back_pick]
 first
   | exact wpAny_bind (m:=Builtin.Tuple.tupleExact _) (wpAny_newObj_type (wpAny_pure ⟨_,rfl,wpAny_pure h⟩) fits)
   | exact wpAny_bind (m:=Builtin.Tuple.tupleExact _) (wpAny_newObj_type (wpAny_bind (wpAny_pure (wpAny_pure ⟨_,rfl,wpAny_pure h⟩))) fits)
   | exact wpAny_bind (wpAny_bind (m:=Builtin.Tuple.tupleExact _) (wpAny_newObj_type (wpAny_pure (wpAny_pure ⟨_,rfl,wpAny_pure h⟩)) fits))
   | exact wpAny_bind (wpAny_bind (m:=Builtin.Tuple.tupleExact _) (wpAny_newObj_type (wpAny_pure ⟨_,rfl,wpAny_pure h⟩) fits))
end
def tRevT (K : PySem.W.Frag) (te : TE) : TE:=fun σ H Q=>te σ H fun x H1=>∃ a xs,x = .ref a ∧ SqT K H1 a xs ∧ ∀ p,H1 p = none → Q (.ref p) (upd H1 p (.tup xs.reverse))
section
variable {X : Cx}
theorem pe_revT {e : Expr} {te : TE} {k : Nat} {p1 p2 p3 pos : Pos} (he : PE X e te) : PE X (.Subscript e (.Slice none none (some (.UnaryOp .USub (.Constant (.int 1) k p1) p2)) p3) pos) (tRevT X.K te):=by
 refine ⟨fun pins s0 σ H Q I h=>?_⟩
 refine Subscript_ (thn (he.run pins s0 σ H _ I h) fun v s1 ⟨x,H1,I1,r1,q1⟩=>?_)
 obtain ⟨a,xs,rfl,hx,q⟩:=q1
 cases r1
 have step : PO X (some (.UnaryOp .USub (.Constant (.int 1) k p1) p2)) (tPart (tUn (rU fun i=>.int (-i)) (tC (.int 1)))):=po_some (pe_un un_neg pe_int)
 refine wpAny_Slice (thn (po_none.run pins s1 σ H1 (fun o G=>o = none ∧ G = H1) I1 ⟨rfl,rfl⟩) fun vl s2 ⟨l,G2,I2,pl,el,e2⟩=>?_)
 subst el e2
 refine thn (po_none.run pins s2 σ G2 (fun o G=>o = none ∧ G = G2) I2 ⟨rfl,rfl⟩) fun vu s3 ⟨u,G3,I3,pu,eu,e3⟩=>?_
 subst eu e3
 refine thn (step.run pins s3 σ G3 (fun o G=>o = some (-1) ∧ G = G3) I3 ⟨1,rfl,-1,rfl,rfl,rfl⟩) fun vs s4 ⟨o,G4,I4,ps,eo,e4⟩=>?_
 subst eo e4
 cases pl
 cases pu
 have I5 : Inv X pins σ G4 { s4 with heap:=s4.heap.push { cls:=.type "slice",data:=.fields #[.none,.none,vs] } }:=I4.kept (t':=s4.toks) fun b ob z=>Heap.get?_push_of_some _ z
 obtain ⟨its,r,ht,hz⟩:=I5.tuple hx
 have lens:=r.length
 show wpAny (model X.prog X.w) X.A (subscriptTail e (.Slice none none (some (.UnaryOp .USub (.Constant (.int 1) k p1) p2)) p3) (.ref a) (.ref s4.heap.objs.size)) (EP X pins σ Q) X.xe { s4 with heap:=s4.heap.push { cls:=.type "slice",data:=.fields #[.none,.none,vs] } }
 refine tail_any (ops:=[.ref a,.ref s4.heap.objs.size]) ht.typeIs (PyProof.Rows.slot_tuple_getitem.lookup) ?_ (by with_unfolding_all rfl)
 refine back_item ht (Heap.IsSliceOf.new _ .none .none vs) ps ?_ (by rw [List.size_toArray]; omega)
 refine ⟨.ref _,_,I5.laid (t':=s4.toks) (o:=.tup xs.reverse) (fun b ob z=>Heap.get?_push_of_some _ z) (Nat.le_refl _) ?_,rfl,q _ (I5.hok.fresh (Nat.le_refl _))⟩
 exact ⟨by rw [List.length_reverse]; exact hz,its.reverse,r.reverse,⟨_,Heap.get?_push_size _ rfl,rfl,0,rfl⟩⟩
end
end TB
namespace TB
open PySem PySem.Spec PyProof.Rows L2
def hid (F : List Addr) (H : Hp) : Hp:=fun b=>if b ∈ F then none else H b
/-- the places that are hidden are taken -/
def Took (F : List Addr) (H : Hp) : Prop:=∀ f ∈ F,H f ≠ none
theorem Took.out {F : List Addr} {H : Hp} {p : Addr} (t : Took F H) (n : H p = none) : p ∉ F:=fun z=>t p z n
theorem Took.same {F : List Addr} {H H' : Hp} (t : Took F H) (s : Same H H') : Took F H':=fun f hf z=>by
 cases e : H f with
 | none=>exact t f hf e
 | some o =>
   rw [s f o e] at z
   cases z
def cutD (ds : List PyData) (lo hi : Option Int) : List PyData:=(ds.drop (HT.sIx ds.length 0 lo)).take (HT.sIx ds.length ds.length hi - HT.sIx ds.length 0 lo)
theorem DpAll.drop {K : PySem.W.Frag} {H : Hp} : ∀ {vs : List V} {ds : List PyData} (i : Nat),DpAll K H vs ds → DpAll K H (vs.drop i) (ds.drop i)
 | _,_,0,h=>h
 | _,_,_ + 1,.nil=>.nil
 | _,_,i + 1,.cons _ t=>DpAll.drop i t
theorem DpAll.take {K : PySem.W.Frag} {H : Hp} : ∀ {vs : List V} {ds : List PyData} (i : Nat),DpAll K H vs ds → DpAll K H (vs.take i) (ds.take i)
 | _,_,0,_=>by
   rw [List.take_zero,List.take_zero]
   exact .nil
 | _,_,_ + 1,.nil=>.nil
 | _,_,i + 1,.cons a t=>.cons a (DpAll.take i t)
theorem DpAll.cut {K : PySem.W.Frag} {H : Hp} {vs : List V} {ds : List PyData} {lo hi : Option Int} (h : DpAll K H vs ds) : DpAll K H (cutV vs lo hi) (cutD ds lo hi):=by
 unfold cutV cutD
 rw [DpAll.len h]
 exact DpAll.take _ (DpAll.drop _ h)
theorem DpAll.rev {K : PySem.W.Frag} {H : Hp} : ∀ {vs : List V} {ds : List PyData},DpAll K H vs ds → DpAll K H vs.reverse ds.reverse
 | _,_,.nil=>.nil
 | _,_,.cons a t=>by
   rw [List.reverse_cons,List.reverse_cons]
   exact DpAll.snoc a (DpAll.rev t)
def atom : PyData → Prop
 | .none=>True
 | .bool _=>True
 | .int _=>True
 | .str z=>PyData.strOk z = true
 | _=>False
def Gd (n : Nat) : Nat → PyData → Prop
 | 0,d=>atom d
 | k + 1,d=>atom d ∨ ∃ ds,(d = .tuple ds ∨ d = .list ds) ∧ ds.length ≤ n ∧ ∀ e ∈ ds,Gd n k e
theorem Gd.atom {n k : Nat} {d : PyData} (h : atom d) : Gd n k d:=by
 cases k with
 | zero=>exact h
 | succ k=>exact .inl h
theorem Gd.mono {n m : Nat} (hn : n ≤ m) : ∀ {k l : Nat} {d : PyData},k ≤ l → Gd n k d → Gd m l d
 | 0,_,_,_,h=>Gd.atom h
 | k + 1,0,_,h,_=>by omega
 | k + 1,l + 1,_,hk,.inl h=>.inl h
 | k + 1,l + 1,_,hk,.inr ⟨ds,e,hl,h⟩=>.inr ⟨ds,e,Nat.le_trans hl hn,fun d hd=>Gd.mono hn (Nat.le_of_succ_le_succ hk) (h d hd)⟩
theorem Gd.tup {n k : Nat} {ds : List PyData} (hl : ds.length ≤ n) (h : ∀ e ∈ ds,Gd n k e) : Gd n (k + 1) (.tuple ds):=.inr ⟨ds,.inl rfl,hl,h⟩
theorem Gd.lst {n k : Nat} {ds : List PyData} (hl : ds.length ≤ n) (h : ∀ e ∈ ds,Gd n k e) : Gd n (k + 1) (.list ds):=.inr ⟨ds,.inr rfl,hl,h⟩
theorem Gd.lays {n : Nat} : ∀ {k : Nat} {d : PyData},Gd n k d → PyData.canLay0 d = true ∧ PyData.depth d ≤ k
 | k,d,h=>by
   have at_ : ∀ {d : PyData},TB.atom d → PyData.canLay0 d = true ∧ PyData.depth d = 0:=by
     intro d h
     cases d with
     | none=>exact ⟨rfl,rfl⟩
     | bool b=>exact ⟨rfl,rfl⟩
     | int i=>exact ⟨rfl,rfl⟩
     | str z=>exact ⟨h,rfl⟩
     | list ds=>exact absurd h id
     | tuple ds=>exact absurd h id
     | dict ds=>exact absurd h id
   cases k with
   | zero =>
     obtain ⟨a,b⟩:=at_ h
     exact ⟨a,by omega⟩
   | succ k =>
     rcases h with h | ⟨ds,e,_,h⟩
     · obtain ⟨a,b⟩:=at_ h
       exact ⟨a,by omega⟩
     · have all : ∀ es : List PyData, (∀ e ∈ es, Gd n k e) → PyData.canLayAll0 es = true ∧ PyData.depthAll es ≤ k := by
         intro es
         induction es with
         | nil=>exact fun _=>⟨rfl,Nat.zero_le _⟩
         | cons e es ih =>
           intro he
           obtain ⟨a,b⟩:=ih fun x hx=>he x (List.mem_cons_of_mem _ hx)
           obtain ⟨c,d⟩:=Gd.lays (he e List.mem_cons_self)
           refine ⟨by simp only [PyData.canLayAll0,a,c,Bool.and_self],?_⟩
           simp only [PyData.depthAll]
           omega
       obtain ⟨a,b⟩:=all ds h
       rcases e with rfl | rfl
       · exact ⟨by simp only [PyData.canLay0,a],by simp only [PyData.depth]; omega⟩
       · exact ⟨by simp only [PyData.canLay0,a],by simp only [PyData.depth]; omega⟩
theorem Gd.shaped {n k : Nat} {d : PyData} (h : Gd n k d) (hk : k ≤ 60) : SeqAt.shaped d = true:=by
 obtain ⟨a,b⟩:=h.lays
 unfold SeqAt.shaped
 rw [a,decide_eq_true (by omega)]
 rfl
end TB
namespace VL
open PySem PySem.Spec PyProof.Rows L2 TB
@[simp] def vVar (i : Nat) (env : En) (st : AS) : Out D:=match env[i]? with
 | some (some d)=>.ok d st
 | _=>.bad
@[simp] def vC (d : D) (_ : En) (st : AS) : Out D:=.ok d st
@[simp] def v1 {α : Type} (g : D → AS → Out α) (fa : En → AS → Out D) (env : En) (st : AS) : Out α:=(fa env st).bind g
@[simp] def v2 {α : Type} (g : D → D → AS → Out α) (fa fb : En → AS → Out D) (env : En) (st : AS) : Out α:=(fa env st).bind fun a st=>(fb env st).bind fun b st=>g a b st
@[simp] def vNil (_ : En) (st : AS) : Out (List D):=.ok [] st
@[simp] def vCons (fa : En → AS → Out D) (fr : En → AS → Out (List D)) (env : En) (st : AS) : Out (List D):=(fa env st).bind fun a st=>(fr env st).bind fun r st=>.ok (a :: r) st
@[simp] def vA {α : Type} (g : List D → AS → Out α) (fa : En → AS → Out (List D)) (env : En) (st : AS) : Out α:=(fa env st).bind g
section
variable {X : Cx} {E : XK}
/-- another wish about what is raised,where nothing is -/
theorem ve_var (i : Nat) {x : Str} {pos : Pos} (hN : X.N[i]? = some x := by rfl) (hv : Vis X.env.scope x := by first | exact Or.inl rfl | exact Or.inr (Or.inl rfl) | exact Or.inr (Or.inr rfl)) (hd : (x == ("__debug__" : Str)) = false := by decide)
   (hcd : (x == ("__classdict__" : Str)) = false:=by decide) : VE X E (.Name x pos) (vVar i):=by
 refine weakE (pe_var hN hv hd hcd) fun σ H Q ⟨β,env,st,he,hs,h⟩=>?_
 unfold vVar at h
 split at h
 · rename_i d e
   obtain ⟨u,h1,h2⟩:=he.get i d e
   exact ⟨u,h1,h β H u (Ext.refl _ _) hs h2⟩
 · exact h.elim
theorem ve_c {e : Expr} {v : V} {d : D} (h : PE X e (tC v)) (r : ∀ H β,Rep X.K H β d v) : VE X E e (vC d) :=
 weakE h fun σ H Q ⟨β,env,st,he,hs,h⟩=>h β H v (Ext.refl _ _) hs (r H β)
theorem ve_int {i j pos} : VE X E (.Constant (.int i) j pos) (vC (.int i)):=ve_c pe_int fun _ _=>.int i
theorem ve_bl {b j pos} : VE X E (.Constant (.bool b) j pos) (vC (.bl b)):=ve_c pe_bl fun _ _=>.bl b
theorem ve_non {j pos} : VE X E (.Constant .none j pos) (vC .non):=ve_c pe_non fun _ _=>.non
theorem ve_str {x j pos} : VE X E (.Constant (.str x) j pos) (vC (.str x)):=ve_c pe_str fun _ _=>.str x
theorem va_nil : VA X E [] vNil:=weakA pa_nil fun σ H Q ⟨β,env,st,he,hs,h⟩=>h β H [] (Ext.refl _ _) hs .nil
theorem va_cons {e : Expr} {es : List Expr} {fa : En → AS → Out D} {fr : En → AS → Out (List D)} (ha : VE X E e fa) (hr : VA X E es fr) (hs : starEach (e :: es) X.env = (false,eval e X.env) :: starEach es X.env:=by rfl) : VA X E (e :: es) (vCons fa fr):=by
 refine weakA (pa_cons ha hr hs) fun σ H Q ⟨β,env,st,he,hs,h⟩=>?_
 refine tG_bind he hs h fun a st1 β1 H1 u x1 s1 e1 r1 h1=>?_
 refine tG_bind e1 s1 h1 fun as st2 β2 H2 us x2 s2 e2 r2 h2=>?_
 exact h2 β2 H2 _ (Ext.refl _ _) s2 (.cons (r1.ext x2) r2)
def Ok1 (K : PySem.W.Frag) (mg : MG) (E : XK) (r : V → Hp → VK → Prop) (g : D → AS → Out D) : Prop :=
 ∀ β H st x u Q,Sim K mg β st H → Rep K H β x u → Post K mg (rD K) E β H Q (g x st) → r u H Q
def Ok2 (K : PySem.W.Frag) (mg : MG) (E : XK) (r : R2) (g : D → D → AS → Out D) : Prop :=
 ∀ β H st x y u v Q,Sim K mg β st H → Rep K H β x u → Rep K H β y v → Post K mg (rD K) E β H Q (g x y st) → r u v H Q
def OkA (K : PySem.W.Frag) (mg : MG) (E : XK) (r : List V → Hp → VK → Prop) (g : List D → AS → Out D) : Prop :=
 ∀ β H st xs us Q,Sim K mg β st H → Reps K H β xs us → Post K mg (rD K) E β H Q (g xs st) → r us H Q
variable {a b : Expr} {fa fb : En → AS → Out D} {pos : Pos}
theorem use2 {r : R2} {g : D → D → AS → Out D} (hg : Ok2 X.K X.mgw E r g) {σ : L2.St} {H : Hp} {Q : VK} (h : tV X.K X.mgw E (v2 g fa fb) σ H Q) : tOp r (tV X.K X.mgw E fa) (tV X.K X.mgw E fb) σ H Q:=by
 obtain ⟨β,env,st,he,hs,h⟩:=h
 refine tG_bind he hs h fun x st1 β1 H1 u x1 s1 e1 r1 h1=>?_
 refine tG_bind e1 s1 h1 fun y st2 β2 H2 v x2 s2 e2 r2 h2=>?_
 exact hg β2 H2 st2 x y u v Q s2 (r1.ext x2) r2 h2
theorem ve_op {op : Operator} {r : R2} {g : D → D → AS → Out D} (ho : OpR X (binaryOp op) r) (hg : Ok2 X.K X.mgw E r g) (ha : VE X E a fa) (hb : VE X E b fb) : VE X E (.BinOp a op b pos) (v2 g fa fb) :=
 weakE (pe_op ho ha hb) fun _ _ _ h=>use2 hg h
theorem ve_cmp {op : CmpOp} {r : R2} {g : D → D → AS → Out D} (ho : OpR X (compareOp op) r) (hg : Ok2 X.K X.mgw E r g) (ha : VE X E a fa) (hb : VE X E b fb) (hm : behindInMarks op b = false) : VE X E (.Compare a [op] [b] pos) (v2 g fa fb) :=
 weakE (pe_cmpR ho ha hb hm) fun _ _ _ h=>use2 hg h
theorem ve_ix {r : R2} {g : D → D → AS → Out D} (hr : IxR X r) (hg : Ok2 X.K X.mgw E r g) (ha : VE X E a fa) (hb : VE X E b fb) (hs : PlainIx b) : VE X E (.Subscript a b pos) (v2 g fa fb) :=
 weakE (pe_ix hr ha hb hs) fun _ _ _ h=>use2 hg h
theorem ve_un {op : UnaryOp} {r : V → Hp → VK → Prop} {g : D → AS → Out D} (ho : UnR X (unaryOp op) r) (hg : Ok1 X.K X.mgw E r g) (ha : VE X E a fa) : VE X E (.UnaryOp op a pos) (v1 g fa):=by
 refine weakE (pe_un ho ha) fun σ H Q ⟨β,env,st,he,hs,h⟩=>?_
 refine tG_bind he hs h fun x st1 β1 H1 u x1 s1 e1 r1 h1=>?_
 exact hg β1 H1 st1 x u Q s1 r1 h1
@[simp] def asB (d : D) (st : AS) : Out Bool:=match d with
 | .bl b=>.ok b st
 | _=>.bad
@[simp] def vB (fa : En → AS → Out D) : En → AS → Out Bool:=v1 asB fa
theorem postB {K : PySem.W.Frag} {mg : MG} {β : Bt} {H : Hp} {Q : Bool → Hp → Prop} {d : D} {u : V} {st : AS} (s : Sim K mg β st H) (r : Rep K H β d u)
   (h : Post K mg rB E β H Q (asB d st)) : ∃ k,u = .bl k ∧ Q k H:=by
 cases r with
 | bl b=>exact ⟨b,rfl,h β H b (Ext.refl _ _) s rfl⟩
 | _=>exact h.elim
theorem vt_cmp {op : CmpOp} {r : R2} {g : D → D → AS → Out D} (ho : OpR X (compareOp op) r) (hg : Ok2 X.K X.mgw E r g) (ha : VE X E a fa) (hb : VE X E b fb) (hm : behindInMarks op b = false) : VT X E (.Compare a [op] [b] pos) (vB (v2 g fa fb)):=by
 refine weakT (pt_cmpR ho ha hb hm) fun σ H Q h=>?_
 obtain ⟨β,env,st,he,hs,h⟩:=h
 have h' : tV X.K X.mgw E (v2 g fa fb) σ H fun x H'=>∃ k,x = .bl k ∧ Q k H':=tG_bind he hs h fun x st1 β1 H1 u x1 s1 e1 r1 h1=>postB s1 r1 h1
 exact use2 hg h'
/-- an expression as a test,by its truth -/
@[simp] def listOf (st : AS) : D → Option (List D)
 | .lst ds=>some ds
 | .fzl ds=>some ds
 | .ref i=>match st[i]? with
   | some (.lst ds)=>some ds
   | _=>none
 | _=>none
@[simp] def truD (d : D) (st : AS) : Out Bool:=match d with
 | .non=>.ok false st
 | .bl b=>.ok b st
 | .int i=>.ok (i != 0) st
 | .str x=>if x.length ≤ sizeLine then .ok ((x.length : Int) != 0) st else .bad
 | .tup ds=>.ok (!ds.isEmpty) st
 | .ctp ds=>.ok (!ds.isEmpty) st
 | .lst ds=>.ok (!ds.isEmpty) st
 | .fzl ds=>.ok (!ds.isEmpty) st
 | .ref i=>match st[i]? with
   | some (.lst ds)=>.ok (!ds.isEmpty) st
   | some (.dct kvs)=>.ok (!kvs.isEmpty) st
   | some (.lck kvs)=>.bad
   | _=>.bad
 | .cv _=>.bad
end
section
variable {K : PySem.W.Frag} {mg : MG} {E : XK} {β : Bt} {H : Hp} {st : AS}
theorem SqL.fz {a : Addr} {us : List V} (h : (β.out a ∧ Rd H a (.lst us)) ∨ WrL K a us) : SqL K H a us:=h.imp (·.2) id
/-- a list to be read -/
theorem Sim.lists (S : Sim K mg β st H) {d : D} {u : V} {ds : List D} (r : Rep K H β d u) (h : listOf st d = some ds) : ∃ a us,u = .ref a ∧ SqL K H a us ∧ Reps K H β ds us:=by
 cases r with
 | lst n e q =>
   cases h
   exact ⟨_,_,rfl,.inl (.inl e),q⟩
 | fzl e q =>
   cases h
   exact ⟨_,_,rfl,SqL.fz e,q⟩
 | ref e =>
   rename_i i a
   unfold listOf at h
   dsimp only at h
   split at h
   · rename_i ds' e2
     cases h
     obtain ⟨us,e3,q⟩:=S.cell i a _ e e2
     exact ⟨a,us,rfl,.inl (.inl e3),q⟩
   · cases h
 | _=>cases h
theorem Reps.isEmpty {ds : List D} {us : List V} (r : Reps K H β ds us) : us.isEmpty = ds.isEmpty:=by
 cases r <;> rfl
theorem truD_ok (S : Sim K mg β st H) {d : D} {u : V} {Q : Bool → Hp → Prop} (r : Rep K H β d u) (h : Post K mg rB E β H Q (truD d st)) : ∃ k,TruV K u H k ∧ Q k H:=by
 have go : ∀ k,truD d st = .ok k st → Q k H:=fun k e=>by
   rw [e] at h
   exact h β H k (Ext.refl _ _) S rfl
 cases r with
 | non=>exact ⟨false,rfl,go _ rfl⟩
 | bl b=>exact ⟨b,rfl,go _ rfl⟩
 | int i=>exact ⟨_,rfl,go _ rfl⟩
 | str x =>
   by_cases hl : x.length ≤ sizeLine
   · exact ⟨_,⟨hl,rfl⟩,go _ (if_pos hl)⟩
   · rw [show truD (.str x) st = .bad from if_neg hl] at h
     exact h.elim
 | tup n e q=>exact ⟨_,.inr (.inl ⟨_,.inl (.inl e),by rw [q.isEmpty]⟩),go _ rfl⟩
 | ctp e q=>exact ⟨_,.inr (.inl ⟨_,e.sq,by rw [q.isEmpty]⟩),go _ rfl⟩
 | lst n e q=>exact ⟨_,.inl ⟨_,.inl (.inl e),by rw [q.isEmpty]⟩,go _ rfl⟩
 | fzl e q=>exact ⟨_,.inl ⟨_,SqL.fz e,by rw [q.isEmpty]⟩,go _ rfl⟩
 | cv v=>exact h.elim
 | ref e =>
   rename_i i a
   cases q : st[i]? with
   | none =>
     simp only [truD,q] at h
     exact h.elim
   | some c =>
     cases c with
     | lst ds =>
       obtain ⟨us,e3,r3⟩:=S.cell i a _ e q
       exact ⟨_,.inl ⟨_,.inl (.inl e3),by rw [r3.isEmpty]⟩,go _ (by simp only [truD,q])⟩
     | dct kvs =>
       obtain ⟨us,e3,r3⟩:=S.cell i a _ e q
       refine ⟨!us.isEmpty,?_,go _ ?_⟩
       · exact .inr (.inr ⟨us,e3,rfl⟩)
       · simp only [truD,q]
         have : us.isEmpty = kvs.isEmpty:=by
           have h1:=congrArg List.length r3.1
           simp only [List.length_map] at h1
           cases us <;> cases kvs <;> simp_all
         rw [this]
     | dtt kvs =>
       simp only [truD,q] at h
       exact h.elim
     | dtf kvs =>
       simp only [truD,q] at h
       exact h.elim
     | lck kvs =>
       simp only [truD,q] at h
       exact h.elim
     | lct kvs =>
       simp only [truD,q] at h
       exact h.elim
     | lcf kvs =>
       simp only [truD,q] at h
       exact h.elim
     | obj c fs =>
       simp only [truD,q] at h
       exact h.elim
end
end VL
namespace TB
open PySem PySem.Spec PyProof.Rows L2
end TB
namespace TB
open PySem PySem.Spec PyProof.Rows L2
end TB
namespace TB
open PySem PySem.Spec PyProof.Rows L2
structure IsC (K : PySem.W.Frag) (D : Addr) : Prop where
 cl : (PySem.W.clsIn K D).isSome = true
 ga : PySem.W.findIn K (.ref D) "__getattribute__" = some (some (.builtin "BaseException.__getattribute__"))
 gg : PySem.W.findIn K (.ref D) "__getattr__" = some none
 sb : PySem.W.subIn K (.ref D) (.type "BaseException") = some true
 ca : PySem.W.findIn K (.ref D) "__class__" = some (some (.builtin "object.__class__"))
 gt : PySem.W.specialIn K (.builtin "object.__class__") "__get__" = some (some (.builtin "getset_descriptor.__get__"))
 tk : PySem.W.takesIn K (.builtin "object.__class__") = some true
 mr : PySem.W.mroIn K D (.type "object") = some true
/-- one class -/
def rIsX (K : PySem.W.Frag) (a : Addr) (cls : Value) (d : Option Addr) : List V → Hp → VK → Prop:=fun xs H Q=>∃ (D dd : Addr) (fs : List (Str × V)) (c : V) (cv : Value) (b : Bool),
 xs = [.ref a,c] ∧ cls = .ref D ∧ d = some dd ∧ H dd = some (.xd fs) ∧ IsC K D ∧ ClsV c cv ∧ PySem.W.kitOne K (.ref D) cv = some b ∧ Q (.bl b) H
/-- a tuple of classes,just laid -/
def rIsXT (K : PySem.W.Frag) (a : Addr) (cls : Value) (d : Option Addr) : List V → Hp → VK → Prop:=fun xs H Q=>∃ (D dd tp : Addr) (fs : List (Str × V)) (cs : List V) (us : List Value) (b : Bool),
 xs = [.ref a,.ref tp] ∧ cls = .ref D ∧ d = some dd ∧ H dd = some (.xd fs) ∧ IsC K D ∧ H tp = some (.tup cs) ∧ Paired ClsV cs us ∧ PySem.W.kitAny K (.ref D) us = some b ∧ Q (.bl b) H
section
variable {X : Cx} {a : Addr} {oe : Obj} {cls : Value} {d : Option Addr} {pn : List (Addr × Obj)}
theorem inst_x {pins : List (Addr × Obj)} {s : Shared} {σ : L2.St} {H : Hp} {D dd : Addr} {fs : List (Str × V)} (hz : Zc (.ref D) (some dd) oe) (hf : ∃ vs, oe.data = .fields vs) (I : Inv (X.suite a ((a, oe) :: pn)) pins σ H s) (ed : H dd = some (.xd fs)) :
   ∃ od,PySem.W.InstAt s.heap a oe D (some od):=by
 obtain ⟨at_a,_⟩:=I.pin (a,oe) (List.mem_append_left _ List.mem_cons_self)
 obtain ⟨vs,hv⟩:=hf
 have ox : ObjOk X.prog X.w H s.heap dd (.xd fs):=I.hok dd _ ed
 obtain ⟨mA,ns,_⟩:=ox
 obtain ⟨od,ho,_⟩:=lookIn_ns ns
 refine ⟨od,at_a,hz.1,?_,?_⟩
 · unfold PySem.W.notCls
   rw [hv] <;> rfl
 · rw [hz.2]
   exact ho
theorem call_isX (hz : Zc cls d oe) (hf : ∃ vs,oe.data = .fields vs) : CallR (X.suite a ((a,oe) :: pn)) (.builtin "isinstance") (rIsX X.K a cls d):=by
 intro pins s σ H xs us Q I r h
 obtain ⟨D,dd,fs,c,cv,b,rfl,rfl,rfl,ed,C,kc,e,q⟩:=h
 obtain ⟨u1,u2,rfl,r1,r2⟩:=vals2 r
 cases (show u1 = Value.ref a from r1)
 obtain rfl:=kc.eq r2
 obtain ⟨od,J⟩:=inst_x hz hf I ed
 exact PySem.W.kia_one (PySem.W.kitx_exc C.cl C.ga C.gg C.sb C.ca C.gt C.tk C.mr) I.kIn J e (fun z=>nomatch z) fun tk=>⟨.bl b,H,I.tok tk,rfl,q⟩
theorem call_isXT (hz : Zc cls d oe) (hf : ∃ vs,oe.data = .fields vs) : CallR (X.suite a ((a,oe) :: pn)) (.builtin "isinstance") (rIsXT X.K a cls d):=by
 intro pins s σ H xs us Q I r h
 obtain ⟨D,dd,tp,fs,cs,ws,b,rfl,rfl,rfl,ed,C,hT,kc,e,q⟩:=h
 obtain ⟨u1,u2,rfl,r1,r2⟩:=vals2 r
 cases (show u1 = Value.ref a from r1)
 cases (show u2 = Value.ref tp from r2)
 obtain ⟨od,J⟩:=inst_x hz hf I ed
 obtain ⟨_,its,rv,o,h1,h2,n,h3⟩:=(show ObjOk X.prog X.w H s.heap tp (.tup cs) from I.hok tp _ hT)
 obtain rfl:=ClsV.all kc rv
 obtain ⟨oc,od2,dt,sl⟩:=o
 simp only at h2 h3
 subst h2 h3
 exact PySem.W.kia_tup (PySem.W.kitx_exc C.cl C.ga C.gg C.sb C.ca C.gt C.tk C.mr) I.kIn J h1 e (fun z=>nomatch z) fun tk=>⟨.bl b,H,I.tok tk,rfl,q⟩
end
end TB
namespace TB
open PySem PySem.Spec PyProof.Rows L2
theorem gives_neg_bool (a : Bool) : Gives (Builtin.«int.__neg__» ⟨[.bool a],[]⟩) (.int (-(if a = true then (1 : Int) else 0))) :=
 .of_wp fun M A E s Q h=>by
   obtain ⟨hp,g,d,tk,os⟩:=s
   wp_walk
   exact ⟨_,rfl,h⟩
theorem neg_bool {prog : Program} {w : World} {A : Around} {E : Value → Shared → Prop} {s : Shared} {a : Bool} {Q : Value → Shared → Prop} (h : Q (.int (-(if a = true then (1 : Int) else 0)) s.toks) { s with toks := s.toks + 1 }) :
   wpAny (model prog w) A (unaryOp .USub (.bool a)) Q E s :=
 unaryOp_gives (op:=.USub) (typeIs_bool' s a) rfl F.slot_bool_neg F.entry_int_neg (F.args_int_neg_1 _) (gives_neg_bool a) h
/-- the number that stands behind a number or a truth -/
inductive Nm : V → Int → Prop
 | int (i : Int) : Nm (.int i) i
 | bl (b : Bool) : Nm (.bl b) (if b = true then 1 else 0)
def rAddN : R2:=fun x y H Q=>∃ i j,Nm x i ∧ y = .int j ∧ Q (.int (i + j)) H
def rSubN : R2:=fun x y H Q=>∃ i j,Nm x i ∧ y = .int j ∧ Q (.int (i - j)) H
def rNegN : V → Hp → VK → Prop:=fun x H Q=>∃ i,Nm x i ∧ Q (.int (-i)) H
section
variable {X : Cx}
theorem op_addN : OpR X (binaryOp .Add) rAddN:=by
 intro pins s σ H x y v u Q I rx ry h
 obtain ⟨i,j,n,rfl,q⟩:=h
 cases n with
 | int i=>exact op_add pins s σ H _ _ v u Q I rx ry ⟨i,j,rfl,rfl,q⟩
 | bl b =>
   obtain ⟨t,rfl⟩:=ry
   cases (show v = Value.bool b from rx)
   exact PySem.IntBool.add_bool_int ⟨.int _,H,I.tok _,⟨_,rfl⟩,q⟩
theorem op_subN : OpR X (binaryOp .Sub) rSubN:=by
 intro pins s σ H x y v u Q I rx ry h
 obtain ⟨i,j,n,rfl,q⟩:=h
 cases n with
 | int i=>exact op_sub pins s σ H _ _ v u Q I rx ry ⟨i,j,rfl,rfl,q⟩
 | bl b =>
   obtain ⟨t,rfl⟩:=ry
   cases (show v = Value.bool b from rx)
   exact PySem.IntBool.sub_bool_int ⟨.int _,H,I.tok _,⟨_,rfl⟩,q⟩
theorem un_negN : UnR X (unaryOp .USub) rNegN:=by
 intro pins s σ H x v Q I rx h
 obtain ⟨i,n,q⟩:=h
 cases n with
 | int i=>exact un_neg pins s σ H _ v Q I rx ⟨i,rfl,q⟩
 | bl b =>
   cases (show v = Value.bool b from rx)
   exact neg_bool ⟨.int _,H,I.tok _,⟨_,rfl⟩,q⟩
end
end TB
namespace VL
open PySem PySem.Spec PyProof.Rows L2 TB
section
variable {K : PySem.W.Frag} {mg : MG} {E : XK} {β : Bt} {H : Hp} {st : AS} {Q : VK}
/-- the answer is d,the heap as it was -/
theorem Post.here {α ρ : Type} {R : Hp → Bt → α → ρ → Prop} {Q : ρ → Hp → Prop} {d : α} {u : ρ} (h : Post K mg R E β H Q (.ok d st)) (S : Sim K mg β st H) (r : R H β d u) : Q u H:=h β H u (Ext.refl _ _) S r
theorem new_tup {ds : List D} {us : List V} (h : Post K mg (rD K) E β H Q (.ok (.tup ds) st)) (S : Sim K mg β st H) (r : Reps K H β ds us) : ∀ p,H p = none → Q (.ref p) (upd H p (.tup us)):=fun p hp =>
 h β _ (.ref p) (Ext.same (same_upd hp)) (S.same (same_upd hp)) (.tup (S.fresh hp) upd_same (r.ext (Ext.same (same_upd hp))))
/-- a new list: a value,or a thing that may change -/
def mk (c : Bool) (ds : List D) (st : AS) : Out D:=match c with
 | true=>.ok (.ref st.length) (st ++ [.lst ds])
 | false=>.ok (.lst ds) st
@[simp] theorem mk_f (ds : List D) (st : AS) : mk false ds st = .ok (.lst ds) st:=rfl
@[simp] theorem mk_t (ds : List D) (st : AS) : mk true ds st = .ok (.ref st.length) (st ++ [.lst ds]):=rfl
theorem new_lst {c : Bool} {ds : List D} {us : List V} (h : Post K mg (rD K) E β H Q (mk c ds st)) (S : Sim K mg β st H) (r : Reps K H β ds us) : ∀ p,H p = none → Q (.ref p) (upd H p (.lst us)):=fun p hp=>by
 cases c with
 | false=>exact h β _ (.ref p) (Ext.same (same_upd hp)) (S.same (same_upd hp)) (.lst (S.fresh hp) upd_same (r.ext (Ext.same (same_upd hp))))
 | true =>
   have x : Ext β H (β.push p) (upd H p (.lst us)):=ext_push hp
   have S':=S.push (o:=.lst us) (c:=.lst ds) hp ⟨us,upd_same,r.ext x⟩
   exact h _ _ (.ref p) x S' (.ref (by rw [← S.len]; simp [Bt.push]))
end
section
variable {X : Cx} {E : XK} {a b c : Expr} {fa fb fc : En → AS → Out D} {ga gb : En → AS → Out Bool} {pos : Pos} {rest : List Expr}
@[simp] def vAnd (f g : En → AS → Out Bool) (env : En) (st : AS) : Out Bool:=(f env st).bind fun x st=>if x = true then g env st else .ok false st
@[simp] def vOr (f g : En → AS → Out Bool) (env : En) (st : AS) : Out Bool:=(f env st).bind fun x st=>if x = true then .ok true st else g env st
@[simp] def vNot (f : En → AS → Out Bool) (env : En) (st : AS) : Out Bool:=(f env st).bind fun x st=>.ok (!x) st
@[simp] def vAndV (f g : En → AS → Out D) (env : En) (st : AS) : Out D:=(f env st).bind fun x st=>(asB x st).bind fun x st=>if x = true then g env st else .ok (.bl false) st
@[simp] def vOrV (f g : En → AS → Out D) (env : En) (st : AS) : Out D:=(f env st).bind fun x st=>(asB x st).bind fun x st=>if x = true then .ok (.bl true) st else g env st
@[simp] def vNotV (f : En → AS → Out D) (env : En) (st : AS) : Out D:=(f env st).bind fun x st=>(asB x st).bind fun x st=>.ok (.bl (!x)) st
@[simp] def vIfE (t : En → AS → Out Bool) (f g : En → AS → Out D) (env : En) (st : AS) : Out D:=(t env st).bind fun x st=>if x = true then f env st else g env st
theorem vw_and1 (ha : VT X E a ga) : VW X E (.BoolOp .And [a] pos) ga:=pw_and1 ha
theorem vw_or1 (ha : VT X E a ga) : VW X E (.BoolOp .Or [a] pos) ga:=pw_or1 ha
theorem vw_and (ha : VT X E a ga) (hb : VW X E (.BoolOp .And (b :: rest) pos) gb) : VW X E (.BoolOp .And (a :: b :: rest) pos) (vAnd ga gb):=by
 refine weakW (pw_and ha hb) fun σ H Q ⟨β,env,st,he,hs,h⟩=>?_
 refine tG_bind he hs h fun x st1 β1 H1 u x1 s1 e1 r1 h1=>?_
 obtain rfl : x = u:=r1
 cases x with
 | true=>exact ⟨β1,env,st1,e1,s1,h1⟩
 | false=>exact h1.here s1 rfl
theorem vw_or (ha : VT X E a ga) (hb : VW X E (.BoolOp .Or (b :: rest) pos) gb) : VW X E (.BoolOp .Or (a :: b :: rest) pos) (vOr ga gb):=by
 refine weakW (pw_or ha hb) fun σ H Q ⟨β,env,st,he,hs,h⟩=>?_
 refine tG_bind he hs h fun x st1 β1 H1 u x1 s1 e1 r1 h1=>?_
 obtain rfl : x = u:=r1
 cases x with
 | true=>exact h1.here s1 rfl
 | false=>exact ⟨β1,env,st1,e1,s1,h1⟩
theorem vt_not (ha : VT X E a ga) : VT X E (.UnaryOp .Not a pos) (vNot ga):=by
 refine weakT (pt_not ha) fun σ H Q ⟨β,env,st,he,hs,h⟩=>?_
 refine tG_bind he hs h fun x st1 β1 H1 u x1 s1 e1 r1 h1=>?_
 obtain rfl : x = u:=r1
 exact h1.here s1 rfl
theorem vt_val {e : Expr} (h : VE X E e fa) (he : ∀ whole,isTrue e X.env whole = (do let v ← whole; standAt e.pos; holding [v] (truthy v)):=by intro _; rfl) : VT X E e (v1 truD fa):=by
 refine weakT (pt_truth h (he)) fun σ H Q ⟨β,env,st,he,hs,h⟩=>?_
 exact tG_bind he hs h fun x st1 β1 H1 u x1 s1 e1 r1 h1=>truD_ok s1 r1 h1
theorem ve_one {op} (h : VE X E a fa) : VE X E (.BoolOp op [a] pos) fa:=pe_one h
theorem asB_ok {K : PySem.W.Frag} {mg : MG} {β : Bt} {H : Hp} {Q : VK} {d : D} {u : V} {st : AS} {k : Bool → AS → Out D} (r : Rep K H β d u) (h : Post K mg (rD K) E β H Q ((asB d st).bind k)) :
   ∃ c,u = .bl c ∧ Post K mg (rD K) E β H Q (k c st):=by
 cases r with
 | bl b=>exact ⟨b,rfl,h⟩
 | _=>exact h.elim
theorem ve_and (ha : VE X E a fa) (hb : VE X E (.BoolOp .And (b :: rest) pos) fb) : VE X E (.BoolOp .And (a :: b :: rest) pos) (vAndV fa fb):=by
 refine weakE (pe_and ha hb) fun σ H Q ⟨β,env,st,he,hs,h⟩=>?_
 refine tG_bind he hs h fun x st1 β1 H1 u x1 s1 e1 r1 h1=>?_
 obtain ⟨c,rfl,h2⟩:=asB_ok r1 h1
 cases c with
 | true=>exact ⟨true,rfl,β1,env,st1,e1,s1,h2⟩
 | false=>exact ⟨false,rfl,h2.here s1 (.bl false)⟩
theorem ve_ifExp (hc : VT X E c ga) (ha : VE X E a fa) (hb : VE X E b fb) : VE X E (.IfExp c a b pos) (vIfE ga fa fb):=by
 refine weakE (pe_ifExp hc ha hb) fun σ H Q ⟨β,env,st,he,hs,h⟩=>?_
 refine tG_bind he hs h fun x st1 β1 H1 u x1 s1 e1 r1 h1=>?_
 obtain rfl : x = u:=r1
 cases x with
 | true=>exact ⟨β1,env,st1,e1,s1,h1⟩
 | false=>exact ⟨β1,env,st1,e1,s1,h1⟩
@[simp] def gTup (ds : List D) (st : AS) : Out D:=if ds.length ≤ sizeLine then .ok (.tup ds) st else .bad
@[simp] def gLst (c : Bool) (ds : List D) (st : AS) : Out D:=if ds.length ≤ sizeLine then mk c ds st else .bad
theorem Post.ite {α ρ : Type} {K : PySem.W.Frag} {mg : MG} {R : Hp → Bt → α → ρ → Prop} {β : Bt} {H : Hp} {Q : ρ → Hp → Prop} {p : Prop} [Decidable p] {o : Out α} (h : Post K mg R E β H Q (if p then o else .bad)) : p ∧ Post K mg R E β H Q o:=by
 by_cases hp : p
 · rw [if_pos hp] at h
   exact ⟨hp,h⟩
 · rw [if_neg hp] at h
   exact h.elim
variable {es : List Expr} {fs : En → AS → Out (List D)}
theorem ve_tup {x1} (h : VA X E es fs) : VE X E (.Tuple es x1 pos) (vA gTup fs):=by
 refine weakE (pe_tup h) fun σ H Q ⟨β,env,st,he,hs,h⟩=>?_
 refine tG_bind he hs h fun ds st1 β1 H1 us x1 s1 e1 r1 h1=>?_
 obtain ⟨hl,h2⟩:=h1.ite
 exact ⟨by rw [r1.length]; exact hl,new_tup h2 s1 r1⟩
theorem ve_lst (c : Bool) (h : VA X E es fs) : VE X E (.List es pos) (vA (gLst c) fs):=by
 refine weakE (pe_lst h) fun σ H Q ⟨β,env,st,he,hs,h⟩=>?_
 refine tG_bind he hs h fun ds st1 β1 H1 us x1 s1 e1 r1 h1=>?_
 obtain ⟨hl,h2⟩:=h1.ite
 exact ⟨by rw [r1.length]; exact hl,new_lst h2 s1 r1⟩
@[simp] def listW (st : AS) : D → Option (List D)
 | .lst ds=>some ds
 | .ref i=>match st[i]? with
   | some (.lst ds)=>some ds
   | _=>none
 | _=>none
theorem Sim.listsW {K : PySem.W.Frag} {mg : MG} {β : Bt} {H : Hp} {st : AS} (S : Sim K mg β st H) {d : D} {u : V} {ds : List D} (r : Rep K H β d u) (h : listW st d = some ds) : ∃ a us,u = .ref a ∧ H a = some (.lst us) ∧ Reps K H β ds us:=by
 cases r with
 | lst n e q =>
   cases h
   exact ⟨_,_,rfl,e,q⟩
 | ref e =>
   rename_i i a
   unfold listW at h
   dsimp only at h
   split at h
   · rename_i ds' e2
     cases h
     obtain ⟨us,e3,q⟩:=S.cell i a _ e e2
     exact ⟨a,us,rfl,e3,q⟩
   · cases h
 | _=>cases h
@[simp] def addL (c : Bool) (x y : D) (st : AS) : Out D:=match listW st x,listW st y with
 | some a,some b=>if a.length + b.length ≤ sizeLine then mk c (a ++ b) st else .bad
 | _,_=>.bad
@[simp] def addD (c : Bool) (x y : D) (st : AS) : Out D:=match x with
 | .int a=>(match y with | .int b=>.ok (.int (a + b)) st | _=>.bad)
 | .bl a=>(match y with | .int b=>.ok (.int ((if a = true then (1 : Int) else 0) + b)) st | _=>.bad)
 | .str a=>(match y with | .str b=>if a.length + b.length ≤ sizeLine then .ok (.str (a ++ b)) st else .bad | _=>.bad)
 | .tup a=>(match y with | .tup b=>if a.length + b.length ≤ sizeLine then .ok (.tup (a ++ b)) st else .bad | _=>.bad)
 | _=>addL c x y st
theorem add_lists {K : PySem.W.Frag} {mg : MG} {β : Bt} {H : Hp} {st : AS} {Q : VK} {x y : D} {u v : V} {c : Bool} (S : Sim K mg β st H) (rx : Rep K H β x u) (ry : Rep K H β y v)
   (h : Post K mg (rD K) E β H Q (addL c x y st)) : rCat u v H Q:=by
 unfold addL at h
 split at h
 · rename_i a b ea eb
   obtain ⟨l1,us,rfl,e1,r1⟩:=S.listsW rx ea
   obtain ⟨l2,ws,rfl,e2,r2⟩:=S.listsW ry eb
   obtain ⟨hl,h2⟩:=h.ite
   exact ⟨l1,l2,us,ws,rfl,rfl,e1,e2,by rw [r1.length,r2.length]; exact hl,new_lst h2 S (r1.append r2)⟩
 · exact h.elim
theorem ve_add (c : Bool) (ha : VE X E a fa) (hb : VE X E b fb) : VE X E (.BinOp a .Add b pos) (v2 (addD c) fa fb):=by
 refine ve_op (op_addN.or (op_add_str.or (op_catA.or op_cat))) (fun β H st x y u v Q S rx ry h=>?_) ha hb
 unfold addD at h
 cases rx with
 | int i =>
   cases ry with
   | int j=>exact .inl ⟨i,j,.int i,rfl,h.here S (.int _)⟩
   | _=>exact h.elim
 | bl a =>
   cases ry with
   | int j=>exact .inl ⟨_,j,.bl a,rfl,h.here S (.int _)⟩
   | _=>exact h.elim
 | str i =>
   cases ry with
   | str j =>
     obtain ⟨hl,h2⟩:=h.ite
     exact .inr (.inl ⟨i,j,rfl,rfl,hl,h2.here S (.str _)⟩)
   | _=>exact h.elim
 | tup n1 e1 r1 =>
   cases ry with
   | tup n2 e2 r2 =>
     obtain ⟨hl,h2⟩:=h.ite
     refine .inr (.inr (.inl ⟨_,_,_,_,rfl,rfl,.inl (.inl e1),.inl (.inl e2),by rw [r1.length,r2.length]; exact hl,fun z=>?_,fun _ z=>?_,fun _ _=>new_tup h2 S (r1.append r2)⟩))
     · subst z
       cases r1
       exact h2.here S (.tup n2 e2 r2)
     · subst z
       cases r2
       refine h2.here S ?_
       rw [List.append_nil]
       exact .tup n1 e1 r1
   | _=>exact h.elim
 | ctp e r=>exact .inr (.inr (.inr (add_lists S (.ctp e r) ry h)))
 | non=>exact .inr (.inr (.inr (add_lists S .non ry h)))
 | cv b=>exact .inr (.inr (.inr (add_lists S (.cv b) ry h)))
 | lst n e r=>exact .inr (.inr (.inr (add_lists S (.lst n e r) ry h)))
 | fzl e r=>exact .inr (.inr (.inr (add_lists S (.fzl e r) ry h)))
 | ref e=>exact .inr (.inr (.inr (add_lists S (.ref e) ry h)))
@[simp] def iiD (f : Int → Int → D) (x y : D) (st : AS) : Out D:=match x,y with
 | .int a,.int b=>.ok (f a b) st
 | _,_=>.bad
theorem ii_ok {K : PySem.W.Frag} {mg : MG} {β : Bt} {H : Hp} {st : AS} {Q : VK} {x y : D} {u v : V} {f : Int → Int → D} (rx : Rep K H β x u) (ry : Rep K H β y v) (h : Post K mg (rD K) E β H Q (iiD f x y st)) :
   ∃ i j,u = .int i ∧ v = .int j ∧ Post K mg (rD K) E β H Q (.ok (f i j) st):=by
 cases rx with
 | int i =>
   cases ry with
   | int j=>exact ⟨i,j,rfl,rfl,h⟩
   | _=>exact h.elim
 | _=>exact h.elim
@[simp] def subD (x y : D) (st : AS) : Out D:=match x with
 | .bl a=>(match y with | .int b=>.ok (.int ((if a = true then (1 : Int) else 0) - b)) st | _=>.bad)
 | .int a=>(match y with | .int b=>.ok (.int (a - b)) st | _=>.bad)
 | _=>.bad
theorem ve_sub (ha : VE X E a fa) (hb : VE X E b fb) : VE X E (.BinOp a .Sub b pos) (v2 subD fa fb) :=
 ve_op op_subN (fun β H st x y u v Q S rx ry h=>by
   unfold subD at h
   cases rx with
   | int i =>
     cases ry with
     | int j=>exact ⟨i,j,.int i,rfl,h.here S (.int _)⟩
     | _=>exact h.elim
   | bl a =>
     cases ry with
     | int j=>exact ⟨_,j,.bl a,rfl,h.here S (.int _)⟩
     | _=>exact h.elim
   | _=>exact h.elim) ha hb
def MulOk (i j : Int) : Prop:=CMul i j ∨ CMulW i j
instance : ∀ a b,Decidable (CMul a b):=fun a b=>inferInstanceAs (Decidable (_ ∨ _))
instance : ∀ a b,Decidable (CMulW a b):=fun a b=>inferInstanceAs (Decidable (_ < _))
instance : ∀ a b,Decidable (MulOk a b):=fun a b=>inferInstanceAs (Decidable (_ ∨ _))
@[simp] def mulL (c : Bool) (x y : D) (st : AS) : Out D:=match listW st x with
 | some a=>(match y with | .int k=>if -(2 ^ 63) ≤ k ∧ k < 2 ^ 63 ∧ a.length * k.toNat ≤ sizeLine then mk c (List.replicate k.toNat a).flatten st else .bad | _=>.bad)
 | _=>.bad
instance : ∀ (a : Str) (n : Int),Decidable (PySem.MulOk a n):=fun a n=>inferInstanceAs (Decidable (_ ∧ _))
/-- a text times a number -/
theorem op_mulS : OpR X (binaryOp .Mult) (fun x y H Q=>∃ z n,x = .str z ∧ y = .int n ∧ PySem.MulOk z n ∧ Q (.str (Txt.mul z n)) H):=by
 intro pins s σ H x y v u Q I rx ry h
 obtain ⟨z,n,rfl,rfl,hz,q⟩:=h
 obtain ⟨t,rfl⟩:=rx
 obtain ⟨t',rfl⟩:=ry
 exact PySem.SB.mul hz fun t' k=>⟨.str (Txt.mul z n),H,I.tok _,⟨_,rfl⟩,q⟩
@[simp] def mulD (c : Bool) (x y : D) (st : AS) : Out D:=match x with
 | .int a=>(match y with | .int b=>if MulOk a b then .ok (.int (a * b)) st else .bad | _=>.bad)
 | .tup a=>(match y with | .int k=>if a ≠ [] ∧ 2 ≤ k ∧ k ≤ 1000 ∧ a.length ≤ 1000 then .ok (.tup (List.replicate k.toNat a).flatten) st else .bad | _=>.bad)
 | .str a=>(match y with | .int k=>if PySem.MulOk a k then .ok (.str (Txt.mul a k)) st else .bad | _=>.bad)
 | _=>mulL c x y st
theorem Reps.rep {K : PySem.W.Frag} {β : Bt} {H : Hp} {ds : List D} {us : List V} (r : Reps K H β ds us) : ∀ k : Nat,Reps K H β (List.replicate k ds).flatten (List.replicate k us).flatten
 | 0=>.nil
 | k + 1=>by
   rw [List.replicate_succ,List.replicate_succ,List.flatten_cons,List.flatten_cons]
   exact r.append (Reps.rep r k)
theorem ne_nil {K : PySem.W.Frag} {β : Bt} {H : Hp} {ds : List D} {us : List V} (r : Reps K H β ds us) (h : ds ≠ []) : us ≠ []:=by
 cases r with
 | nil=>exact absurd rfl h
 | cons _ _=>exact fun z=>nomatch z
theorem ve_mul (c : Bool) (ha : VE X E a fa) (hb : VE X E b fb) : VE X E (.BinOp a .Mult b pos) (v2 (mulD c) fa fb):=by
 refine ve_op (op_mul.or (op_mulW.or (op_repT.or (op_rep.or op_mulS)))) (fun β H st x y u v Q S rx ry h=>?_) ha hb
 have lists : ∀ {x : D} {u : V},Rep X.K H β x u → Post X.K X.mgw (rD X.K) E β H Q (mulL c x y st) → rRep u v H Q:=by
   intro x u rx h
   unfold mulL at h
   split at h
   · rename_i a ea
     obtain ⟨l1,us,rfl,e1,r1⟩:=S.listsW rx ea
     cases ry with
     | int k =>
       obtain ⟨⟨h1,h2,h3⟩,h⟩:=h.ite
       exact ⟨l1,k,us,rfl,rfl,e1,h1,h2,by rw [r1.length]; exact h3,new_lst h S (r1.rep _)⟩
     | _=>exact h.elim
   · exact h.elim
 unfold mulD at h
 cases rx with
 | int i =>
   cases ry with
   | int j =>
     obtain ⟨hl,h2⟩:=h.ite
     rcases hl with hl | hl
     · exact .inl ⟨i,j,rfl,rfl,hl,h2.here S (.int _)⟩
     · exact .inr (.inl ⟨i,j,rfl,rfl,hl,h2.here S (.int _)⟩)
   | _=>exact h.elim
 | ctp e r=>exact .inr (.inr (.inr (.inl (lists (.ctp e r) h))))
 | tup n1 e1 r1 =>
   cases ry with
   | int k =>
     obtain ⟨⟨h0,h1,h2,h3⟩,h⟩:=h.ite
     exact .inr (.inr (.inl ⟨_,k,_,rfl,rfl,.inl (.inl e1),ne_nil r1 h0,h1,h2,by rw [r1.length]; exact h3,new_tup h S (r1.rep _)⟩))
   | _=>exact h.elim
 | non=>exact .inr (.inr (.inr (.inl (lists .non h))))
 | str z =>
   cases ry with
   | int k =>
     obtain ⟨hl,h⟩:=h.ite
     exact .inr (.inr (.inr (.inr ⟨z,k,rfl,rfl,hl,h.here S (.str _)⟩)))
   | _=>exact h.elim
 | bl b=>exact .inr (.inr (.inr (.inl (lists (.bl b) h))))
 | cv b=>exact .inr (.inr (.inr (.inl (lists (.cv b) h))))
 | lst n e r=>exact .inr (.inr (.inr (.inl (lists (.lst n e r) h))))
 | fzl e r=>exact .inr (.inr (.inr (.inl (lists (.fzl e r) h))))
 | ref e=>exact .inr (.inr (.inr (.inl (lists (.ref e) h))))
@[simp] def iicD (p : Int → Int → Prop) [∀ a b,Decidable (p a b)] (f : Int → Int → D) (x y : D) (st : AS) : Out D:=match x,y with
 | .int a,.int b=>if p a b then .ok (f a b) st else .bad
 | _,_=>.bad
theorem iic_ok {p : Int → Int → Prop} [∀ a b, Decidable (p a b)] {K : PySem.W.Frag} {mg : MG} {β : Bt} {H : Hp} {st : AS} {Q : VK} {x y : D} {u v : V} {f : Int → Int → D} (rx : Rep K H β x u) (ry : Rep K H β y v) (h : Post K mg (rD K) E β H Q (iicD p f x y st)) :
   ∃ i j,u = .int i ∧ v = .int j ∧ p i j ∧ Post K mg (rD K) E β H Q (.ok (f i j) st):=by
 cases rx with
 | int i =>
   cases ry with
   | int j=>exact ⟨i,j,rfl,rfl,h.ite⟩
   | _=>exact h.elim
 | _=>exact h.elim
instance : ∀ a b,Decidable (CDivW a b):=fun a b=>inferInstanceAs (Decidable (_ ∧ _))
instance : ∀ a b,Decidable (CPow a b):=fun a b=>inferInstanceAs (Decidable (_ ∧ _))
@[simp] def fdivD (x y : D) (st : AS) : Out D:=iicD CDivW (fun a b=>.int (a / b)) x y st
@[simp] def modD (x y : D) (st : AS) : Out D:=iicD (fun _ b=>0 < b) (fun a b=>.int (a % b)) x y st
@[simp] def powD (x y : D) (st : AS) : Out D:=iicD CPow (fun a b=>.int (a ^ b.toNat)) x y st
theorem ve_fdiv (ha : VE X E a fa) (hb : VE X E b fb) : VE X E (.BinOp a .FloorDiv b pos) (v2 fdivD fa fb) :=
 ve_op op_fdivW (fun β H st x y u v Q S rx ry h=>by
   obtain ⟨i,j,rfl,rfl,hp,h⟩:=iic_ok rx ry h
   exact ⟨i,j,rfl,rfl,hp,h.here S (.int _)⟩) ha hb
theorem ve_mod (ha : VE X E a fa) (hb : VE X E b fb) : VE X E (.BinOp a .Mod b pos) (v2 modD fa fb) :=
 ve_op op_mod (fun β H st x y u v Q S rx ry h=>by
   obtain ⟨i,j,rfl,rfl,hp,h⟩:=iic_ok rx ry h
   exact ⟨i,j,rfl,rfl,hp,h.here S (.int _)⟩) ha hb
theorem ve_pow (ha : VE X E a fa) (hb : VE X E b fb) : VE X E (.BinOp a .Pow b pos) (v2 powD fa fb) :=
 ve_op op_pow (fun β H st x y u v Q S rx ry h=>by
   obtain ⟨i,j,rfl,rfl,hp,h⟩:=iic_ok rx ry h
   exact ⟨i,j,rfl,rfl,hp,h.here S (.int _)⟩) ha hb
@[simp] def negD (x : D) (st : AS) : Out D:=match x with
 | .int a=>.ok (.int (-a)) st
 | .bl a=>.ok (.int (-(if a = true then (1 : Int) else 0))) st
 | _=>.bad
theorem ve_neg (ha : VE X E a fa) : VE X E (.UnaryOp .USub a pos) (v1 negD fa) :=
 ve_un un_negN (fun β H st x u Q S r h=>by
   cases r with
   | int i=>exact ⟨i,.int i,h.here S (.int _)⟩
   | bl b=>exact ⟨_,.bl b,h.here S (.int _)⟩
   | _=>exact h.elim) ha
end
end VL
namespace VL
open PySem PySem.Spec PyProof.Rows L2 TB
mutual
def D.pure : D → Bool
 | .tup ds=>D.pures ds
 | .ctp ds=>D.pures ds
 | .lst ds=>D.pures ds
 | .fzl _=>false
 | .ref _=>false
 | .cv _=>false
 | _=>true
def D.pures : List D → Bool
 | []=>true
 | d :: ds=>d.pure && D.pures ds
end
mutual
def D.py : D → PyData
 | .non=>.none
 | .bl b=>.bool b
 | .int i=>.int i
 | .str x=>.str x
 | .tup ds=>.tuple (D.pys ds)
 | .ctp ds=>.tuple (D.pys ds)
 | .lst ds=>.list (D.pys ds)
 | .fzl _=>.none
 | .ref _=>.none
 | .cv _=>.none
def D.pys : List D → List PyData
 | []=>[]
 | d :: ds=>d.py :: D.pys ds
end
theorem D.pures_eq : ∀ ds : List D,D.pures ds = ds.all D.pure
 | []=>rfl
 | d :: ds=>by rw [D.pures,D.pures_eq ds,List.all_cons]
theorem D.pys_eq : ∀ ds : List D,D.pys ds = ds.map D.py
 | []=>rfl
 | d :: ds=>by rw [D.pys,D.pys_eq ds,List.map_cons]
mutual
theorem Rep.dp {K : PySem.W.Frag} {H : Hp} {β : Bt} : ∀ {d : D} {u : V},Rep K H β d u → d.pure = true → Dp K H u d.py
 | _,_,.non,_=>by rw [D.py]; exact .non
 | _,_,.bl b,_=>by rw [D.py]; exact .bl b
 | _,_,.int i,_=>by rw [D.py]; exact .int i
 | _,_,.str x,_=>by rw [D.py]; exact .str x
 | _,_,.cv v,h=>by rw [D.pure] at h; cases h
 | _,_,.ref e,h=>by rw [D.pure] at h; cases h
 | _,_,.tup n e r,h=>by
   rw [D.pure] at h
   rw [D.py]
   exact .tup (.inl (.inl e)) (Reps.dps r h)
 | _,_,.ctp e r,h=>by
   rw [D.pure] at h
   rw [D.py]
   exact .tup e.sq (Reps.dps r h)
 | _,_,.lst n e r,h=>by
   rw [D.pure] at h
   rw [D.py]
   exact .lst (.inl (.inl e)) (Reps.dps r h)
 | _,_,.fzl e r,h=>by rw [D.pure] at h; cases h
theorem Reps.dps {K : PySem.W.Frag} {H : Hp} {β : Bt} : ∀ {ds : List D} {us : List V},Reps K H β ds us → D.pures ds = true → DpAll K H us (D.pys ds)
 | _,_,.nil,_=>by rw [D.pys]; exact .nil
 | _,_,.cons r t,h=>by
   rw [D.pures,Bool.and_eq_true] at h
   rw [D.pys]
   exact .cons (Rep.dp r h.1) (Reps.dps t h.2)
end
/-- plain data that == and repr may look at -/
def D.fit (d : D) : Bool:=d.pure && SeqAt.shaped d.py
/-- a list that may change,by what it holds -/
@[simp] def valD (st : AS) (d : D) : D:=match d with
 | .ref i=>(match st[i]? with
   | some (.lst ds)=>.lst ds
   | _=>.ref i)
 | _=>d
section
variable {K : PySem.W.Frag} {mg : MG} {E : XK} {β : Bt} {H : Hp} {st : AS} {Q : VK}
theorem Sim.dp (S : Sim K mg β st H) {d : D} {u : V} (r : Rep K H β d u) (h : (valD st d).pure = true) : Dp K H u (valD st d).py:=by
 cases r with
 | ref e =>
   rename_i i a
   unfold valD at h ⊢
   dsimp only at h ⊢
   split at h
   · rename_i ds e2
     obtain ⟨us,e3,q⟩:=S.cell i a _ e e2
     rw [D.pure] at h
     rw [D.py]
     exact .lst (.inl (.inl e3)) (q.dps h)
   · rw [D.pure] at h
     cases h
 | non=>exact Rep.dp (β:=β) .non h
 | bl b=>exact Rep.dp (β:=β) (.bl b) h
 | int i=>exact Rep.dp (β:=β) (.int i) h
 | str x=>exact Rep.dp (β:=β) (.str x) h
 | cv q=>exact Rep.dp (β:=β) (.cv q) h
 | tup n e r=>exact Rep.dp (.tup n e r) h
 | ctp e r=>exact Rep.dp (.ctp e r) h
 | lst n e r=>exact Rep.dp (.lst n e r) h
 | fzl e r=>exact Rep.dp (.fzl e r) h
end
def scalD : D → Bool
 | .non=>true
 | .bl _=>true
 | .int _=>true
 | .str _=>true
 | _=>false
def eqvD (x y : D) : Bool:=PyData.eqv x.py y.py
def eqD (neg : Bool) (x y : D) (st : AS) : Out D :=
 if (scalD x && scalD y) = true then .ok (.bl (xor neg (eqvD x y))) st
 else if ((valD st x).fit && (valD st y).fit) = true then .ok (.bl (xor neg (eqvD (valD st x) (valD st y)))) st else .bad
section
variable {X : Cx} {E : XK} {a b c : Expr} {fa fb fc : En → AS → Out D} {pos : Pos}
theorem fit_dp {K : PySem.W.Frag} {mg : MG} {β : Bt} {H : Hp} {st : AS} (S : Sim K mg β st H) {d : D} {u : V} (r : Rep K H β d u) (h : (valD st d).fit = true) : Dp K H u (valD st d).py ∧ SeqAt.shaped (valD st d).py = true:=by
 unfold D.fit at h
 rw [Bool.and_eq_true] at h
 exact ⟨S.dp r h.1,h.2⟩
theorem eq_ok {K : PySem.W.Frag} {mg : MG} {β : Bt} {H : Hp} {st : AS} {Q : VK} {x y : D} {u v : V} (S : Sim K mg β st H) (rx : Rep K H β x u) (ry : Rep K H β y v) (h : Post K mg (rD K) E β H Q (eqD false x y st)) : rEq u v H Q ∨ rEqD K u v H Q:=by
 unfold eqD at h
 split at h
 · rename_i e
   have q:=h.here S (.bl _)
   rw [Bool.and_eq_true] at e
   cases rx <;> first | (cases e.1; done) | (cases ry <;> first | (cases e.2; done) | (refine Or.inl ⟨rfl,?_⟩; simpa [eqvD,D.py,PyData.eqv,Bool.beq_eq_decide_eq] using q) | (refine Or.inr ⟨.bool _,.int _,.bl _,.int _,rfl,rfl,?_⟩; simpa [eqvD,D.py] using q) | (refine Or.inr ⟨.int _,.bool _,.int _,.bl _,rfl,rfl,?_⟩; simpa [eqvD,D.py] using q))
 · obtain ⟨e,h⟩:=h.ite
   rw [Bool.and_eq_true] at e
   obtain ⟨d1,s1⟩:=fit_dp S rx e.1
   obtain ⟨d2,s2⟩:=fit_dp S ry e.2
   refine .inr ⟨_,_,d1,d2,s1,s2,?_⟩
   have q:=h.here S (.bl _)
   simpa [eqvD] using q
theorem ne_ok {K : PySem.W.Frag} {mg : MG} {β : Bt} {H : Hp} {st : AS} {Q : VK} {x y : D} {u v : V} (S : Sim K mg β st H) (rx : Rep K H β x u) (ry : Rep K H β y v) (h : Post K mg (rD K) E β H Q (eqD true x y st)) : rNe u v H Q ∨ rNeD K u v H Q:=by
 unfold eqD at h
 split at h
 · rename_i e
   have q:=h.here S (.bl _)
   rw [Bool.and_eq_true] at e
   cases rx <;> first | (cases e.1; done) | (cases ry <;> first | (cases e.2; done) | (refine Or.inl ⟨rfl,?_⟩; simpa [eqvD,D.py,PyData.eqv,Bool.beq_eq_decide_eq] using q) | (refine Or.inr ⟨.bool _,.int _,.bl _,.int _,rfl,rfl,?_⟩; simpa [eqvD,D.py] using q) | (refine Or.inr ⟨.int _,.bool _,.int _,.bl _,rfl,rfl,?_⟩; simpa [eqvD,D.py] using q))
 · obtain ⟨e,h⟩:=h.ite
   rw [Bool.and_eq_true] at e
   obtain ⟨d1,s1⟩:=fit_dp S rx e.1
   obtain ⟨d2,s2⟩:=fit_dp S ry e.2
   refine .inr ⟨_,_,d1,d2,s1,s2,?_⟩
   have q:=h.here S (.bl _)
   simpa [eqvD] using q
variable (hu : X.A.units + 65 < cLine)
include hu
end
def intsOf : List D → Option (List Int)
 | []=>some []
 | .int i :: ds=>(intsOf ds).map (i :: ·)
 | _ :: _=>none
theorem intsOf_eq : ∀ {ds : List D} {ns : List Int},intsOf ds = some ns → ds = ns.map D.int
 | [],ns,h=>by
   rw [intsOf] at h
   cases h
   rfl
 | .int i :: ds,ns,h=>by
   rw [intsOf] at h
   cases e : intsOf ds with
   | none=>rw [e] at h; cases h
   | some ms =>
     rw [e] at h
     cases h
     rw [intsOf_eq e]
     rfl
 | .non :: _,_,h=>by simp [intsOf] at h
 | .bl _ :: _,_,h=>by simp [intsOf] at h
 | .str _ :: _,_,h=>by simp [intsOf] at h
 | .tup _ :: _,_,h=>by simp [intsOf] at h
 | .ctp _ :: _,_,h=>by simp [intsOf] at h
 | .lst _ :: _,_,h=>by simp [intsOf] at h
 | .fzl _ :: _,_,h=>by simp [intsOf] at h
 | .ref _ :: _,_,h=>by simp [intsOf] at h
 | .cv _ :: _,_,h=>by simp [intsOf] at h
theorem Reps.ints {K : PySem.W.Frag} {H : Hp} {β : Bt} : ∀ {ns : List Int} {us : List V},Reps K H β (ns.map D.int) us → us = ns.map V.int
 | [],_,.nil=>rfl
 | n :: ns,_,.cons r t=>by
   cases r
   rw [Reps.ints t]
   rfl
theorem reps_ints {K : PySem.W.Frag} {H : Hp} {β : Bt} : ∀ ns : List Int,Reps K H β (ns.map D.int) (ns.map V.int)
 | []=>.nil
 | n :: ns=>.cons (.int n) (reps_ints ns)
def ltStr (a b : Str) : Bool:=decide (a.cps.toList < b.cps.toList)
def leT (ns ms : List Int) : Bool:=Ob.lexAt (fun j=>decide (ns.getD j 0 = ms.getD j 0)) (fun j=>decide (ns.getD j 0 ≤ ms.getD j 0)) (decide (ns.length ≤ ms.length)) 0 (min ns.length ms.length)
@[simp] def ordD (fi : Int → Int → Bool) (fs : Str → Str → Bool) (ft : List Int → List Int → Option Bool) (x y : D) (st : AS) : Out D:=match x,y with
 | .int a,.int b=>.ok (.bl (fi a b)) st
 | .str a,.str b=>.ok (.bl (fs a b)) st
 | .tup a,.tup b=>(match intsOf a,intsOf b with
   | some n,some m=>(match ft n m with | some k=>.ok (.bl k) st | none=>.bad)
   | _,_=>.bad)
 | _,_=>.bad
@[simp] def ltD (x y : D) (st : AS) : Out D:=ordD (fun a b=>decide (a < b)) ltStr (fun n m=>some (HT.lexLt n m)) x y st
@[simp] def leD (x y : D) (st : AS) : Out D:=ordD (fun a b=>decide (a ≤ b)) (fun a b=>!ltStr b a) (fun n m=>some (leT n m)) x y st
@[simp] def gtD (x y : D) (st : AS) : Out D:=ordD (fun a b=>decide (b < a)) (fun a b=>ltStr b a) (fun _ _=>none) x y st
@[simp] def geD (x y : D) (st : AS) : Out D:=ordD (fun a b=>decide (b ≤ a)) (fun a b=>!ltStr a b) (fun _ _=>none) x y st
theorem ord_ok {K : PySem.W.Frag} {mg : MG} {E : XK} {β : Bt} {H : Hp} {st : AS} {Q : VK} {x y : D} {u v : V} {fi : Int → Int → Bool} {fs : Str → Str → Bool} {ft : List Int → List Int → Option Bool} (S : Sim K mg β st H) (rx : Rep K H β x u) (ry : Rep K H β y v) (h : Post K mg (rD K) E β H Q (ordD fi fs ft x y st)) :
   (∃ i j,u = .int i ∧ v = .int j ∧ Q (.bl (fi i j)) H) ∨ (∃ i j,u = .str i ∧ v = .str j ∧ Q (.bl (fs i j)) H) ∨ ∃ a b ns ms k,u = .ref a ∧ v = .ref b ∧ SqT K H a (ns.map V.int) ∧ SqT K H b (ms.map V.int) ∧ ft ns ms = some k ∧ Q (.bl k) H:=by
 cases rx with
 | int i =>
   cases ry with
   | int j=>exact .inl ⟨i,j,rfl,rfl,h.here S (.bl _)⟩
   | _=>exact h.elim
 | str i =>
   cases ry with
   | str j=>exact .inr (.inl ⟨i,j,rfl,rfl,h.here S (.bl _)⟩)
   | _=>exact h.elim
 | tup n1 e1 r1 =>
   cases ry with
   | tup n2 e2 r2 =>
     unfold ordD at h
     dsimp only at h
     split at h
     · rename_i n m en em
       split at h
       · rename_i k ek
         have z1:=intsOf_eq en
         have z2:=intsOf_eq em
         subst z1
         subst z2
         have w1:=r1.ints
         have w2:=r2.ints
         subst w1
         subst w2
         exact .inr (.inr ⟨_,_,n,m,k,rfl,rfl,.inl (.inl e1),.inl (.inl e2),ek,h.here S (.bl _)⟩)
       · exact h.elim
     · exact h.elim
   | _=>exact h.elim
 | _=>exact h.elim
section
variable {X : Cx} {E : XK} {a b c : Expr} {fa fb fc : En → AS → Out D} {pos : Pos}
def OkC (X : Cx) (E : XK) (op : CmpOp) (g : D → D → AS → Out D) : Prop:=∃ r,OpR X (compareOp op) r ∧ Ok2 X.K X.mgw E r g
theorem OkC.ve {op : CmpOp} {g : D → D → AS → Out D} (h : OkC X E op g) (ha : VE X E a fa) (hb : VE X E b fb) (hm : behindInMarks op b = false) : VE X E (.Compare a [op] [b] pos) (v2 g fa fb):=by
 obtain ⟨r,h1,h2⟩:=h
 exact ve_cmp h1 h2 ha hb hm
theorem OkC.vt {op : CmpOp} {g : D → D → AS → Out D} (h : OkC X E op g) (ha : VE X E a fa) (hb : VE X E b fb) (hm : behindInMarks op b = false) : VT X E (.Compare a [op] [b] pos) (vB (v2 g fa fb)):=by
 obtain ⟨r,h1,h2⟩:=h
 exact vt_cmp h1 h2 ha hb hm
theorem oc_lt (hu : X.A.units + 65 < cLine) : OkC X E .Lt ltD:=⟨_,op_lt.or (op_lt_str.or (op_ltT (Nat.lt_of_le_of_lt (by omega) hu))),fun β H st x y u v Q S rx ry h=>by
 rcases ord_ok S rx ry h with ⟨i,j,rfl,rfl,q⟩ | ⟨i,j,rfl,rfl,q⟩ | ⟨p,q',ns,ms,k,rfl,rfl,h1,h2,e,q⟩
 · exact .inl ⟨i,j,rfl,rfl,q⟩
 · exact .inr (.inl ⟨i,j,rfl,rfl,q⟩)
 · cases e
   exact .inr (.inr ⟨p,q',ns,ms,rfl,rfl,h1,h2,q⟩)⟩
theorem oc_gt : OkC X E .Gt gtD:=⟨_,op_gt.or op_gt_str,fun β H st x y u v Q S rx ry h=>by
 rcases ord_ok S rx ry h with ⟨i,j,rfl,rfl,q⟩ | ⟨i,j,rfl,rfl,q⟩ | ⟨p,q',ns,ms,k,rfl,rfl,h1,h2,e,q⟩
 · exact .inl ⟨i,j,rfl,rfl,q⟩
 · exact .inr ⟨i,j,rfl,rfl,q⟩
 · cases e⟩
theorem oc_ge : OkC X E .GtE geD:=⟨_,op_ge.or op_ge_str,fun β H st x y u v Q S rx ry h=>by
 rcases ord_ok S rx ry h with ⟨i,j,rfl,rfl,q⟩ | ⟨i,j,rfl,rfl,q⟩ | ⟨p,q',ns,ms,k,rfl,rfl,h1,h2,e,q⟩
 · exact .inl ⟨i,j,rfl,rfl,q⟩
 · exact .inr ⟨i,j,rfl,rfl,q⟩
 · cases e⟩
theorem oc_le (hu : X.A.units + 65 < cLine) : OkC X E .LtE leD:=⟨_,op_le.or (op_le_str.or (op_leT (Nat.lt_of_le_of_lt (by omega) hu))),fun β H st x y u v Q S rx ry h=>by
 rcases ord_ok S rx ry h with ⟨i,j,rfl,rfl,q⟩ | ⟨i,j,rfl,rfl,q⟩ | ⟨p,q',ns,ms,k,rfl,rfl,h1,h2,e,q⟩
 · exact .inl ⟨i,j,rfl,rfl,q⟩
 · exact .inr (.inl ⟨i,j,rfl,rfl,q⟩)
 · cases e
   exact .inr (.inr ⟨p,q',ns,ms,rfl,rfl,h1,h2,q⟩)⟩
theorem oc_eq (hu : X.A.units + 65 < cLine) : OkC X E .Eq (eqD false):=⟨_,op_eq.or (op_eqD (Nat.lt_of_le_of_lt (by omega) hu)),fun _ _ _ _ _ _ _ _ S rx ry h=>eq_ok S rx ry h⟩
theorem oc_ne (hu : X.A.units + 65 < cLine) : OkC X E .NotEq (eqD true):=⟨_,op_ne.or (op_neD (Nat.lt_of_le_of_lt (by omega) hu)),fun _ _ _ _ _ _ _ _ S rx ry h=>ne_ok S rx ry h⟩
/-- is None,is True,is not .. -/
@[simp] def isND (neg : Bool) (x y : D) (st : AS) : Out D:=match y with
 | .non=>(match x with
   | .cv _=>.bad
   | .non=>.ok (.bl (!neg)) st
   | _=>.ok (.bl neg) st)
 | .bl b=>(match x with
   | .cv _=>.bad
   | .bl a=>.ok (.bl (xor neg (decide (a = b)))) st
   | _=>.ok (.bl neg) st)
 | _=>.bad
/-- a op b op' c -/
@[simp] def vChain (g g' : D → D → AS → Out D) (fa fb fc : En → AS → Out D) (env : En) (st : AS) : Out D:=(fa env st).bind fun x st=>(fb env st).bind fun y st=>(g x y st).bind fun z st=>(asB z st).bind fun k st =>
 if k = true then (fc env st).bind fun w st=>g' y w st else .ok (.bl false) st
end
end VL
namespace TB
open PySem PySem.Spec PyProof.Rows L2
end TB
namespace TB
open PySem PySem.Spec PyProof.Rows L2 PySem.AutoSeq1
set_option maxRecDepth 8000 in
theorem ext_tup (l t : Addr) (xs ys : Array Value) (n m : Nat) (dd : Option Addr) (sl : Array (Option Value)) (c0 : ¬(!xs.isEmpty && Builtin.List.listTooLong (xs.size + ys.size)) = true) (c1 : xs.size ≤ sizeLine) (c2 : xs.size + ys.size ≤ sizeLine + 1) :
   Meets (Builtin.«list.extend» ⟨[.ref l,.ref t],[]⟩) (fun _ R s=>s.heap.get? l = some { cls:=.type "list",dict:=none,data:=.seq xs n,slots:=#[] } ∧ s.heap.get? t = some { cls:=.type "tuple",dict:=dd,data:=.seq ys m,slots:=sl } ∧ R (.ok (.ret Value.none)) { s with heap:=s.heap.update l (Obj.mapSeq fun x=>x ++ ys),toks:=s.toks }) :=
 .of_wp fun prog w A R s h=>by
   obtain ⟨hp,g,d,tk,os⟩:=s
   obtain ⟨a1,a2,h⟩:=h
   have f1:=idx_int
   have f2:=AutoSeq1.sub_tuple_tuple
   have f3:=AutoSeq1.sub_list_list
   have f4:=AutoSeq1.sub_tuple_list
   have f5:=AutoSeq1.sub_list_tuple
   have z' : (xs ++ ys).size ≤ sizeLine + 1:=by rw [Array.size_append]; exact c2
   wp_walk using (wpAny_updateSeq a1 rfl (hz:=c1) (_hz':=z')),wpAny_loadPart' a1,wpAny_loadPart' a2
   exact ⟨_,rfl,h⟩
section
variable {X : Cx}
def rExtT (K : PySem.W.Frag) : V → List V → Hp → VK → Prop:=fun x vs H Q=>∃ l t xs zs,x = .ref l ∧ vs = [.ref t] ∧ H l = some (.lst xs) ∧ SqT K H t zs ∧ xs.length + zs.length ≤ sizeLine ∧ Q .non (upd H l (.lst (xs ++ zs)))
theorem mt_extendT : MtM X "list.extend" (rExtT X.K):=by
 intro pins s σ H x vs v us Q I rx rv h
 obtain ⟨l,t,xs,zs,rfl,rfl,hH,hB,hz,q⟩:=h
 cases rx
 obtain ⟨u,rfl,ru⟩:=rv.one
 cases ru
 obtain ⟨z,its,n,r,hl,e⟩:=I.lstM hH
 obtain ⟨its2,r2,⟨o2,e2,k2,n2,d2⟩,z2⟩:=I.tuple hB
 obtain ⟨oc,od,oda,osl⟩:=o2
 cases k2
 cases d2
 have l2:=r2.length
 have fits : its.toArray.size + its2.toArray.size ≤ sizeLine:=by
   rw [List.size_toArray,List.size_toArray]
   omega
 have short : ¬ (!its.toArray.isEmpty && Builtin.List.listTooLong (its.toArray.size + its2.toArray.size)) = true:=fun y=>by
   rw [notLongL fits,Bool.and_false] at y
   cases y
 refine call_meets F.slot_list_extend ⟨_,e,rfl⟩ F.entry_list_extend (F.args_list_extend_2 _ _) (ext_tup l t its.toArray its2.toArray n n2 _ _ short (by rw [List.size_toArray]; omega) (by omega)) ⟨e,e2,?_⟩
 refine ⟨.non,_,I.lset (its':=its ++ its2) hH e (by simp) (r.append r2) ?_,rfl,q⟩
 rw [List.length_append]
 omega
end
end TB
namespace VL
open PySem PySem.Spec PyProof.Rows L2 TB
/-- what a list or a tuple holds -/
@[simp] def seqOf (st : AS) (d : D) : Option (List D):=match d with
 | .tup ds=>some ds
 | .ctp ds=>some ds
 | _=>listOf st d
section
variable {K : PySem.W.Frag} {mg : MG} {E : XK} {β : Bt} {H : Hp} {st : AS} {Q : VK}
theorem Sim.seqs (S : Sim K mg β st H) {d : D} {u : V} {ds : List D} (r : Rep K H β d u) (h : seqOf st d = some ds) : ∃ a us,u = .ref a ∧ (SqL K H a us ∨ SqT K H a us) ∧ Reps K H β ds us:=by
 cases r with
 | tup n e q =>
   cases h
   exact ⟨_,_,rfl,.inr (.inl (.inl e)),q⟩
 | ctp e q =>
   cases h
   exact ⟨_,_,rfl,.inr e.sq,q⟩
 | non=>cases h
 | bl b=>cases h
 | int b=>cases h
 | str b=>cases h
 | cv=>cases h
 | lst n e q =>
   obtain ⟨a,us,e1,e2,e3⟩:=S.lists (.lst n e q) h
   exact ⟨a,us,e1,.inl e2,e3⟩
 | fzl e q =>
   obtain ⟨a,us,e1,e2,e3⟩:=S.lists (.fzl e q) h
   exact ⟨a,us,e1,.inl e2,e3⟩
 | ref e =>
   obtain ⟨a,us,e1,e2,e3⟩:=S.lists (.ref e) h
   exact ⟨a,us,e1,.inl e2,e3⟩
theorem Rep.flat {d : D} {u : V} (r : Rep K H β d u) (h : scalD d = true) : flatV u = true:=by
 cases r <;> first | rfl | cases h
theorem Rep.eqV {x y : D} {u v : V} (rx : Rep K H β x u) (ry : Rep K H β y v) (hx : scalD x = true) (hy : scalD y = true) : eqV u v = eqvD x y:=by
 cases rx <;> first | (cases hx; done) | (cases ry <;> first | (cases hy; done) | simp [L2.eqV,eqvD,D.py,PyData.eqv])
theorem Reps.flat : ∀ {ds : List D} {us : List V},Reps K H β ds us → ds.all scalD = true → us.all flatV = true
 | _,_,.nil,_=>rfl
 | _,_,.cons r t,h=>by
   rw [List.all_cons,Bool.and_eq_true] at h
   rw [List.all_cons,r.flat h.1,t.flat h.2]
   rfl
theorem Reps.inV {x : D} {u : V} (rx : Rep K H β x u) (hx : scalD x = true) : ∀ {ds : List D} {us : List V},Reps K H β ds us → ds.all scalD = true → L2.inV u us = ds.any fun d=>eqvD d x
 | _,_,.nil,_=>rfl
 | _,_,.cons r t,h=>by
   rw [List.all_cons,Bool.and_eq_true] at h
   have:=Reps.inV rx hx t h.2
   unfold L2.inV at this ⊢
   rw [List.any_cons,List.any_cons,this,r.eqV rx h.1 hx]
end
def inD (neg : Bool) (x y : D) (st : AS) : Out D:=match seqOf st y with
 | some ds=>if (scalD x && ds.all scalD) = true then .ok (.bl (xor neg (ds.any fun d=>eqvD d x))) st
   else if ((valD st x).fit && (D.lst ds).fit && (listOf st y).isSome && (valD st y).pure) = true then .ok (.bl (xor neg (ds.any fun d=>eqvD d (valD st x)))) st else .bad
 | none=>match y with
   | .ref i=>(match st[i]? with
     | some (.dct kvs)=>(match x with
       | .int k=>.ok (.bl (xor neg (kvs.any fun kv=>decide (kv.1 = Sum.inl k)))) st
       | .str k=>.ok (.bl (xor neg (kvs.any fun kv=>decide (kv.1 = Sum.inr k)))) st
       | _=>.bad)
     | some (.lck kvs)=>(match x with
       | .int k=>.ok (.bl (xor neg (kvs.any fun kv=>decide (kv.1 = Sum.inl k)))) st
       | .str k=>.ok (.bl (xor neg (kvs.any fun kv=>decide (kv.1 = Sum.inr k)))) st
       | _=>.bad)
     | _=>.bad)
   | _=>.bad
theorem any_py (x : D) : ∀ ds : List D,((D.pys ds).any fun z=>PyData.eqv z x.py) = ds.any fun d=>eqvD d x
 | []=>rfl
 | d :: ds=>by rw [D.pys,List.any_cons,List.any_cons,any_py x ds]; rfl
theorem vals_lookup {κ : Type} [DecidableEq κ] {K : PySem.W.Frag} {H : Hp} {β : Bt} (k : κ) : ∀ {kvs : List (κ × D)} {us : List (κ × V)}, RepK K H β kvs us →
   (∀ d,(kvs.find? fun kv=>decide (kv.1 = k)).map (·.2) = some d → ∃ u,valV us k = some u ∧ Rep K H β d u) ∧ ((kvs.find? fun kv=>decide (kv.1 = k)) = none → valV us k = none)
 | [],us,h=>by
   have : us = []:=by
     have h1:=congrArg List.length h.1
     simp only [List.map_nil,List.length_nil,List.length_map] at h1
     exact List.length_eq_zero_iff.mp h1.symm
   subst this
   exact And.intro (fun d e=>nomatch e) (fun _=>rfl)
 | kv :: kvs,us,h=>by
   cases us with
   | nil=>exact absurd (congrArg List.length h.1) (by simp)
   | cons w us =>
     obtain ⟨h1,h2⟩:=h
     simp only [List.map_cons,List.cons.injEq] at h1
     cases h2 with
     | cons r t =>
       have ih:=vals_lookup k (kvs:=kvs) (us:=us) ⟨h1.2,t⟩
       by_cases e : kv.1 = k
       · refine ⟨fun d q=>?_,fun q=>?_⟩
         · rw [List.find?_cons_of_pos (by simpa using e)] at q
           cases q
           exact ⟨w.2,valV_pos (h1.1 ▸ e),r⟩
         · rw [List.find?_cons_of_pos (by simpa using e)] at q
           cases q
       · have e' : ¬ w.1 = k:=fun z=>e (h1.1.trans z)
         refine ⟨fun d q=>?_,fun q=>?_⟩
         · rw [List.find?_cons_of_neg (by simpa using e)] at q
           rw [valV_neg e']
           exact ih.1 d q
         · rw [List.find?_cons_of_neg (by simpa using e)] at q
           rw [valV_neg e']
           exact ih.2 q
theorem RepK.any {κ : Type} [DecidableEq κ] {K : PySem.W.Frag} {H : Hp} {β : Bt} {kvs : List (κ × D)} {us : List (κ × V)} (h : RepK K H β kvs us) (k : κ) : (valV us k).isSome = kvs.any fun kv=>decide (kv.1 = k):=by
 obtain ⟨h1,h2⟩:=vals_lookup k h
 cases e : kvs.find? fun kv=>decide (kv.1 = k) with
 | none =>
   rw [h2 e]
   have : (kvs.any fun kv=>decide (kv.1 = k)) = false:=by
     rw [List.find?_eq_none] at e
     rw [List.any_eq_false]
     exact e
   rw [this]
   rfl
 | some kv =>
   obtain ⟨u,e1,_⟩:=h1 kv.2 (by rw [e]; rfl)
   rw [e1]
   have m:=List.mem_of_find?_eq_some e
   have p:=List.find?_some e
   exact (List.any_eq_true.mpr ⟨kv,m,p⟩).symm
section
variable {X : Cx} {E : XK} {a b c : Expr} {fa fb fc : En → AS → Out D} {pos : Pos}
def rDIn (neg : Bool) : R2:=fun x y H Q=>∃ a o,y = .ref a ∧ DGet H a x o ∧ Q (.bl (xor neg o.isSome)) H
theorem op_dNotIn (hu : X.A.units + 1 < cLine) : OpR X (compareOp .NotIn) (rDIn true):=by
 intro pins s σ H x y v u Q I rx ry h
 obtain ⟨a,o,rfl,g,q⟩:=h
 cases ry
 exact d_notIn hu I g rx fun s' I'=>⟨.bl _,H,I',rfl,by simpa using q⟩
theorem in_ok {K : PySem.W.Frag} {mg : MG} {β : Bt} {H : Hp} {st : AS} {Q : VK} {x y : D} {u v : V} {neg : Bool} (S : Sim K mg β st H) (rx : Rep K H β x u) (ry : Rep K H β y v) (h : Post K mg (rD K) E β H Q (inD neg x y st)) :
   rIn K neg u v H Q ∨ (∃ d ds,Dp K H u d ∧ Dp K H v (.list ds) ∧ SeqAt.shaped d = true ∧ SeqAt.shaped (.list ds) = true ∧ Q (.bl (xor neg (ds.any fun z=>PyData.eqv z d))) H) ∨ rDIn neg u v H Q:=by
 unfold inD at h
 split at h
 · rename_i ds e
   split at h
   · rename_i ef
     rw [Bool.and_eq_true] at ef
     obtain ⟨p,us,rfl,hq,r⟩:=S.seqs ry e
     refine .inl ⟨p,us,rfl,hq,rx.flat ef.1,r.flat ef.2,?_⟩
     rw [Reps.inV rx ef.1 r ef.2]
     have q:=h.here S (.bl _)
     cases neg <;> simpa using q
   · obtain ⟨ef,h⟩:=h.ite
     simp only [Bool.and_eq_true] at ef
     obtain ⟨⟨⟨e1,e2⟩,e3⟩,e4⟩:=ef
     obtain ⟨d1,s1⟩:=fit_dp S rx e1
     obtain ⟨ds',e5⟩:=Option.isSome_iff_exists.mp e3
     have e6 : ds' = ds:=by
       cases y with
       | tup _=>cases e3
       | ctp _=>cases e3
       | _=>exact Option.some.inj (e5.symm.trans e)
     subst e6
     have v1 : valD st y = .lst ds':=by
       cases y with
       | lst ds =>
         cases e5
         rfl
       | fzl ds =>
         unfold valD at e4
         simp only [D.pure] at e4
         cases e4
       | ref i =>
         unfold listOf at e5
         unfold valD
         dsimp only at e5 ⊢
         split at e5
         · rename_i z
           cases e5
           first
             | rw [z]
             | rfl
         · cases e5
       | _=>cases e5
     have d2:=S.dp ry e4
     rw [v1] at d2
     rw [D.py] at d2
     refine .inr (.inl ⟨_,_,d1,d2,s1,?_,?_⟩)
     · unfold D.fit at e2
       rw [Bool.and_eq_true,D.py] at e2
       exact e2.2
     · rw [any_py]
       exact h.here S (.bl _)
 · cases ry with
   | ref er =>
     rename_i i p en
     dsimp only at h
     split at h
     · rename_i kvs ec
       obtain ⟨us,eu,r⟩:=S.cell i p _ er ec
       cases rx with
       | int k=>exact .inr (.inr ⟨p,_,rfl,DGet.k (k:=.inl k) eu,by rw [r.any]; exact h.here S (.bl _)⟩)
       | str k=>exact .inr (.inr ⟨p,_,rfl,DGet.k (k:=.inr k) eu,by rw [r.any]; exact h.here S (.bl _)⟩)
       | _=>exact h.elim
     · rename_i kvs ec
       obtain ⟨z,us,eu,r⟩:=S.cell i p _ er ec
       cases rx with
       | int k=>exact .inr (.inr ⟨p,_,rfl,.inl ⟨us,.inl k,.inr ⟨z,eu⟩,rfl,rfl⟩,by rw [r.any]; exact h.here S (.bl _)⟩)
       | str k=>exact .inr (.inr ⟨p,_,rfl,.inl ⟨us,.inr k,.inr ⟨z,eu⟩,rfl,rfl⟩,by rw [r.any]; exact h.here S (.bl _)⟩)
       | _=>exact h.elim
     · exact h.elim
   | _=>exact h.elim
theorem oc_notin (hu : X.A.units + 65 < cLine) : OkC X E .NotIn (inD true):=⟨_,op_notIn_seq.or ((op_notInD hu).or (op_dNotIn (Nat.lt_of_le_of_lt (by omega) hu))),fun β H st x y u v Q S rx ry h=>by
 rcases in_ok S rx ry h with q | ⟨d,ds,h1,h2,h3,h4,q⟩ | q
 · exact .inl q
 · exact .inr (.inl ⟨d,ds,h1,h2,h3,h4,by simpa using q⟩)
 · exact .inr (.inr q)⟩
theorem Reps.atI {K : PySem.W.Frag} {H : Hp} {β : Bt} {ds : List D} {us : List V} {i : Int} {d : D} (r : Reps K H β ds us) (h : atI ds i = some d) : ∃ u,L2.atI us i = some u ∧ Rep K H β d u:=by
 unfold L2.atI at h ⊢
 rw [r.length]
 cases e : ixN ds.length i with
 | none=>rw [e] at h; cases h
 | some j =>
   rw [e] at h
   exact r.get h
@[simp] def valK {κ : Type} [DecidableEq κ] (kvs : List (κ × D)) (k : κ) : Option D:=(kvs.find? fun kv=>decide (kv.1 = k)).map (·.2)
/-- the key that a value is -/
@[simp] def keyD : D → Option Key
 | .int i=>some (.inl i)
 | .str x=>some (.inr x)
 | _=>none
@[simp] def keysD : List D → Option (List Key)
 | []=>some []
 | d :: ds=>match keyD d,keysD ds with
   | some k,some ks=>some (k :: ks)
   | _,_=>none
@[simp] def toOut {α : Type} (o : Option α) (st : AS) : Out α:=match o with
 | some a=>.ok a st
 | none=>.bad
@[simp] def ixD (x y : D) (st : AS) : Out D:=match seqOf st x with
 | some ds=>(match y with
   | .int i=>toOut (atI ds i) st
   | _=>.bad)
 | none=>match x with
   | .str z=>(match y with
     | .int i=>if z.length ≤ sizeLine then toOut ((atI z.cps.toList i).map fun c=>.str ⟨#[c]⟩) st else .bad
     | _=>.bad)
   | .ref i=>(match st[i]? with
     | some (.dct kvs)=>(match keyD y with
       | some k=>toOut (valK kvs k) st
       | none=>.bad)
     | some (.dtt kvs)=>(match y with
       | .tup ks=>(match keysD ks with
         | some k=>toOut (valK kvs k) st
         | none=>.bad)
       | _=>.bad)
     | some (.lck kvs)=>(match keyD y with
       | some k=>toOut (valK kvs k) st
       | none=>.bad)
     | some (.lct kvs)=>(match y with
       | .tup ks=>(match keysD ks with
         | some k=>toOut (valK kvs k) st
         | none=>.bad)
       | _=>.bad)
     | _=>.bad)
   | _=>.bad
theorem Post.opt {K : PySem.W.Frag} {mg : MG} {α ρ : Type} {R : Hp → Bt → α → ρ → Prop} {β : Bt} {H : Hp} {Q : ρ → Hp → Prop} {o : Option α} {st : AS} (h : Post K mg R E β H Q (toOut o st)) : ∃ d,o = some d ∧ Post K mg R E β H Q (.ok d st):=by
 cases o with
 | none=>exact h.elim
 | some d=>exact ⟨d,rfl,h⟩
theorem Rep.key {K : PySem.W.Frag} {H : Hp} {β : Bt} {d : D} {u : V} {k : Key} (r : Rep K H β d u) (h : keyD d = some k) : u = kV k:=by
 cases r <;> first | (cases h; done) | (cases h; rfl)
theorem Reps.keys {K : PySem.W.Frag} {H : Hp} {β : Bt} : ∀ {ds : List D} {us : List V} {ks : List Key},Reps K H β ds us → keysD ds = some ks → us = ks.map kV
 | _,_,_,.nil,h=>by
   cases h
   rfl
 | _,_,ks,.cons r t,h=>by
   rw [keysD] at h
   split at h
   · rename_i k ks' e1 e2
     cases h
     rw [r.key e1,Reps.keys t e2]
     rfl
   · cases h
def rDIx : R2:=fun x y H Q=>∃ a v,x = .ref a ∧ DGet H a y (some v) ∧ Q v H
theorem valK_ok {κ : Type} [DecidableEq κ] {K : PySem.W.Frag} {H : Hp} {β : Bt} {kvs : List (κ × D)} {us : List (κ × V)} {k : κ} {d : D} (r : RepK K H β kvs us) (h : valK kvs k = some d) : ∃ u,valV us k = some u ∧ Rep K H β d u:=(vals_lookup k r).1 d h
theorem ix_ok {K : PySem.W.Frag} {mg : MG} {β : Bt} {H : Hp} {st : AS} {Q : VK} {x y : D} {u v : V} (S : Sim K mg β st H) (rx : Rep K H β x u) (ry : Rep K H β y v) (h : Post K mg (rD K) E β H Q (ixD x y st)) : rIx K u v H Q ∨ rDIx u v H Q:=by
 unfold ixD at h
 split at h
 · rename_i ds e
   obtain ⟨p,us,rfl,hq,r⟩:=S.seqs rx e
   cases ry with
   | int i =>
     obtain ⟨d,ed,h⟩:=h.opt
     obtain ⟨w,ew,rw'⟩:=r.atI ed
     rcases hq with hq | hq
     · exact .inl (.inl ⟨p,us,i,w,rfl,rfl,hq,ew,h.here S rw'⟩)
     · exact .inl (.inr (.inl ⟨p,us,i,w,rfl,rfl,hq,ew,h.here S rw'⟩))
   | _=>exact h.elim
 · cases rx with
   | str z =>
     dsimp only at h
     cases ry with
     | int i =>
       obtain ⟨hl,h⟩:=h.ite
       obtain ⟨d,ed,h⟩:=h.opt
       cases e : atI z.cps.toList i with
       | none=>rw [e] at ed; cases ed
       | some c =>
         rw [e] at ed
         cases ed
         exact .inl (.inr (.inr ⟨z,i,c,rfl,rfl,hl,e,h.here S (.str _)⟩))
     | _=>exact h.elim
   | ref er =>
     rename_i i p en
     dsimp only at h
     split at h
     · rename_i kvs ec
       obtain ⟨us,eu,r⟩:=S.cell i p _ er ec
       split at h
       · rename_i k ek
         obtain ⟨d,ed,h⟩:=h.opt
         obtain ⟨w,ew,rw'⟩:=valK_ok r ed
         rw [ry.key ek]
         exact .inr ⟨p,w,rfl,by rw [← ew]; exact DGet.k eu,h.here S rw'⟩
       · exact h.elim
     · rename_i kvs ec
       obtain ⟨us,eu,r⟩:=S.cell i p _ er ec
       cases ry with
       | tup n2 e2 r2 =>
         dsimp only at h
         split at h
         · rename_i k ek
           obtain ⟨d,ed,h⟩:=h.opt
           obtain ⟨w,ew,rw'⟩:=valK_ok r ed
           have z:=r2.keys ek
           subst z
           exact .inr ⟨p,w,rfl,by rw [← ew]; exact DGet.t eu e2,h.here S rw'⟩
         · exact h.elim
       | _=>exact h.elim
     · rename_i kvs ec
       obtain ⟨z,us,eu,r⟩:=S.cell i p _ er ec
       split at h
       · rename_i k ek
         obtain ⟨d,ed,h⟩:=h.opt
         obtain ⟨w,ew,rw'⟩:=valK_ok r ed
         rw [ry.key ek]
         exact .inr ⟨p,w,rfl,.inl ⟨us,k,.inr ⟨z,eu⟩,rfl,ew.symm⟩,h.here S rw'⟩
       · exact h.elim
     · rename_i kvs ec
       obtain ⟨z,us,eu,r⟩:=S.cell i p _ er ec
       cases ry with
       | tup n2 e2 r2 =>
         dsimp only at h
         split at h
         · rename_i k ek
           obtain ⟨d,ed,h⟩:=h.opt
           obtain ⟨w,ew,rw'⟩:=valK_ok r ed
           have zz:=r2.keys ek
           subst zz
           exact .inr ⟨p,w,rfl,.inr ⟨us,k,_,.inr ⟨z,eu⟩,rfl,e2,ew.symm⟩,h.here S rw'⟩
         · exact h.elim
       | _=>exact h.elim
     · exact h.elim
   | _=>exact h.elim
theorem ix_dictR (hu : X.A.units + 1 < cLine) : IxR X rDIx:=by
 intro va sl pins s σ H x y v u Q I rx ry h hsl
 obtain ⟨p,w',rfl,g,q⟩:=h
 obtain rfl : v = Value.ref p:=rx
 have ty:=dict_typeIs I g
 have item : wpAny (model X.prog X.w) X.A (getItem (.ref p) u) (EP X pins σ Q) X.xe s:=d_getItem hu I g ry fun w2 s' I' r=>⟨w',H,I',r,q⟩
 have last : wpAny (model X.prog X.w) X.A (subscripted sl false (.ref p) u) (fun r t=>wpAny (model X.prog X.w) X.A (letTemporaryGo va (.ref p) r >>= fun _=>pure r) (EP X pins σ Q) X.xe t) X.xe s:=by
   rw [hsl]
   refine wpAny_operating (thn item ?_)
   intro r t ht
   exact wpAny_bind (wpAny_letTemporaryGo (wpAny_pure ht))
 unfold subscriptTail
 apply wpAny_bind
 rw [getitemInPython_of_ne ty.not_modules]
 apply wpAny_bind
 refine wpAny_specialOf ty PySem.F.slot_dict_getitem.lookup ?_
 first
   | exact wpAny_pure (wpAny_bind last)
   | exact wpAny_bind (wpAny_pure (wpAny_bind last))
   | exact wpAny_bind last
theorem ve_sub_ix (hu : X.A.units + 65 < cLine) (ha : VE X E a fa) (hb : VE X E b fb) (hs : PlainIx b) : VE X E (.Subscript a b pos) (v2 ixD fa fb) :=
 ve_ix (ix_seq.or (ix_dictR (Nat.lt_of_le_of_lt (by omega) hu))) (fun _ _ _ _ _ _ _ _ S rx ry h=>ix_ok S rx ry h) ha hb hs
abbrev rO : Hp → Bt → Option Int → Option Int → Prop:=fun _ _ a b=>a = b
abbrev VO (X : Cx) (E : XK) (e : Option Expr) (f : En → AS → Out (Option Int)) : Prop:=PO X e (tG X.K X.mgw rO E f)
@[simp] def vNoPart (_ : En) (st : AS) : Out (Option Int):=.ok none st
@[simp] def asI (d : D) (st : AS) : Out (Option Int):=match d with
 | .int i=>.ok (some i) st
 | _=>.bad
theorem weakO {e : Option Expr} {t t' : TO} (h : PO X e t) (w : ∀ σ H Q,t' σ H Q → t σ H Q) : PO X e t':=⟨fun pins s σ H Q I q=>h.run pins s σ H Q I (w σ H Q q)⟩
theorem vo_none : VO X E none vNoPart:=weakO po_none fun σ H Q ⟨β,env,st,he,hs,h⟩=>h.here hs rfl
theorem vo_some (ha : VE X E a fa) : VO X E (some a) (v1 asI fa):=weakO (po_some ha) fun σ H Q ⟨β,env,st,he,hs,h⟩=>by
 refine tG_bind he hs h fun x st1 β1 H1 u x1 s1 e1 r1 h1=>?_
 cases r1 with
 | int i=>exact ⟨i,rfl,h1.here s1 rfl⟩
 | _=>exact h1.elim
def cut {α : Type} (xs : List α) (lo hi : Option Int) : List α:=(xs.drop (HT.sIx xs.length 0 lo)).take (HT.sIx xs.length xs.length hi - HT.sIx xs.length 0 lo)
theorem cut_whole {α : Type} {xs : List α} {lo hi : Option Int} (h1 : HT.sIx xs.length 0 lo = 0) (h2 : HT.sIx xs.length xs.length hi = xs.length) : VL.cut xs lo hi = xs:=by
 unfold VL.cut
 rw [h1,h2,List.drop_zero,Nat.sub_zero,List.take_length]
@[simp] def slD (c : Bool) (x : D) (lo hi : Option Int) (st : AS) : Out D:=match x with
 | .tup ds=>.ok (.tup (cut ds lo hi)) st
 | .str z=>if z.length ≤ sizeLine then .ok (.str (cutS z lo hi)) st else .bad
 | _=>match listOf st x with
   | some ds=>mk c (cut ds lo hi) st
   | none=>.bad
@[simp] def vSl (g : D → Option Int → Option Int → AS → Out D) (fa : En → AS → Out D) (fl fh : En → AS → Out (Option Int)) (env : En) (st : AS) : Out D:=(fa env st).bind fun x st=>(fl env st).bind fun l st=>(fh env st).bind fun h st=>g x l h st
theorem Reps.cut {K : PySem.W.Frag} {H : Hp} {β : Bt} {ds : List D} {us : List V} (r : Reps K H β ds us) (lo hi : Option Int) : Reps K H β (VL.cut ds lo hi) (cutV us lo hi):=by
 unfold VL.cut cutV
 rw [r.length]
 exact (r.drop _).take _
theorem sl_ok {K : PySem.W.Frag} {mg : MG} {β : Bt} {H : Hp} {st : AS} {Q : VK} {x : D} {u : V} {lo hi : Option Int} {c : Bool} (S : Sim K mg β st H) (rx : Rep K H β x u) (h : Post K mg (rD K) E β H Q (slD c x lo hi st)) : rSlA K u lo hi H Q ∨ rSlL K u lo hi H Q ∨ rSlS u lo hi H Q:=by
 unfold slD at h
 have lists : ∀ {x : D} {u : V},Rep K H β x u → Post K mg (rD K) E β H Q (match listOf st x with | some ds=>mk c (VL.cut ds lo hi) st | none=>.bad) → rSlL K u lo hi H Q:=by
   intro x u rx h
   split at h
   · rename_i ds e
     obtain ⟨p,us,rfl,hq,r⟩:=S.lists rx e
     exact ⟨p,us,rfl,hq,new_lst h S (r.cut lo hi)⟩
   · exact h.elim
 cases rx with
 | tup n e r =>
   refine .inl ⟨_,_,rfl,.inl (.inl e),fun z=>?_,fun _=>new_tup h S (r.cut lo hi)⟩
   have q:=h.here (u:=V.ref _) S (show Rep K H β (.tup (VL.cut _ lo hi)) (.ref _) from by
     rw [cut_whole (by rw [← r.length]; exact z.1) (by rw [← r.length]; exact z.2)]
     exact .tup n e r)
   exact q
 | str z =>
   obtain ⟨hl,h⟩:=h.ite
   exact .inr (.inr ⟨z,rfl,hl,h.here S (.str _)⟩)
 | non=>exact .inr (.inl (lists .non h))
 | bl b=>exact .inr (.inl (lists (.bl b) h))
 | int b=>exact .inr (.inl (lists (.int b) h))
 | cv q=>exact .inr (.inl (lists (.cv q) h))
 | ctp e r=>exact .inr (.inl (lists (.ctp e r) h))
 | lst n e r=>exact .inr (.inl (lists (.lst n e r) h))
 | fzl e r=>exact .inr (.inl (lists (.fzl e r) h))
 | ref e=>exact .inr (.inl (lists (.ref e) h))
theorem ve_slice (k : Bool) {lo hi : Option Expr} {fl fh : En → AS → Out (Option Int)} {p2 : Pos} (ha : VE X E a fa) (hl : VO X E lo fl) (hh : VO X E hi fh) : VE X E (.Subscript a (.Slice lo hi none p2) pos) (vSl (slD k) fa fl fh):=by
 refine weakE (pe_slice (sl_tupA.or (sl_list.or sl_str)) ha hl hh) fun σ H Q ⟨β,env,st,he,hs,h⟩=>?_
 refine tG_bind he hs h fun x st1 β1 H1 u x1 s1 e1 r1 h1=>?_
 refine tG_bind e1 s1 h1 fun l st2 β2 H2 l' x2 s2 e2 r2 h2=>?_
 refine tG_bind e2 s2 h2 fun l st3 β3 H3 l2' x3 s3 e3 r3 h3=>?_
 cases r2
 cases r3
 exact sl_ok s3 ((r1.ext x2).ext x3) h3
/-- x[::-1] -/
@[simp] def revD (x : D) (st : AS) : Out D:=match x with
 | .tup ds=>.ok (.tup ds.reverse) st
 | _=>.bad
theorem Reps.rev {K : PySem.W.Frag} {H : Hp} {β : Bt} : ∀ {ds : List D} {us : List V},Reps K H β ds us → Reps K H β ds.reverse us.reverse
 | _,_,.nil=>.nil
 | _,_,.cons r t=>by
   rw [List.reverse_cons,List.reverse_cons]
   exact (Reps.rev t).append (.cons r .nil)
theorem ve_revT {k : Nat} {p1 p2 p3 : Pos} (ha : VE X E a fa) : VE X E (.Subscript a (.Slice none none (some (.UnaryOp .USub (.Constant (.int 1) k p1) p2)) p3) pos) (v1 revD fa):=by
 refine weakE (pe_revT ha) fun σ H Q ⟨β,env,st,he,hs,h⟩=>?_
 refine tG_bind he hs h fun x st1 β1 H1 u x1 s1 e1 r1 h1=>?_
 cases r1 with
 | tup n e r=>exact ⟨_,_,rfl,.inl (.inl e),new_tup h1 s1 r.rev⟩
 | _=>exact h1.elim
@[simp] def revLD (c : Bool) (x : D) (st : AS) : Out D:=match listOf st x with
 | some ds=>mk c ds.reverse st
 | none=>.bad
variable {es : List Expr} {e : Expr} {fs : En → AS → Out (List D)} {x : Str} {p : Pos}
theorem useA {r : List V → Hp → VK → Prop} {g : List D → AS → Out D} (hg : OkA X.K X.mgw E r g) {σ : L2.St} {H : Hp} {Q : VK} (h : tV X.K X.mgw E (vA g fs) σ H Q) : tCB r (tVA X.K X.mgw E fs) σ H Q:=by
 obtain ⟨β,env,st,he,hs,h⟩:=h
 exact tG_bind he hs h fun ds st1 β1 H1 us x1 s1 e1 r1 h1=>hg β1 H1 st1 ds us Q s1 r1 h1
/-- a built-in function with what it does -/
def OkB (X : Cx) (E : XK) (f : Value) (g : List D → AS → Out D) : Prop:=∃ r,CallR X f r ∧ OkA X.K X.mgw E r g
theorem ve_callB {id : String} {g : List D → AS → Out D} (hc : OkB X E (.builtin id) g) (hg : Gl X x) (hm : X.mg x = none) (hv : bootBuiltins x = some (.builtin id)) (ha : VA X E (e :: es) fs) (hn : x ≠ "__name__" := by decide) (hdb : (x == ("__debug__" : Str)) = false := by decide)
   (he : starEach (e :: es) X.env = (false,eval e X.env) :: starEach es X.env:=by rfl) (hpl : (backTo pos (starEach es X.env)).any (·.1) = false:=by rfl) : VE X E (.Call (.Name x p) (e :: es) [] pos) (vA g fs):=by
 obtain ⟨r,h1,h2⟩:=hc
 exact weakE (pe_callB h1 hg hm hv ha hn hdb he hpl) fun _ _ _ h=>useA h2 h
theorem ve_callTy {T : String} {g : List D → AS → Out D} (hc : OkB X E (.type T) g) (hg : Gl X x) (hm : X.mg x = none) (hv : bootBuiltins x = some (.type T)) (ha : VA X E (e :: es) fs) (hn : x ≠ "__name__" := by decide) (hdb : (x == ("__debug__" : Str)) = false := by decide)
   (he : starEach (e :: es) X.env = (false,eval e X.env) :: starEach es X.env:=by rfl) (hpl : (backTo pos (starEach es X.env)).any (·.1) = false:=by rfl) : VE X E (.Call (.Name x p) (e :: es) [] pos) (vA g fs):=by
 obtain ⟨r,h1,h2⟩:=hc
 exact weakE (pe_callTy h1 hg hm hv ha hn hdb he hpl) fun _ _ _ h=>useA h2 h
/-- of one thing -/
@[simp] def g1 (g : D → AS → Out D) (xs : List D) (st : AS) : Out D:=match xs with
 | [x]=>g x st
 | _=>.bad
theorem g1_ok {K : PySem.W.Frag} {mg : MG} {β : Bt} {H : Hp} {st : AS} {Q : VK} {xs : List D} {us : List V} {g : D → AS → Out D} (r : Reps K H β xs us) (h : Post K mg (rD K) E β H Q (g1 g xs st)) : ∃ x u,us = [u] ∧ Rep K H β x u ∧ Post K mg (rD K) E β H Q (g x st):=by
 cases r with
 | nil=>exact h.elim
 | cons a t =>
   cases t with
   | nil=>exact ⟨_,_,rfl,a,h⟩
   | cons _ _=>exact h.elim
@[simp] def lenD (x : D) (st : AS) : Out D:=match seqOf st x with
 | some ds=>.ok (.int ds.length) st
 | none=>match x with
   | .str z=>if z.length ≤ sizeLine then .ok (.int z.length) st else .bad
   | .ref i=>(match st[i]? with
     | some (.dct kvs)=>.ok (.int kvs.length) st
     | _=>.bad)
   | _=>.bad
theorem RepK.length {κ : Type} {K : PySem.W.Frag} {H : Hp} {β : Bt} {kvs : List (κ × D)} {us : List (κ × V)} (h : RepK K H β kvs us) : us.length = kvs.length:=by
 have:=congrArg List.length h.1
 simpa using this.symm
theorem ob_len : OkB X E (.builtin "len") (g1 lenD):=⟨_,call_len.or call_lenD,fun β H st xs us Q S r h=>by
 obtain ⟨x,u,rfl,rx,h⟩:=g1_ok r h
 unfold lenD at h
 split at h
 · rename_i ds e
   obtain ⟨p,us,rfl,hq,r⟩:=S.seqs rx e
   refine .inl ⟨_,us.length,rfl,?_,by rw [r.length]; exact h.here S (.int _)⟩
   rcases hq with hq | hq
   · exact .inl ⟨us,hq,rfl⟩
   · exact .inr ⟨us,hq,rfl⟩
 · cases rx with
   | str z =>
     obtain ⟨hl,h⟩:=h.ite
     exact .inl ⟨_,_,rfl,⟨hl,rfl⟩,h.here S (.int _)⟩
   | ref er =>
     rename_i i p en
     dsimp only at h
     split at h
     · rename_i kvs ec
       obtain ⟨us,eu,r⟩:=S.cell i p _ er ec
       exact .inr ⟨p,us,rfl,eu,by rw [r.length]; exact h.here S (.int _)⟩
     · exact h.elim
   | _=>exact h.elim⟩
/-- tuple(list or tuple),list(list or tuple) -/
@[simp] def tupD (x : D) (st : AS) : Out D:=match x with
 | .tup ds=>.ok (.tup ds) st
 | _=>match listOf st x with
   | some ds=>.ok (.tup ds) st
   | none=>.bad
theorem ob_tuple : OkB X E (.type "tuple") (g1 tupD):=⟨_,call_tuple_of,fun β H st xs us Q S r h=>by
 obtain ⟨x,u,rfl,rx,h⟩:=g1_ok r h
 clear r
 have lists : ∀ {x : D} {u : V},Rep X.K H β x u → Post X.K X.mgw (rD X.K) E β H Q (match listOf st x with | some ds=>.ok (.tup ds) st | none=>.bad) → ∃ p ys,[u] = [V.ref p] ∧ ((SqL X.K H p ys ∧ ∀ l,H l = none → Q (.ref l) (upd H l (.tup ys))) ∨ (SqT X.K H p ys ∧ Q (.ref p) H)):=by
   intro x u rx h
   split at h
   · rename_i ds e
     obtain ⟨p,us,rfl,hq,r⟩:=S.lists rx e
     exact ⟨p,us,rfl,.inl ⟨hq,new_tup h S r⟩⟩
   · exact h.elim
 unfold tupD at h
 cases rx with
 | tup n e r=>exact ⟨_,_,rfl,.inr ⟨.inl (.inl e),h.here S (.tup n e r)⟩⟩
 | non=>exact lists .non h
 | bl b=>exact lists (.bl b) h
 | int b=>exact lists (.int b) h
 | str b=>exact lists (.str b) h
 | cv q=>exact lists (.cv q) h
 | ctp e r=>exact lists (.ctp e r) h
 | lst n e r=>exact lists (.lst n e r) h
 | fzl e r=>exact lists (.fzl e r) h
 | ref e=>exact lists (.ref e) h⟩
@[simp] def lstD (c : Bool) (x : D) (st : AS) : Out D:=match seqOf st x with
 | some ds=>mk c ds st
 | none=>.bad
/-- sums,greatest,least of ints -/
@[simp] def onInts (g : List Int → AS → Out D) (x : D) (st : AS) : Out D:=match seqOf st x with
 | some ds=>(match intsOf ds with
   | some ns=>g ns st
   | none=>.bad)
 | none=>.bad
theorem ints_ok {K : PySem.W.Frag} {mg : MG} {β : Bt} {H : Hp} {st : AS} {Q : VK} {x : D} {u : V} {g : List Int → AS → Out D} (S : Sim K mg β st H) (rx : Rep K H β x u) (h : Post K mg (rD K) E β H Q (onInts g x st)) :
   ∃ p ns,u = .ref p ∧ (SqL K H p (ns.map V.int) ∨ SqT K H p (ns.map V.int)) ∧ Post K mg (rD K) E β H Q (g ns st):=by
 unfold onInts at h
 split at h
 · rename_i ds e
   split at h
   · rename_i ns en
     obtain ⟨p,us,rfl,hq,r⟩:=S.seqs rx e
     have z:=intsOf_eq en
     subst z
     have w:=r.ints
     subst w
     exact ⟨p,ns,rfl,hq,h⟩
   · exact h.elim
 · exact h.elim
@[simp] def sumD (x : D) (st : AS) : Out D:=onInts (fun ns st=>.ok (.int ns.sum) st) x st
def maxI : List Int → Int
 | []=>0
 | [n]=>n
 | n :: m :: ns=>max n (maxI (m :: ns))
def minI : List Int → Int
 | []=>0
 | [n]=>n
 | n :: m :: ns=>min n (minI (m :: ns))
theorem maxI_mem : ∀ {ns : List Int},ns ≠ [] → maxI ns ∈ ns ∧ ∀ y ∈ ns,y ≤ maxI ns
 | [],h=>absurd rfl h
 | [n],_=>by simp [maxI]
 | n :: m :: ns,_=>by
   obtain ⟨h1,h2⟩:=maxI_mem (ns:=m :: ns) (by simp)
   rw [maxI]
   refine ⟨?_,fun y hy=>?_⟩
   · by_cases e : n ≤ maxI (m :: ns)
     · rw [Int.max_eq_right e]
       exact List.mem_cons_of_mem _ h1
     · rw [Int.max_eq_left (by omega)]
       exact List.mem_cons_self
   · rcases List.mem_cons.mp hy with z | z
     · subst z
       exact Int.le_max_left _ _
     · exact Int.le_trans (h2 y z) (Int.le_max_right _ _)
theorem minI_mem : ∀ {ns : List Int},ns ≠ [] → minI ns ∈ ns ∧ ∀ y ∈ ns,minI ns ≤ y
 | [],h=>absurd rfl h
 | [n],_=>by simp [minI]
 | n :: m :: ns,_=>by
   obtain ⟨h1,h2⟩:=minI_mem (ns:=m :: ns) (by simp)
   rw [minI]
   refine ⟨?_,fun y hy=>?_⟩
   · by_cases e : n ≤ minI (m :: ns)
     · rw [Int.min_eq_left e]
       exact List.mem_cons_self
     · rw [Int.min_eq_right (by omega)]
       exact List.mem_cons_of_mem _ h1
   · rcases List.mem_cons.mp hy with z | z
     · subst z
       exact Int.min_le_left _ _
     · exact Int.le_trans (Int.min_le_right _ _) (h2 y z)
theorem maxI_eq {ns : List Int} {m : Int} (h : m ∈ ns) (h2 : ∀ y ∈ ns,y ≤ m) : m = maxI ns:=by
 obtain ⟨h3,h4⟩:=maxI_mem (ns:=ns) (fun z=>by subst z; cases h)
 exact Int.le_antisymm (h4 m h) (h2 _ h3)
theorem minI_eq {ns : List Int} {m : Int} (h : m ∈ ns) (h2 : ∀ y ∈ ns,m ≤ y) : m = minI ns:=by
 obtain ⟨h3,h4⟩:=minI_mem (ns:=ns) (fun z=>by subst z; cases h)
 exact Int.le_antisymm (h2 _ h3) (h4 m h)
@[simp] def maxD (xs : List D) (st : AS) : Out D:=match xs with
 | []=>.bad
 | x :: r=>(match r with
   | []=>onInts (fun ns st=>if ns = [] then .bad else .ok (.int (maxI ns)) st) x st
   | y :: q=>(match q with
     | []=>iiD (fun a b=>.int (max a b)) x y st
     | _ :: _=>.bad))
@[simp] def minD (xs : List D) (st : AS) : Out D:=match xs with
 | []=>.bad
 | x :: r=>(match r with
   | []=>onInts (fun ns st=>if ns = [] then .bad else .ok (.int (minI ns)) st) x st
   | y :: q=>(match q with
     | []=>iiD (fun a b=>.int (min a b)) x y st
     | _ :: _=>.bad))
theorem Post.iteN {α ρ : Type} {K : PySem.W.Frag} {mg : MG} {R : Hp → Bt → α → ρ → Prop} {β : Bt} {H : Hp} {Q : ρ → Hp → Prop} {p : Prop} [Decidable p] {o : Out α} (h : Post K mg R E β H Q (if p then .bad else o)) : ¬ p ∧ Post K mg R E β H Q o:=by
 by_cases hp : p
 · rw [if_pos hp] at h
   exact h.elim
 · rw [if_neg hp] at h
   exact ⟨hp,h⟩
theorem ob_max (hc : X.calm = true) : OkB X E (.builtin "max") maxD:=⟨_,(cr_max hc).or ((call_maxT hc).or (call_max2 hc)),fun β H st xs us Q S r h=>by
 cases r with
 | nil=>exact h.elim
 | cons a t =>
   cases t with
   | nil =>
     obtain ⟨p,ns,rfl,hq,h⟩:=ints_ok (g:=fun ns st=>if ns = [] then .bad else .ok (.int (maxI ns)) st) S a h
     obtain ⟨hn,h⟩:=h.iteN
     have q:=h.here S (.int _)
     have hl : 0 < ns.length:=List.length_pos_iff.mpr hn
     rcases hq with hq | hq
     · exact .inl ⟨p,ns,rfl,hq,hl,fun m hm hy=>by rw [maxI_eq hm hy]; exact q⟩
     · exact .inr (.inl ⟨p,ns,rfl,hq,hl,fun m hm hy=>by rw [maxI_eq hm hy]; exact q⟩)
   | cons b t =>
     cases t with
     | nil =>
       obtain ⟨i,j,rfl,rfl,h⟩:=ii_ok a b h
       refine .inr (.inr ⟨i,j,rfl,?_⟩)
       have q:=h.here S (.int _)
       have e : (if j > i then j else i) = max i j:=by
         by_cases z : j > i
         · rw [if_pos z,Int.max_eq_right (by omega)]
         · rw [if_neg z,Int.max_eq_left (by omega)]
       rw [e]
       exact q
     | cons _ _=>exact h.elim⟩
theorem ob_min (hc : X.calm = true) : OkB X E (.builtin "min") minD:=⟨_,(cr_min hc).or ((call_minT hc).or (call_min2 hc)),fun β H st xs us Q S r h=>by
 cases r with
 | nil=>exact h.elim
 | cons a t =>
   cases t with
   | nil =>
     obtain ⟨p,ns,rfl,hq,h⟩:=ints_ok (g:=fun ns st=>if ns = [] then .bad else .ok (.int (minI ns)) st) S a h
     obtain ⟨hn,h⟩:=h.iteN
     have q:=h.here S (.int _)
     have hl : 0 < ns.length:=List.length_pos_iff.mpr hn
     rcases hq with hq | hq
     · exact .inl ⟨p,ns,rfl,hq,hl,fun m hm hy=>by rw [minI_eq hm hy]; exact q⟩
     · exact .inr (.inl ⟨p,ns,rfl,hq,hl,fun m hm hy=>by rw [minI_eq hm hy]; exact q⟩)
   | cons b t =>
     cases t with
     | nil =>
       obtain ⟨i,j,rfl,rfl,h⟩:=ii_ok a b h
       refine .inr (.inr ⟨i,j,rfl,?_⟩)
       have q:=h.here S (.int _)
       have e : (if j < i then j else i) = min i j:=by
         by_cases z : j < i
         · rw [if_pos z,Int.min_eq_right (by omega)]
         · rw [if_neg z,Int.min_eq_left (by omega)]
       rw [e]
       exact q
     | cons _ _=>exact h.elim⟩
@[simp] def absD (x : D) (st : AS) : Out D:=match x with
 | .int i=>.ok (.int i.natAbs) st
 | _=>.bad
def blsOf : List D → Option (List Bool)
 | []=>some []
 | .bl i :: ds=>(blsOf ds).map (i :: ·)
 | _ :: _=>none
@[simp] def onBls (g : List Bool → Bool) (x : D) (st : AS) : Out D:=match listOf st x with
 | some ds=>(match blsOf ds with
   | some bs=>.ok (.bl (g bs)) st
   | none=>.bad)
 | none=>.bad
end
end VL
namespace VL
open PySem PySem.Spec PyProof.Rows L2 TB
@[simp] def tyD (st : AS) (d : D) : Option String:=match d with
 | .non=>some "NoneType"
 | .bl _=>some "bool"
 | .int _=>some "int"
 | .str _=>some "str"
 | .tup _=>some "tuple"
 | .ctp _=>some "tuple"
 | .lst _=>some "list"
 | .fzl _=>some "list"
 | .ref i=>(match st[i]? with
   | some (.lst _)=>some "list"
   | some (.dct _)=>some "dict"
   | some (.dtt _)=>some "dict"
   | _=>none)
 | .cv _=>none
def isT (a b : String) : Bool:=decide (a = b) || (decide (a = "bool") && decide (b = "int"))
@[simp] def isiD (xs : List D) (st : AS) : Out D:=match xs with
 | [x,.cv (.v (.ty T))]=>(match tyD st x with
   | some n=>if T ∈ ["int","bool","str","tuple","list","dict"] then .ok (.bl (isT n T)) st else .bad
   | none=>.bad)
 | _=>.bad
section
variable {X : Cx} {E : XK} {a b c : Expr} {fa fb fc : En → AS → Out D} {pos : Pos}
def Shw (p : PyData) : Prop:=p.showable = true ∧ p.depth ≤ 60 ∧ p.shown.length ≤ sizeLine
instance (p : PyData) : Decidable (Shw p):=inferInstanceAs (Decidable (_ ∧ _))
theorem Shw.of {k n : Nat} {p : PyData} (h : Sh k n p) (hk : k ≤ 60) (hn : n ≤ sizeLine) : Shw p:=⟨h.sh,Nat.le_trans h.dp hk,Nat.le_trans h.ln hn⟩
mutual
theorem D.noDict : ∀ d : D,d.py.hasDict = false
 | .non=>by simp only [D.py,PyData.hasDict]
 | .bl _=>by simp only [D.py,PyData.hasDict]
 | .int _=>by simp only [D.py,PyData.hasDict]
 | .str _=>by simp only [D.py,PyData.hasDict]
 | .tup ds=>by simp only [D.py,PyData.hasDict,D.noDicts ds]
 | .ctp ds=>by simp only [D.py,PyData.hasDict,D.noDicts ds]
 | .lst ds=>by simp only [D.py,PyData.hasDict,D.noDicts ds]
 | .fzl _=>by simp only [D.py,PyData.hasDict]
 | .ref _=>by simp only [D.py,PyData.hasDict]
 | .cv _=>by simp only [D.py,PyData.hasDict]
theorem D.noDicts : ∀ ds : List D,PyData.hasDictAll (D.pys ds) = false
 | []=>by simp only [D.pys,PyData.hasDictAll]
 | d :: ds=>by simp only [D.pys,PyData.hasDictAll,D.noDict d,D.noDicts ds,Bool.or_self]
end
@[simp] def reprD (x : D) (st : AS) : Out D:=if (valD st x).pure = true ∧ Shw (valD st x).py then .ok (.str (txt (valD st x).py)) st else .bad
def rRep (K : PySem.W.Frag) : List V → Hp → VK → Prop:=fun xs H Q=>∃ x d,xs = [x] ∧ Dp K H x d ∧ d.hasDict = false ∧ Shw d ∧ Q (.str (txt d)) H
theorem call_rep (gd : X.A.guards = some []) (hu : X.A.units + 64 < cLine) : CallR X (.builtin "repr") (rRep X.K):=by
 intro pins s σ H args us Q I r h
 obtain ⟨x,d,rfl,hd,hn,⟨h1,h2,h3⟩,q⟩:=h
 rw [txt_eq] at q
 cases hd with
 | non =>
   obtain ⟨u,rfl,r1⟩:=vals1 r
   cases (show u = Value.none from r1)
   exact PySem.P.repr_of_none ⟨.str "None",H,I.tok _,⟨_,rfl⟩,q⟩
 | bl b =>
   obtain ⟨u,rfl,r1⟩:=vals1 r
   cases (show u = Value.bool b from r1)
   exact PySem.P.repr_of_bool ⟨.str (if b then "True" else "False"),H,I.tok _,⟨_,rfl⟩,q⟩
 | int i =>
   obtain ⟨u,rfl,r1⟩:=vals1 r
   obtain ⟨t,rfl⟩:=r1
   exact PySem.P.repr_of_int (by simpa [PyData.showable] using h1) ⟨.str _,H,I.tok _,⟨_,rfl⟩,q⟩
 | str z =>
   obtain ⟨u,rfl,r1⟩:=vals1 r
   obtain ⟨t,rfl⟩:=r1
   exact PySem.P.repr_of_str ⟨.str _,H,I.tok _,⟨_,rfl⟩,q⟩ h3
 | lst e a=>exact call_reprD gd hu pins s σ H _ us Q I r ⟨_,_,rfl,.lst e a,h1,hn,h2,h3,q⟩
 | tup e a=>exact call_reprD gd hu pins s σ H _ us Q I r ⟨_,_,rfl,.tup e a,h1,hn,h2,h3,q⟩
theorem ob_repr (gd : X.A.guards = some []) (hu : X.A.units + 64 < cLine) : OkB X E (.builtin "repr") (g1 reprD):=⟨_,call_rep gd hu,fun β H st xs us Q S r h=>by
 obtain ⟨x,u,rfl,rx,h⟩:=g1_ok r h
 obtain ⟨⟨hp,hs⟩,h⟩:=h.ite
 exact ⟨u,_,rfl,S.dp rx hp,D.noDict _,hs,h.here S (.str _)⟩⟩
@[simp] def strD (x : D) (st : AS) : Out D:=match x with
 | .int i=>if i.natAbs.log2 < 1920 then .ok (.str (toString i)) st else .bad
 | _=>.bad
variable {o e : Expr} {es : List Expr} {fo : En → AS → Out D} {fs : En → AS → Out (List D)} {name : Str} {apos cpos : Pos} {id : String}
@[simp] def vML (g : D → List D → AS → Out D) (fo : En → AS → Out D) (fs : En → AS → Out (List D)) (env : En) (st : AS) : Out D:=(fo env st).bind fun x st=>if (listOf st x).isSome = true then (fs env st).bind fun xs st=>g x xs st else .bad
def OkM (X : Cx) (E : XK) (id : String) (g : D → List D → AS → Out D) : Prop:=∃ r,MtR X id r ∧ ∀ β H st x xs u us Q,Sim X.K X.mgw β st H → Rep X.K H β x u → Reps X.K H β xs us → Post X.K X.mgw (rD X.K) E β H Q (g x xs st) → r u us H Q
theorem Sim.isList {K : PySem.W.Frag} {mg : MG} {β : Bt} {H : Hp} {st : AS} (S : Sim K mg β st H) {d : D} {u : V} (r : Rep K H β d u) (h : (listOf st d).isSome = true) : tyV K "list" u H:=by
 obtain ⟨ds,e⟩:=Option.isSome_iff_exists.mp h
 obtain ⟨a,us,rfl,hq,_⟩:=S.lists r e
 exact .inl ⟨rfl,us,hq⟩
theorem ve_ml {g : D → List D → AS → Out D} (slot : Slot "list" name id) (hty : typeOf (.builtin id) = pure (.type "method_descriptor")) (hm : OkM X E id g) (ho : VE X E o fo) (ha : VA X E (e :: es) fs)
   (hbase : attributeBase o name X.env (eval o X.env) = eval o X.env:=by rfl)
   (hfew : ((backTo cpos (starEach (e :: es) X.env)).all (fun x=>!x.1) && (backToKw cpos (keywordEach [] X.env)).all (fun x=>x.1.isSome)
     && decide ((e :: es).length + ([] : List Keyword).length + (if ([] : List Keyword).isEmpty then 0 else 1) < 30)) = true:=by rfl)
   (hline : (apos.endLine == cpos.line) = true:=by rfl) (hs : starEach (e :: es) X.env = (false,eval e X.env) :: starEach es X.env:=by rfl) (hplain : (backTo cpos (starEach es X.env)).any (·.1) = false:=by rfl) :
   VE X E (.Call (.Attribute o name apos) (e :: es) [] cpos) (vML g fo fs):=by
 obtain ⟨r,h1,h2⟩:=hm
 refine weakE (pe_bm PySem.F.plainAttrs_list slot hty h1 ho ha hbase hfew hline hs hplain) fun σ H Q ⟨β,env,st,he,hS,h⟩=>?_
 refine tG_bind he hS h fun x st1 β1 H1 u x1 s1 e1 r1 h3=>?_
 obtain ⟨hl,h3⟩:=h3.ite
 refine ⟨s1.isList r1 hl,?_⟩
 exact tG_bind e1 s1 h3 fun xs st2 β2 H2 us x2 s2 e2 r2 h4=>h2 β2 H2 st2 x xs u us Q s2 (r1.ext x2) r2 h4
@[simp] def vML0 (g : D → List D → AS → Out D) (fo : En → AS → Out D) (env : En) (st : AS) : Out D:=(fo env st).bind fun x st=>if (listOf st x).isSome = true then g x [] st else .bad
/-- a list that may change is put anew -/
@[simp] def putL (x : D) (st : AS) (k : List D → Option (D × List D)) : Out D:=match x with
 | .ref i=>(match st[i]? with
   | some (.lst ds)=>(match k ds with
     | some (r,ds')=>.ok r (st.set i (.lst ds'))
     | none=>.bad)
   | _=>.bad)
 | _=>.bad
theorem putL_ok {K : PySem.W.Frag} {mg : MG} {β : Bt} {H : Hp} {st : AS} {Q : VK} {x : D} {u : V} {k : List D → Option (D × List D)} (S : Sim K mg β st H) (rx : Rep K H β x u) (h : Post K mg (rD K) E β H Q (putL x st k)) :
   ∃ p us ds r ds',u = .ref p ∧ H p = some (.lst us) ∧ Reps K H β ds us ∧ k ds = some (r,ds') ∧ ∀ us' v,(Rep K H β r v) → Reps K H β ds' us' → Q v (upd H p (.lst us')):=by
 unfold putL at h
 cases rx with
 | ref e =>
   rename_i i p
   dsimp only at h
   split at h
   · rename_i ds e2
     split at h
     · rename_i r ds' ek
       obtain ⟨us,e3,q⟩:=S.cell i p _ e e2
       refine ⟨p,us,ds,r,ds',rfl,e3,q,ek,fun us' v rv q'=>?_⟩
       have hm : p ∈ β.l:=List.mem_of_getElem? e
       have x : Ext β H β (upd H p (.lst us')):=ext_put hm e3
       have S':=S.put (o:=.lst us') (c:=.lst ds') e ⟨us',upd_same,q'.ext x⟩
       exact h β _ v x S' (rv.ext x)
     · exact h.elim
   · exact h.elim
 | _=>exact h.elim
@[simp] def appD (x : D) (xs : List D) (st : AS) : Out D:=match xs with
 | [y]=>putL x st fun ds=>if ds.length < sizeLine then some (.non,ds ++ [y]) else none
 | _=>.bad
theorem one_ok {K : PySem.W.Frag} {H : Hp} {β : Bt} {y : D} {us : List V} (r : Reps K H β [y] us) : ∃ v,us = [v] ∧ Rep K H β y v:=by
 cases r with
 | cons a t=>cases t; exact ⟨_,rfl,a⟩
theorem om_append : OkM X E "list.append" appD:=⟨_,mt_append,fun β H st x xs u us Q S rx rs h=>by
 unfold appD at h
 split at h
 · rename_i y
   obtain ⟨v,rfl,rv⟩:=one_ok rs
   obtain ⟨p,ws,ds,r,ds',rfl,e,q,ek,hq⟩:=putL_ok S rx h
   split at ek
   · rename_i hl
     cases ek
     exact ⟨p,ws,v,rfl,rfl,e,by rw [q.length]; exact hl,hq _ _ .non (q.append (.cons rv .nil))⟩
   · cases ek
 · exact h.elim⟩
@[simp] def extD (x : D) (xs : List D) (st : AS) : Out D:=match xs with
 | [y]=>(match (match y with | .tup ds=>some ds | _=>listW st y) with
   | some zs=>putL x st fun ds=>if ds.length + zs.length ≤ sizeLine then some (.non,ds ++ zs) else none
   | none=>.bad)
 | _=>.bad
@[simp] def popD (x : D) (xs : List D) (st : AS) : Out D:=match xs with
 | []=>putL x st fun ds=>match ds[ds.length - 1]? with
   | some d=>some (d,ds.dropLast)
   | none=>none
 | _=>.bad
theorem Reps.dropLast {K : PySem.W.Frag} {H : Hp} {β : Bt} {ds : List D} {us : List V} (r : Reps K H β ds us) : Reps K H β ds.dropLast us.dropLast:=by
 rw [List.dropLast_eq_take,List.dropLast_eq_take,r.length]
 exact r.take _
end
end VL
namespace TB
open PySem PySem.Spec PyProof.Rows L2
end TB
namespace VL
open PySem PySem.Spec PyProof.Rows L2 TB
abbrev rE (K : PySem.W.Frag) (σ : L2.St) (ws : List Nat) : Hp → Bt → En → L2.St → Prop:=fun H β env σ2=>EnvR K H β env σ2 ∧ σ2.length = σ.length ∧ ∀ j,j ∉ ws → σ2[j]? = σ[j]?
def tVG (K : PySem.W.Frag) (mg : MG) (E : XK) (ws : List Nat) (g : D → En → AS → Out En) : TG:=fun v σ H Q=>∃ (β : Bt) (env : En) (st : AS) (d : D),EnvR K H β env σ ∧ Sim K mg β st H ∧ Rep K H β d v ∧ Post K mg (rE K σ ws) E β H Q (g d env st)
def tVGs (K : PySem.W.Frag) (mg : MG) (E : XK) (ws : List Nat) (g : List D → En → AS → Out En) : TGs:=fun vs σ H Q=>∃ (β : Bt) (env : En) (st : AS) (ds : List D),EnvR K H β env σ ∧ Sim K mg β st H ∧ Reps K H β ds vs ∧ Post K mg (rE K σ ws) E β H Q (g ds env st)
/-- a target; the slots that it fills -/
abbrev VG (X : Cx) (E : XK) (tg : Expr) (ws : List Nat) (g : D → En → AS → Out En) : Prop:=PG X tg (tVG X.K X.mgw E ws g)
abbrev VGs (X : Cx) (E : XK) (tgs : List Expr) (ws : List Nat) (g : List D → En → AS → Out En) : Prop:=PGs X tgs (tVGs X.K X.mgw E ws g)
theorem weakG {X : Cx} {e : Expr} {t t' : TG} (h : PG X e t) (w : ∀ v σ H Q,t' v σ H Q → t v σ H Q) : PG X e t':=⟨fun pins s σ H v u Q I r q=>h.run pins s σ H v u Q I r (w v σ H Q q)⟩
theorem weakGs {X : Cx} {e : List Expr} {t t' : TGs} (h : PGs X e t) (w : ∀ v σ H Q,t' v σ H Q → t v σ H Q) : PGs X e t':=⟨fun pins s σ H v u Q I r q=>h.run pins s σ H v u Q I r (w v σ H Q q)⟩
@[simp] def kName (i : Nat) (d : D) (env : En) (st : AS) : Out En:=.ok (env.set i (some d)) st
@[simp] def kNil (ds : List D) (env : En) (st : AS) : Out En:=match ds with
 | []=>.ok env st
 | _ :: _=>.bad
@[simp] def kCons (g : D → En → AS → Out En) (gs : List D → En → AS → Out En) (ds : List D) (env : En) (st : AS) : Out En:=match ds with
 | []=>.bad
 | d :: r=>(g d env st).bind fun env st=>gs r env st
@[simp] def kTup (n : Nat) (gs : List D → En → AS → Out En) (d : D) (env : En) (st : AS) : Out En:=match d with
 | .tup ds=>if ds.length = n then gs ds env st else .bad
 | .ctp ds=>if ds.length = n then gs ds env st else .bad
 | _=>.bad
section
variable {X : Cx} {E : XK} {e : Expr} {es : List Expr} {g : D → En → AS → Out En} {gs : List D → En → AS → Out En} {pos : Pos}
theorem vg_name {i : Nat} {x : Str} (hN : X.N.Nodup) (hi : X.N[i]? = some x) (hx : Loc X.env.scope x) (hf : X.fn x = true ∨ X.env.scope.names.lookup x = some .local:=by first | exact .inl rfl | exact .inr rfl | assumption) : VG X E (.Name x pos) [i] (kName i) :=
 weakG (pg_name hN hi hx hf) fun v σ H Q ⟨β,env,st,d,he,hs,r,h⟩=>h.here hs ⟨he.set r i,by simp,fun j hj=>List.getElem?_set_ne (fun z=>hj (by simp [z]))⟩
theorem vgs_nil : VGs X E [] [] kNil:=weakGs pgs_nil fun vs σ H Q ⟨β,env,st,ds,he,hs,r,h⟩=>by
 cases r with
 | nil=>exact ⟨rfl,h.here hs ⟨he,rfl,fun _ _=>rfl⟩⟩
 | cons _ _=>exact h.elim
theorem post_step {K : PySem.W.Frag} {mg : MG} {α ρ γ τ : Type} {R : Hp → Bt → α → ρ → Prop} {R' : Hp → Bt → γ → τ → Prop} {β : Bt} {H : Hp} {Q : τ → Hp → Prop} {Q' : ρ → Hp → Prop} {o : Out α} {k : α → AS → Out γ} (h : Post K mg R' E β H Q (o.bind k))
   (hk : ∀ a st1 β1 H1 u,Ext β H β1 H1 → Sim K mg β1 st1 H1 → R H1 β1 a u → Post K mg R' E β1 H1 Q (k a st1) → Q' u H1) : Post K mg R E β H Q' o:=by
 cases o with
 | ok a st=>exact fun β1 H1 u x s r=>hk a st β1 H1 u x s r (Post.ext x h)
 | exc c fs st=>exact h
 | bad=>exact h
theorem vgs_cons {w1 w2 : List Nat} (h1 : VG X E e w1 g) (h2 : VGs X E es w2 gs) (hs : (assignEach (e :: es) X.env).map (·.2) = assign e X.env :: (assignEach es X.env).map (·.2):=by rfl) : VGs X E (e :: es) (w1 ++ w2) (kCons g gs) :=
 weakGs (pgs_cons h1 h2 hs) fun vs σ H Q ⟨β,env,st,ds,he,hS,r,h⟩=>by
   cases r with
   | nil=>exact h.elim
   | cons r t =>
     refine ⟨_,_,rfl,β,env,st,_,he,hS,r,?_⟩
     refine post_step h fun env1 st1 β1 H1 σ1 x s e1 h1=>⟨β1,env1,st1,_,e1.1,s,t.ext x,?_⟩
     cases o : gs _ env1 st1 with
     | bad=>rw [o] at h1; exact h1
     | exc c fs st2=>rw [o] at h1; exact h1
     | ok env2 st2 =>
       rw [o] at h1
       exact fun β2 H2 σ2 x2 s2 e2=>h1 β2 H2 σ2 x2 s2 ⟨e2.1,e2.2.1.trans e1.2.1,fun j hj=>(e2.2.2 j fun z=>hj (List.mem_append_right _ z)).trans (e1.2.2 j fun z=>hj (List.mem_append_left _ z))⟩
theorem vg_tup {k n : Nat} {ws : List Nat} (hc : X.calm = true) (h : VGs X E es ws gs) (hn : (assignEach es X.env).length = n:=by rfl) (hst : (assignEach es X.env).findIdx? (·.1) = none:=by rfl) : VG X E (.Tuple es k pos) ws (kTup n gs) :=
 weakG (pg_tup hc h hn hst) fun v σ H Q ⟨β,env,st,d,he,hs,r,h⟩=>by
   unfold kTup at h
   cases r with
   | tup nm e r =>
     obtain ⟨hl,h⟩:=h.ite
     exact ⟨_,_,rfl,.inl (.inl e),by rw [r.length]; exact hl,β,env,st,_,he,hs,r,h⟩
   | ctp e r =>
     obtain ⟨hl,h⟩:=h.ite
     exact ⟨_,_,rfl,e.sq,by rw [r.length]; exact hl,β,env,st,_,he,hs,r,h⟩
   | _=>exact h.elim
/-- a list unpacked -/
@[simp] def kLst (n : Nat) (gs : List D → En → AS → Out En) (d : D) (env : En) (st : AS) : Out En:=match listOf st d with
 | some ds=>if ds.length = n then gs ds env st else .bad
 | none=>.bad
def putKD {κ : Type} [DecidableEq κ] (kvs : List (κ × D)) (k : κ) (d : D) : List (κ × D) :=
 if (kvs.any fun kv=>decide (kv.1 = k)) = true then kvs.map fun kv=>if kv.1 = k then (kv.1,d) else kv else kvs ++ [(k,d)]
@[simp] def setD (o i v : D) (st : AS) : Out Unit:=match o with
 | .ref n=>(match st[n]? with
   | some (.lst ds)=>(match i with
     | .int k=>(match ixN ds.length k with
       | some j=>.ok () (st.set n (.lst (ds.set j v)))
       | none=>.bad)
     | _=>.bad)
   | some (.dct kvs)=>(match keyD i with
     | some k=>if kvs.length < sizeLine then .ok () (st.set n (.dct (putKD kvs k v))) else .bad
     | none=>.bad)
   | some (.dtt kvs)=>(match i with
     | .tup ks=>(match keysD ks with
       | some k=>if kvs.length < sizeLine then .ok () (st.set n (.dtt (putKD kvs k v))) else .bad
       | none=>.bad)
     | _=>.bad)
   | _=>.bad)
 | _=>.bad
def rSetD : TSet:=fun o i v H Q=>∃ a H',o = .ref a ∧ DPut H a i v H' ∧ Q H'
theorem set_dict (hu : X.A.units + 1 < cLine) : PSet X rSetD:=by
 intro pins s σ H o i v ov iv u Q I ro ri rv h
 obtain ⟨a,H',rfl,g,q⟩:=h
 obtain rfl : ov = Value.ref a:=ro
 exact d_setItem hu I g ri rv fun s' I'=>⟨H',I',q⟩
theorem psetOr {t t' : TSet} (h : PSet X t) (h' : PSet X t') : PSet X (fun o i v H Q=>t o i v H Q ∨ t' o i v H Q):=by
 intro pins s σ H o i v ov iv u Q I ro ri rv q
 rcases q with q | q
 · exact h pins s σ H o i v ov iv u Q I ro ri rv q
 · exact h' pins s σ H o i v ov iv u Q I ro ri rv q
theorem RepK.put {κ : Type} [DecidableEq κ] {K : PySem.W.Frag} {H : Hp} {β : Bt} {kvs : List (κ × D)} {us : List (κ × V)} (h : RepK K H β kvs us) {d : D} {u : V} (r : Rep K H β d u) (k : κ) : RepK K H β (putKD kvs k d) (putK us k u):=by
 have ha : (us.any fun kv=>decide (kv.1 = k)) = kvs.any fun kv=>decide (kv.1 = k):=by
   rw [valV_any]
   exact h.any k
 unfold putKD putK
 rw [ha]
 split
 · have go : ∀ {kvs : List (κ × D)} {us : List (κ × V)}, RepK K H β kvs us → RepK K H β (kvs.map fun kv => if kv.1 = k then (kv.1, d) else kv) (us.map fun kv => if kv.1 = k then (kv.1, u) else kv) := by
     intro kvs
     induction kvs with
     | nil =>
       intro us h
       have : us = []:=List.length_eq_zero_iff.mp h.length
       subst this
       exact h
     | cons kv kvs ih =>
       intro us h
       cases us with
       | nil=>exact absurd h.length (by simp)
       | cons w us =>
         obtain ⟨h1,h2⟩:=h
         simp only [List.map_cons,List.cons.injEq] at h1
         cases h2 with
         | cons r1 t =>
           obtain ⟨i1,i2⟩:=ih (us:=us) ⟨h1.2,t⟩
           simp only [List.map_cons]
           by_cases e : kv.1 = k
           · have e' : w.1 = k:=h1.1.symm.trans e
             rw [if_pos e,if_pos e']
             exact ⟨by simp only [List.map_cons,i1,h1.1],.cons r i2⟩
           · have e' : ¬ w.1 = k:=fun z=>e (h1.1.trans z)
             rw [if_neg e,if_neg e']
             exact ⟨by simp only [List.map_cons,i1,h1.1],.cons r1 i2⟩
   exact go h
 · refine ⟨?_,?_⟩
   · rw [List.map_append,List.map_append,h.1]
     rfl
   · rw [List.map_append,List.map_append]
     exact h.2.append (.cons r .nil)
theorem set_ok {K : PySem.W.Frag} {mg : MG} {β : Bt} {H : Hp} {st : AS} {o i v : D} {uo ui uv : V} {Q : Hp → Prop} (S : Sim K mg β st H) (ro : Rep K H β o uo) (ri : Rep K H β i ui) (rv : Rep K H β v uv)
   (h : Post (ρ:=Unit) K mg (fun _ _ _ _=>True) E β H (fun _ H'=>Q H') (setD o i v st)) : rSetL uo ui uv H Q ∨ rSetD uo ui uv H Q:=by
 unfold setD at h
 cases ro with
 | ref er =>
   rename_i n p
   have hm : p ∈ β.l:=List.mem_of_getElem? er
   dsimp only at h
   split at h
   · rename_i ds e2
     cases ri with
     | int k =>
       dsimp only at h
       split at h
       · rename_i j ej
         obtain ⟨us,e3,q⟩:=S.cell n p _ er e2
         refine .inl ⟨p,us,k,j,rfl,rfl,e3,by rw [q.length]; exact ej,?_⟩
         have x : Ext β H β (upd H p (.lst (us.set j uv))):=ext_put hm e3
         have S':=S.put (o:=.lst (us.set j uv)) (c:=.lst (ds.set j v)) er ⟨_,upd_same,(Reps.set rv j q).ext x⟩
         exact h β _ () x S' trivial
       · exact h.elim
     | _=>exact h.elim
   · rename_i kvs e2
     split at h
     · rename_i k ek
       obtain ⟨hl,h⟩:=h.ite
       obtain ⟨us,e3,q⟩:=S.cell n p _ er e2
       rw [ri.key ek]
       refine .inr ⟨p,_,rfl,DPut.k e3 (by rw [q.length]; exact hl),?_⟩
       have x : Ext β H β (upd H p (.dK (putK us k uv))):=ext_put hm e3
       have S':=S.put (o:=.dK (putK us k uv)) (c:=.dct (putKD kvs k v)) er ⟨_,upd_same,(q.put rv k).ext x⟩
       exact h β _ () x S' trivial
     · exact h.elim
   · rename_i kvs e2
     cases ri with
     | tup n2 e4 r4 =>
       dsimp only at h
       split at h
       · rename_i k ek
         obtain ⟨hl,h⟩:=h.ite
         obtain ⟨us,e3,q⟩:=S.cell n p _ er e2
         have z:=r4.keys ek
         subst z
         refine .inr ⟨p,_,rfl,DPut.t e3 e4 (by rw [q.length]; exact hl),?_⟩
         have x : Ext β H β (upd H p (.dT (putK us k uv))):=ext_put hm e3
         have S':=S.put (o:=.dT (putK us k uv)) (c:=.dtt (putKD kvs k v)) er ⟨_,upd_same,(q.put rv k).ext x⟩
         exact h β _ () x S' trivial
       · exact h.elim
     | _=>exact h.elim
   · exact h.elim
 | _=>exact h.elim
@[simp] def kSub (fo fi : En → AS → Out D) (d : D) (env : En) (st : AS) : Out En:=(fo env st).bind fun o st=>(fi env st).bind fun i st=>(setD o i d st).bind fun _ st=>.ok env st
theorem vg_sub (hu : X.A.units + 65 < cLine) {o i : Expr} {fo fi : En → AS → Out D} (ho : VE X E o fo) (hi : VE X E i fi)
   (ha : ∀ v,assign (.Subscript o i pos) X.env v = (do
     let ov ← holding [v] (eval o X.env)
     let iv ← holding [v,ov] (eval i X.env)
     standAt pos
     holding [v,ov,iv] (setItem ov iv v)
     release [v,ov,iv] []):=by intro _; rfl) : VG X E (.Subscript o i pos) [] (kSub fo fi) :=
 weakG (pg_sub ho hi (psetOr set_list (set_dict (Nat.lt_of_le_of_lt (by omega) hu))) ha) fun v σ H Q ⟨β,env,st,d,he,hs,r,h⟩=>by
   refine tG_bind he hs h fun x st1 β1 H1 u x1 s1 e1 r1 h1=>?_
   refine tG_bind e1 s1 h1 fun y st2 β2 H2 w x2 s2 e2 r2 h2=>?_
   refine set_ok (E:=E) s2 (r1.ext x2) r2 ((r.ext x1).ext x2) ?_
   refine post_step (R:=fun _ _ _ _=>True) h2 fun _ st3 β3 H3 _ x3 s3 _ h3=>h3.here s3 ⟨e2.ext x3,rfl,fun _ _=>rfl⟩
end
inductive Fl where
 | nx (env : En) (s : AS) | rt (d : D) (s : AS) | bk (env : En) (s : AS) | ct (env : En) (s : AS)
 | exc (c : Str) (fs : List (Str × D)) (s : AS) | bad
def PostS (K : PySem.W.Frag) (mg : MG) (E : XK) (β : Bt) (H : Hp) (De : Ends) : Fl → Prop
 | .nx env st=>∀ β' H' σ',Ext β H β' H' → Sim K mg β' st H' → EnvR K H' β' env σ' → De.nx σ' H'
 | .bk env st=>∀ β' H' σ',Ext β H β' H' → Sim K mg β' st H' → EnvR K H' β' env σ' → De.bk σ' H'
 | .ct env st=>∀ β' H' σ',Ext β H β' H' → Sim K mg β' st H' → EnvR K H' β' env σ' → De.ct σ' H'
 | .rt d st=>∀ β' H' u,Ext β H β' H' → Sim K mg β' st H' → Rep K H' β' d u → De.rt u H'
 | .exc c fs st=>∀ β' H' cls d,Ext β H β' H' → Sim K mg β' st H' → XRep K mg H' β' c fs cls d → E cls d H'
 | .bad=>False
def tVS (K : PySem.W.Frag) (mg : MG) (E : XK) (f : En → AS → Fl) : TS:=fun De σ H=>∃ (β : Bt) (env : En) (st : AS),EnvR K H β env σ ∧ Sim K mg β st H ∧ PostS K mg E β H De (f env st)
abbrev VS (X : Cx) (E : XK) (s : Stmt) (f : En → AS → Fl) : Prop:=PS X s (tVS X.K X.mgw E f)
abbrev VSs (X : Cx) (E : XK) (s : List Stmt) (f : En → AS → Fl) : Prop:=PSs X s (tVS X.K X.mgw E f)
def Out.fl {α : Type} (o : Out α) (k : α → AS → Fl) : Fl:=match o with
 | .ok a s=>k a s
 | .exc c fs s=>.exc c fs s
 | .bad=>.bad
@[simp] theorem Out.fl_ok {α : Type} (a : α) (s : AS) (k : α → AS → Fl) : (Out.ok a s).fl k = k a s:=rfl
@[simp] theorem Out.fl_exc {α : Type} (c : Str) (fs : List (Str × D)) (s : AS) (k : α → AS → Fl) : (Out.exc c fs s : Out α).fl k = .exc c fs s:=rfl
@[simp] theorem Out.fl_bad {α : Type} (k : α → AS → Fl) : (Out.bad : Out α).fl k = .bad:=rfl
section
variable {K : PySem.W.Frag} {mg : MG} {E : XK} {β β' : Bt} {H H' : Hp} {De : Ends}
theorem PostS.ext {f : Fl} (x : Ext β H β' H') (h : PostS K mg E β H De f) : PostS K mg E β' H' De f:=by
 cases f with
 | nx env st=>exact fun β2 H2 u x2 s r=>h β2 H2 u (x.trans x2) s r
 | rt d st=>exact fun β2 H2 u x2 s r=>h β2 H2 u (x.trans x2) s r
 | bk env st=>exact fun β2 H2 u x2 s r=>h β2 H2 u (x.trans x2) s r
 | ct env st=>exact fun β2 H2 u x2 s r=>h β2 H2 u (x.trans x2) s r
 | exc c fs st=>exact fun β2 H2 cls d x2 s r=>h β2 H2 cls d (x.trans x2) s r
 | bad=>exact h
theorem fl_post {α ρ : Type} {R : Hp → Bt → α → ρ → Prop} {Q' : ρ → Hp → Prop} {o : Out α} {k : α → AS → Fl} (h : PostS K mg E β H De (o.fl k))
   (hk : ∀ a st1 β1 H1 u,Ext β H β1 H1 → Sim K mg β1 st1 H1 → R H1 β1 a u → PostS K mg E β1 H1 De (k a st1) → Q' u H1) : Post K mg R E β H Q' o:=by
 cases o with
 | ok a st=>exact fun β1 H1 u x s r=>hk a st β1 H1 u x s r (PostS.ext x h)
 | exc c fs st=>exact h
 | bad=>exact h
theorem fl_bind {α ρ : Type} {R : Hp → Bt → α → ρ → Prop} {Q' : ρ → Hp → Prop} {f : En → AS → Out α} {k : α → AS → Fl} {env : En} {st : AS} {σ : L2.St} (he : EnvR K H β env σ) (hs : Sim K mg β st H) (h : PostS K mg E β H De ((f env st).fl k))
   (hk : ∀ a st1 β1 H1 u,Ext β H β1 H1 → Sim K mg β1 st1 H1 → EnvR K H1 β1 env σ → R H1 β1 a u → PostS K mg E β1 H1 De (k a st1) → Q' u H1) : tG K mg R E f σ H Q' :=
 ⟨β,env,st,he,hs,fl_post h fun a st1 β1 H1 u x s r q=>hk a st1 β1 H1 u x s (he.ext x) r q⟩
end
@[simp] def sNext (env : En) (st : AS) : Fl:=.nx env st
def Fl.seq (o : Fl) (g : En → AS → Fl) : Fl:=match o with
 | .nx env st=>g env st
 | .rt d st=>.rt d st
 | .bk env st=>.bk env st
 | .ct env st=>.ct env st
 | .exc c fs st=>.exc c fs st
 | .bad=>.bad
@[simp] theorem Fl.seq_nx (env : En) (st : AS) (g : En → AS → Fl) : (Fl.nx env st).seq g = g env st:=rfl
@[simp] theorem Fl.seq_rt (d : D) (st : AS) (g : En → AS → Fl) : (Fl.rt d st).seq g = .rt d st:=rfl
@[simp] theorem Fl.seq_bk (env : En) (st : AS) (g : En → AS → Fl) : (Fl.bk env st).seq g = .bk env st:=rfl
@[simp] theorem Fl.seq_ct (env : En) (st : AS) (g : En → AS → Fl) : (Fl.ct env st).seq g = .ct env st:=rfl
@[simp] theorem Fl.seq_exc (c : Str) (fs : List (Str × D)) (st : AS) (g : En → AS → Fl) : (Fl.exc c fs st).seq g = .exc c fs st:=rfl
@[simp] theorem Fl.seq_bad (g : En → AS → Fl) : (Fl.bad).seq g = .bad:=rfl
@[simp] def sSeq (f g : En → AS → Fl) (env : En) (st : AS) : Fl:=(f env st).seq g
@[simp] def sBreak (env : En) (st : AS) : Fl:=.bk env st
@[simp] def sCont (env : En) (st : AS) : Fl:=.ct env st
@[simp] def sBad : En → AS → Fl:=fun _ _=>.bad
@[simp] def sExpr (f : En → AS → Out D) (env : En) (st : AS) : Fl:=(f env st).fl fun _ st=>.nx env st
@[simp] def sRet (f : En → AS → Out D) (env : En) (st : AS) : Fl:=(f env st).fl fun d st=>.rt d st
@[simp] def sIf (c : En → AS → Out Bool) (f g : En → AS → Fl) (env : En) (st : AS) : Fl:=(c env st).fl fun b st=>if b = true then f env st else g env st
@[simp] def sSet (i : Nat) (f : En → AS → Out D) (env : En) (st : AS) : Fl:=(f env st).fl fun d st=>.nx (env.set i (some d)) st
@[simp] def sAsg (f : En → AS → Out D) (g : D → En → AS → Out En) (env : En) (st : AS) : Fl:=(f env st).fl fun d st=>(g d env st).fl fun env st=>.nx env st
@[simp] def sPar (i j : Nat) (f : En → AS → Out (List D)) (env : En) (st : AS) : Fl:=(f env st).fl fun ds st=>match ds with
 | [a,b]=>.nx ((env.set i (some a)).set j (some b)) st
 | _=>.bad
@[simp] def sPar3 (i j l : Nat) (f : En → AS → Out (List D)) (env : En) (st : AS) : Fl:=(f env st).fl fun ds st=>match ds with
 | [a,b,c]=>.nx (((env.set i (some a)).set j (some b)).set l (some c)) st
 | _=>.bad
section
variable {X : Cx} {E : XK} {s : Stmt} {ss : List Stmt} {f g : En → AS → Fl} {e : Expr} {fe : En → AS → Out D} {pos : Pos}
theorem vss_nil : VSs X E [] sNext:=weakSs pss_nil fun De σ H ⟨β,env,st,he,hs,h⟩=>h β H σ (Ext.refl _ _) hs he
theorem vss_one (h : VS X E s f) : VSs X E [s] f:=pss_one h
theorem vss_cons (h1 : VS X E s f) (h2 : VSs X E ss g) : VSs X E (s :: ss) (sSeq f g):=by
 refine weakSs (pss_cons h1 h2) fun De σ H ⟨β,env,st,he,hs,h⟩=>⟨β,env,st,he,hs,?_⟩
 unfold sSeq Fl.seq at h
 cases e : f env st with
 | nx env1 st1 =>
   rw [e] at h
   exact fun β1 H1 σ1 x s1 e1=>⟨β1,env1,st1,e1,s1,PostS.ext x h⟩
 | rt d st1=>rw [e] at h; exact h
 | bk d st1=>rw [e] at h; exact h
 | ct d st1=>rw [e] at h; exact h
 | exc c fs st1=>rw [e] at h; exact h
 | bad=>rw [e] at h; exact h
theorem vs_break : VS X E (.Break pos) sBreak:=weakS ps_break fun De σ H ⟨β,env,st,he,hs,h⟩=>h β H σ (Ext.refl _ _) hs he
theorem vs_expr (he : VE X E e fe) (hs : swapsWith e none pos.line X.env = pure false:=by rfl) : VS X E (.Expr e pos) (sExpr fe) :=
 weakS (ps_expr he hs) fun De σ H ⟨β,env,st,he,hs,h⟩=>fl_bind he hs h fun a st1 β1 H1 u x s1 e1 r1 h1=>h1 β1 H1 σ (Ext.refl _ _) s1 e1
theorem vs_ret (he : VE X E e fe) : VS X E (.Return (some e) pos) (sRet fe) :=
 weakS (ps_ret he) fun De σ H ⟨β,env,st,he,hs,h⟩=>fl_bind he hs h fun a st1 β1 H1 u x s1 e1 r1 h1=>h1 β1 H1 u (Ext.refl _ _) s1 r1
theorem vs_if {c : Expr} {a b : List Stmt} {fc : En → AS → Out Bool} (hc : VT X E c fc) (ha : VSs X E a f) (hb : VSs X E b g) : VS X E (.If c a b pos) (sIf fc f g) :=
 weakS (ps_if hc ha hb) fun De σ H ⟨β,env,st,he,hs,h⟩=>fl_bind he hs h fun k st1 β1 H1 u x s1 e1 r1 h1=>by
   obtain rfl : k = u:=r1
   cases k with
   | true=>exact ⟨β1,env,st1,e1,s1,h1⟩
   | false=>exact ⟨β1,env,st1,e1,s1,h1⟩
theorem vs_set {i : Nat} {x : Str} {pos' : Pos} (hN : X.N.Nodup) (hi : X.N[i]? = some x) (hx : Loc X.env.scope x) (he : VE X E e fe) (hs : swapsWith e (some (.Name x pos')) pos.line X.env = pure false := by rfl) (hf : X.fn x = true ∨ X.env.scope.names.lookup x = some .local := by first | exact .inl rfl | exact .inr rfl | assumption) :
   VS X E (.Assign [.Name x pos'] e pos) (sSet i fe) :=
 weakS (ps_set hN hi hx he hs hf) fun De σ H ⟨β,env,st,he,hs,h⟩=>fl_bind he hs h fun a st1 β1 H1 u x s1 e1 r1 h1=>h1 β1 H1 _ (Ext.refl _ _) s1 (e1.set r1 i)
theorem vs_asg {tg : Expr} {gt : D → En → AS → Out En} {ws : List Nat} (he : VE X E e fe) (hg : VG X E tg ws gt) (hs : swapsWithSole [tg] e pos.line X.env = pure false := by rfl) (hw : swappedStores [tg] e X.env = pure none := by rfl)
   (h1 : (assignEach [tg] X.env).map (·.2) = [assign tg X.env]:=by rfl) : VS X E (.Assign [tg] e pos) (sAsg fe gt) :=
 weakS (ps_asg he hg hs hw h1) fun De σ H ⟨β,env,st,he,hs,h⟩=>fl_bind he hs h fun a st1 β1 H1 u x s1 e1 r1 h1 =>
   ⟨β1,env,st1,a,e1,s1,r1,fl_post h1 fun env2 st2 β2 H2 σ2 x2 s2 e2 h2=>h2 β2 H2 σ2 (Ext.refl _ _) s2 e2.1⟩
end
end VL
namespace VL
open PySem PySem.Spec PyProof.Rows L2 TB
section
variable {X : Cx} {E : XK} {s : Stmt} {ss : List Stmt} {f g : En → AS → Fl} {e : Expr} {fe : En → AS → Out D} {pos : Pos}
theorem vs_par {i j : Nat} {x y : Str} {a b : Expr} {fs : En → AS → Out (List D)} {px py pt : Pos} {kt k2 pt2} (hc : X.calm = true) (hN : X.N.Nodup) (hi : X.N[i]? = some x) (hj : X.N[j]? = some y) (hij : i ≠ j)
   (hx : X.env.scope.names.lookup x = some .local) (hy : X.env.scope.names.lookup y = some .local) (ha : VA X E [a,b] fs)
   (hw : swappedStores [.Tuple [.Name x px,.Name y py] kt pt] (.Tuple [a,b] k2 pt2) X.env = pure (some [x,y]))
   (hs : swapsWithSole [.Tuple [.Name x px,.Name y py] kt pt] (.Tuple [a,b] k2 pt2) pos.line X.env = pure false:=by rfl) :
   VS X E (.Assign [.Tuple [.Name x px,.Name y py] kt pt] (.Tuple [a,b] k2 pt2) pos) (sPar i j fs) :=
 weakS (ps_par hc hN hi hj hij hx hy ha hw hs) fun De σ H ⟨β,env,st,he,hs,h⟩=>fl_bind he hs h fun ds st1 β1 H1 us x s1 e1 r1 h1=>by
   cases r1 with
   | nil=>exact h1.elim
   | cons a t =>
     cases t with
     | nil=>exact h1.elim
     | cons b t =>
       cases t with
       | nil=>exact ⟨_,_,rfl,h1 β1 H1 _ (Ext.refl _ _) s1 ((e1.set a i).set b j)⟩
       | cons _ _=>exact h1.elim
@[simp] def sAug (i : Nat) (op : D → D → AS → Out D) (fe : En → AS → Out D) (env : En) (st : AS) : Fl:=(vVar i env st).fl fun x st=>(fe env st).fl fun y st=>(op x y st).fl fun z st=>.nx (env.set i (some z)) st
def OkI (X : Cx) (E : XK) (op : Operator) (g : D → D → AS → Out D) : Prop:=∃ r,PIp X op r ∧ Ok2 X.K X.mgw E r g
theorem vs_aug {i : Nat} {x : Str} {op : Operator} {gi : D → D → AS → Out D} {pos' : Pos} (hN : X.N.Nodup) (hi : X.N[i]? = some x) (hx : Loc X.env.scope x) (he : VE X E e fe) (ho : OkI X E op gi) (hf : X.fn x = true ∨ X.env.scope.names.lookup x = some .local := by first | exact .inl rfl | exact .inr rfl | assumption) :
   VS X E (.AugAssign (.Name x pos') op e pos) (sAug i gi fe):=by
 obtain ⟨r,h1,h2⟩:=ho
 refine weakS (ps_aug hN hi hx he h1 hf) fun De σ H ⟨β,env,st,he,hs,h⟩=>?_
 unfold sAug at h
 cases ev : vVar i env st with
 | bad=>rw [ev] at h; exact h.elim
 | exc c fs st1 =>
   unfold vVar at ev
   split at ev <;> cases ev
 | ok d st1 =>
   rw [ev] at h
   unfold vVar at ev
   split at ev
   · rename_i d' e'
     cases ev
     obtain ⟨u,e2,r2⟩:=he.get i d e'
     refine ⟨u,e2,fl_bind he hs h fun y st2 β2 H2 v x2 s2 e2 r3 h3=>?_⟩
     refine h2 β2 H2 st2 d y u v _ s2 (r2.ext x2) r3 (fl_post h3 fun z st4 β4 H4 w x4 s4 r4 h4=>?_)
     exact h4 β4 H4 _ (Ext.refl _ _) s4 ((e2.ext x4).set r4 i)
   · cases ev
theorem oi_add : OkI X E .Add (iiD fun a b=>.int (a + b)):=⟨_,ip_add,fun β H st x y u v Q S rx ry h=>by
 obtain ⟨i,j,rfl,rfl,h⟩:=ii_ok rx ry h
 exact ⟨i,j,rfl,rfl,h.here S (.int _)⟩⟩
theorem oi_sub : OkI X E .Sub (iiD fun a b=>.int (a - b)):=⟨_,ip_sub,fun β H st x y u v Q S rx ry h=>by
 obtain ⟨i,j,rfl,rfl,h⟩:=ii_ok rx ry h
 exact ⟨i,j,rfl,rfl,h.here S (.int _)⟩⟩
end
abbrev Gd:=List (Nat × C)
/-- the things that are walked stand as they stood -/
def Gd.ok (gs : Gd) (st : AS) : Prop:=∀ p ∈ gs,st[p.1]? = some p.2
structure WalkD (K : PySem.W.Frag) (mg : MG) (β : Bt) (H : Hp) (J : It) (items : List D) (gs : Gd) : Prop where
 go : ∀ i β' H' st,ExtF β H β' H' → Sim K mg β' st H' → gs.ok st → i < items.length → J.go i H'
 stop : ∀ β' H' st,ExtF β H β' H' → Sim K mg β' st H' → gs.ok st → J.stop items.length H'
 yld : ∀ i β' H' st x H2,ExtF β H β' H' → Sim K mg β' st H' → gs.ok st → i < items.length → J.yld i H' x H2 → Same H' H2 ∧ ∃ d,items[i]? = some d ∧ Rep K H2 β' d x
abbrev rI (K : PySem.W.Frag) (mg : MG) : Hp → Bt → (List D × Gd) → It → Prop:=fun H β p J=>WalkD K mg β H J p.1 p.2
abbrev VI (X : Cx) (E : XK) (tg iter : Expr) (f : En → AS → Out (List D × Gd)) : Prop:=PI X tg iter (tG X.K X.mgw (rI X.K X.mgw) E f)
theorem weakI {X : Cx} {tg e : Expr} {t t' : TI} (h : PI X tg e t) (w : ∀ σ H Q,t' σ H Q → t σ H Q) : PI X tg e t':=⟨fun pins s σ H Q I q=>h.run pins s σ H Q I (w σ H Q q)⟩
theorem orI {X : Cx} {tg e : Expr} {t t' : TI} (h : PI X tg e t) (h' : PI X tg e t') : PI X tg e (fun σ H Q=>t σ H Q ∨ t' σ H Q):=⟨fun pins s σ H Q I q=>q.elim (h.run pins s σ H Q I) (h'.run pins s σ H Q I)⟩
section
variable {K : PySem.W.Frag} {mg : MG} {β β' : Bt} {H H' : Hp} {st : AS}
/-- a plain walk over values that stand for the data ds -/
theorem walk_at {J : It} {G : List V → Hp → Prop} {ds : List D} {gs : Gd} (hW : ∀ us : List V, us.length = ds.length → Walk J ds.length (G us) (YAt us))
   (hG : ∀ β' H' st,ExtF β H β' H' → Sim K mg β' st H' → gs.ok st → ∃ us,G us H' ∧ Reps K H' β' ds us) : WalkD K mg β H J ds gs:=by
 refine ⟨fun i β' H' st x S g hi=>?_,fun β' H' st x S g=>?_,fun i β' H' st v H2 x S g hi y=>?_⟩
 · obtain ⟨us,q,r⟩:=hG β' H' st x S g
   exact (hW us r.length).goes i H' hi q
 · obtain ⟨us,q,r⟩:=hG β' H' st x S g
   exact (hW us r.length).stops H' q
 · obtain ⟨us,q,r⟩:=hG β' H' st x S g
   obtain ⟨rfl,e⟩:=(hW us r.length).yields i H' v H2 hi q y
   obtain ⟨d,e2,r2⟩:=r.get' e
   exact ⟨Same.refl _,d,e2,r2⟩
theorem gd_nil {gs : Gd} (h : gs = []) {st : AS} : gs.ok st:=by
 subst h
 exact fun p hp=>nomatch hp
theorem walk_strD {z : Str} : WalkD K mg β H (Its z) (z.cps.toList.map fun c=>.str ⟨#[c]⟩) []:=by
 have hl : (z.cps.toList.map fun c=>D.str ⟨#[c]⟩).length = z.cps.size:=by simp
 refine ⟨fun i β' H' st x S g hi=>(walk_str (z:=z)).goes i H' (by omega) trivial,fun β' H' st x S g=>by rw [hl]; exact (walk_str (z:=z)).stops H' trivial,fun i β' H' st v H2 x S g hi y=>?_⟩
 obtain ⟨rfl,c,ec,rfl⟩:=(walk_str (z:=z)).yields i H' v H2 (by omega) trivial y
 refine ⟨Same.refl _,.str ⟨#[c]⟩,?_,.str _⟩
 rw [List.getElem?_map,Array.getElem?_toList,ec]
 rfl
/-- the list that d is,later too -/
def gdOf (d : D) (ds : List D) : Gd:=match d with
 | .ref i=>[(i,.lst ds)]
 | _=>[]
def isTupD : D → Bool
 | .tup _=>true
 | .ctp _=>true
 | _=>false
def SqB (t : Bool) (K : PySem.W.Frag) (H : Hp) (a : Addr) (us : List V) : Prop:=match t with
 | true=>SqT K H a us
 | false=>SqL K H a us
theorem later {d : D} {u : V} {ds : List D} (S : Sim K mg β st H) (r : Rep K H β d u) (h : seqOf st d = some ds) :
   ∃ a,u = .ref a ∧ ∀ β' H' st',ExtF β H β' H' → Sim K mg β' st' H' → (gdOf d ds).ok st' → ∃ us',SqB (isTupD d) K H' a us' ∧ Reps K H' β' ds us':=by
 cases r with
 | tup n e q =>
   cases h
   exact ⟨_,rfl,fun β' H' st' x _ _=>⟨_,.inl (.inl (x.kept _ _ e n).1),q.extW x.toExtW⟩⟩
 | ctp e q =>
   cases h
   exact ⟨_,rfl,fun β' H' st' x _ _=>⟨_,(e.imp fun o z n=>x.kept _ _ z n).sq,q.extW x.toExtW⟩⟩
 | lst n e q =>
   cases h
   exact ⟨_,rfl,fun β' H' st' x _ _=>⟨_,.inl (.inl (x.kept _ _ e n).1),q.extW x.toExtW⟩⟩
 | fzl e q =>
   cases h
   exact ⟨_,rfl,fun β' H' st' x _ _=>⟨_,SqL.fz (e.imp (fun z=>x.rd z.1 z.2) id),q.extW x.toExtW⟩⟩
 | ref e =>
   rename_i i a
   refine ⟨a,rfl,fun β' H' st' x S' g=>?_⟩
   have e2:=g (i,.lst ds) (by simp [gdOf])
   obtain ⟨us,e3,q⟩:=S'.cell i a _ (x.at e) e2
   exact ⟨us,.inl (.inl e3),q⟩
 | non=>cases h
 | bl b=>cases h
 | int b=>cases h
 | str b=>cases h
 | cv=>cases h
end
section
variable {X : Cx} {E : XK} {tg e e2 : Expr} {es : List Expr} {fe : En → AS → Out D} {fs : En → AS → Out (List D)} {pos p : Pos}
@[simp] def itD (d : D) (st : AS) : Out (List D × Gd):=match seqOf st d with
 | some ds=>.ok (ds,gdOf d ds) st
 | none=>match d with
   | .str z=>.ok (z.cps.toList.map fun c=>.str ⟨#[c]⟩,[]) st
   | _=>.bad
theorem vi_seq (he : VE X E e fe) : VI X E tg e (v1 itD fe):=by
 refine weakI (orI (pi_list he) (orI (pi_tup he) (pi_str he))) fun σ H Q h=>?_
 obtain ⟨β,env,st,hE,hS,h⟩:=h
 cases ev : fe env st with
 | bad =>
   unfold v1 at h
   rw [ev] at h
   exact h.elim
 | exc c fs st1 =>
   unfold v1 at h
   rw [ev] at h
   refine .inl ⟨β,env,st,hE,hS,?_⟩
   rw [ev]
   exact h
 | ok d st1 =>
   unfold v1 at h
   rw [ev] at h
   change Post X.K X.mgw (rI X.K X.mgw) E β H Q (itD d st1) at h
   unfold itD at h
   split at h
   · rename_i ds eq
     by_cases ht : isTupD d = true
     · refine .inr (.inl ⟨β,env,st,hE,hS,?_⟩)
       rw [ev]
       intro β1 H1 u x1 s1 r1
       obtain ⟨a,rfl,hl⟩:=later s1 r1 eq
       rw [ht] at hl
       have hg : ∀ st',(gdOf d ds).ok st':=fun st'=>gd_nil (by cases d <;> first | rfl | cases ht)
       refine ⟨a,rfl,?_,h β1 H1 (Itt X.K a) x1 s1 ?_⟩
       · obtain ⟨us,q,_⟩:=hl β1 H1 st1 (ExtF.refl _ _) s1 (hg st1)
         exact ⟨us,q⟩
       · exact walk_at (G:=fun us H=>SqT X.K H a us) (fun us hu=>hu ▸ walk_tup) hl
     · refine .inl ⟨β,env,st,hE,hS,?_⟩
       rw [ev]
       intro β1 H1 u x1 s1 r1
       obtain ⟨a,rfl,hl⟩:=later s1 r1 eq
       rw [Bool.not_eq_true] at ht
       rw [ht] at hl
       have hg : (gdOf d ds).ok st1:=by
         cases d with
         | ref i =>
           intro p hp
           cases List.mem_singleton.mp hp
           unfold seqOf listOf at eq
           dsimp only at eq
           split at eq
           · rename_i z
             cases eq
             exact z
           · cases eq
         | _=>exact gd_nil rfl
       refine ⟨a,rfl,?_,h β1 H1 (Itl X.K a) x1 s1 ?_⟩
       · obtain ⟨us,q,_⟩:=hl β1 H1 st1 (ExtF.refl _ _) s1 hg
         exact ⟨us,q⟩
       · exact walk_at (G:=fun us H=>SqL X.K H a us) (fun us hu=>hu ▸ walk_list) hl
   · split at h
     · rename_i z _
       refine .inr (.inr ⟨β,env,st,hE,hS,?_⟩)
       rw [ev]
       intro β1 H1 u x1 s1 r1
       cases r1 with
       | str z =>
         exact ⟨z,rfl,h β1 H1 (Its z) x1 s1 walk_strD⟩
     · exact h.elim
/-- range -/
def rngL (lo : Int) (n : Nat) : List D:=(List.range n).map fun k=>.int (lo + (k : Nat))
def rng1 (xs : List D) (st : AS) : Out (List D × Gd):=match xs with
 | [.int j]=>if -(2 ^ 62) ≤ j ∧ j < 2 ^ 62 then .ok (rngL 0 j.toNat,[]) st else .bad
 | _=>.bad
theorem walk_rng {K : PySem.W.Frag} {mg : MG} {β : Bt} {H : Hp} {lo : Int} {n : Nat} : WalkD K mg β H (Itr lo n) (rngL lo n) []:=by
 have hl : (rngL lo n).length = n:=by simp [rngL]
 refine ⟨fun i β' H' st x S g hi=>(walk_range (lo:=lo) (n:=n)).goes i H' (by omega) trivial,fun β' H' st x S g=>by rw [hl]; exact (walk_range (lo:=lo) (n:=n)).stops H' trivial,fun i β' H' st v H2 x S g hi y=>?_⟩
 obtain ⟨rfl,rfl⟩:=(walk_range (lo:=lo) (n:=n)).yields i H' v H2 (by omega) trivial y
 refine ⟨Same.refl _,.int (lo + (i : Nat)),?_,.int _⟩
 unfold rngL
 rw [List.getElem?_map,List.getElem?_range (by omega)]
 rfl
theorem vi_range1 {a : Expr} (hg : Gl X "range") (hm : X.mg "range" = none) (ha : VA X E [a] fs) (hs : starEach [a] X.env = [(false,eval a X.env)]:=by rfl) : VI X E tg (.Call (.Name "range" p) [a] [] pos) (vA rng1 fs) :=
 weakI (pi_range1 hg hm ha hs) fun σ H Q ⟨β,env,st,he,hs,h⟩=>tG_bind he hs h fun ds st1 β1 H1 us x1 s1 e1 r1 h1=>by
   unfold rng1 at h1
   split at h1
   · rename_i j
     obtain ⟨v,rfl,rv⟩:=one_ok r1
     cases rv
     obtain ⟨⟨b1,b2⟩,h1⟩:=h1.ite
     exact ⟨j,rfl,b1,b2,h1.here s1 walk_rng⟩
   · exact h1.elim
@[simp] def enumD (xs : List D) (st : AS) : Out (List D × Gd):=match xs with
 | [d]=>(match seqOf st d with
   | some ds=>.ok (ds.zipIdx.map fun p=>.tup [.int (p.2 : Nat),p.1],gdOf d ds) st
   | none=>.bad)
 | _=>.bad
@[simp] def zipD (xs : List D) (st : AS) : Out (List D × Gd):=match xs with
 | [d,e]=>(match seqOf st d,seqOf st e with
   | some ds,some es=>.ok ((ds.zip es).map fun p=>.tup [p.1,p.2],gdOf d ds ++ gdOf e es) st
   | _,_=>.bad)
 | _=>.bad
end
@[simp] theorem gd_ok_nil (st : AS) : Gd.ok [] st = True:=eq_true (gd_nil rfl)
/-- a turn of a loop's body,then the rest -/
def Fl.turn (o : Fl) (k : En → AS → Fl) : Fl:=match o with
 | .nx env st=>k env st
 | .ct env st=>k env st
 | .bk env st=>.nx env st
 | .rt d st=>.rt d st
 | .exc c fs st=>.exc c fs st
 | .bad=>.bad
@[simp] theorem Fl.turn_nx (env : En) (st : AS) (g : En → AS → Fl) : (Fl.nx env st).turn g = g env st:=rfl
@[simp] theorem Fl.turn_rt (d : D) (st : AS) (g : En → AS → Fl) : (Fl.rt d st).turn g = .rt d st:=rfl
@[simp] theorem Fl.turn_bk (env : En) (st : AS) (g : En → AS → Fl) : (Fl.bk env st).turn g = .nx env st:=rfl
@[simp] theorem Fl.turn_ct (env : En) (st : AS) (g : En → AS → Fl) : (Fl.ct env st).turn g = g env st:=rfl
@[simp] theorem Fl.turn_exc (c : Str) (fs : List (Str × D)) (st : AS) (g : En → AS → Fl) : (Fl.exc c fs st).turn g = .exc c fs st:=rfl
@[simp] theorem Fl.turn_bad (g : En → AS → Fl) : (Fl.bad).turn g = .bad:=rfl
noncomputable instance (gs : Gd) (st : AS) : Decidable (Gd.ok gs st):=Classical.propDecidable _
noncomputable def forL (g : D → En → AS → Out En) (body : En → AS → Fl) (gs : Gd) : List D → En → AS → Fl
 | [],env,st=>if gs.ok st then .nx env st else .bad
 | d :: ds,env,st=>if gs.ok st then (g d env st).fl fun env st=>(body env st).turn (forL g body gs ds)
   else .bad
@[simp] noncomputable def sFor (fi : En → AS → Out (List D × Gd)) (g : D → En → AS → Out En) (body : En → AS → Fl) (env : En) (st : AS) : Fl:=(fi env st).fl fun p st=>forL g body p.2 p.1 env st
theorem PostS.ite {K : PySem.W.Frag} {mg : MG} {E : XK} {β : Bt} {H : Hp} {De : Ends} {p : Prop} [Decidable p] {o : Fl} (h : PostS K mg E β H De (if p then o else .bad)) : p ∧ PostS K mg E β H De o:=by
 by_cases hp : p
 · rw [if_pos hp] at h
   exact ⟨hp,h⟩
 · rw [if_neg hp] at h
   exact h.elim
section
variable {X : Cx} {E : XK} {tg it : Expr} {body : List Stmt} {fi : En → AS → Out (List D × Gd)} {g : D → En → AS → Out En} {fb : En → AS → Fl} {pos : Pos}
theorem vs_for {ws : List Nat} (hp : PassesOwn (model X.prog X.w) X.A X.env X.xe) (hc : X.calm = true) (hi : VI X E tg it fi) (hg : VG X E tg ws g) (hb : VSs X E body fb)
   (hs : ∀ x,foldedSetIterable it X.env x = pure x:=by intro _; rfl) : VS X E (.For tg it body [] pos) (sFor fi g fb):=by
 refine weakS (ps_for hp hc hi hg hb hs) fun De σ H ⟨β,env,st,he,hs,h⟩=>?_
 refine fl_bind he hs h fun pr st1 β1 H1 J x1 s1 e1 w h1=>?_
 obtain ⟨items,gs⟩:=pr
 refine ⟨fun i m σ H=>m = items.length - i ∧ i ≤ items.length ∧ ∃ β' env st,EnvR X.K H β' env σ ∧ Sim X.K X.mgw β' st H ∧ Ext β1 H1 β' H ∧ PostS X.K X.mgw E β' H De (forL g fb gs (items.drop i) env st),⟨_,rfl,Nat.zero_le _,β1,env,st1,e1,s1,Ext.refl _ _,h1⟩,?_⟩
 rintro i m σ H ⟨rfl,hi,β2,env,st,he,hs,x,h⟩
 by_cases hlt : i < items.length
 · have ed : items.drop i = items[i] :: items.drop (i + 1):=List.drop_eq_getElem_cons hlt
   rw [ed,forL] at h
   obtain ⟨gk,h⟩:=h.ite
   refine .inr ⟨w.go i β2 H st x.weakF hs gk hlt,fun σ' H'=>∃ β' env st,EnvR X.K H' β' env σ' ∧ Sim X.K X.mgw β' st H' ∧ Ext β1 H1 β' H' ∧ PostS X.K X.mgw E β' H' De (forL g fb gs (items.drop (i + 1)) env st),?_,fun v H' y=>?_⟩
   · rintro σ' H' ⟨β',env',st',a,b,c,d⟩
     exact ⟨items.length - (i + 1),by omega,rfl,hlt,β',env',st',a,b,c,d⟩
   · obtain ⟨sm,d,e2,r⟩:=w.yld i β2 H st v H' x.weakF hs gk hlt y
     have e3 : d = items[i]:=by
       rw [List.getElem?_eq_getElem hlt] at e2
       exact (Option.some.inj e2).symm
     have x2 : Ext β2 H β2 H':=Ext.same sm
     rw [← e3] at h
     refine ⟨β2,env,st,d,he.ext x2,hs.same sm,r,fl_post (PostS.ext x2 h) fun env1 st2 β3 H3 σ3 x3 s3 e3 h3=>?_⟩
     refine ⟨β3,env1,st2,e3.1,s3,?_⟩
     cases o : fb env1 st2 with
     | nx env2 st3 =>
       simp only [o,Fl.turn] at h3
       exact fun β4 H4 σ4 x4 s4 e4=>⟨β4,env2,st3,e4,s4,((x.trans x2).trans x3).trans x4,PostS.ext x4 h3⟩
     | ct env2 st3 =>
       simp only [o,Fl.turn] at h3
       exact fun β4 H4 σ4 x4 s4 e4=>⟨β4,env2,st3,e4,s4,((x.trans x2).trans x3).trans x4,PostS.ext x4 h3⟩
     | bk env2 st3=>simp only [o,Fl.turn] at h3; exact h3
     | rt d2 st3=>simp only [o,Fl.turn] at h3; exact h3
     | exc c fs st3=>simp only [o,Fl.turn] at h3; exact h3
     | bad=>simp only [o,Fl.turn] at h3; exact h3
 · have e : i = items.length:=by omega
   subst e
   rw [List.drop_length,forL] at h
   obtain ⟨gk,h⟩:=h.ite
   exact .inl ⟨w.stop β2 H st x.weakF hs gk,h β2 H σ (Ext.refl _ _) hs he⟩
def whL (c : En → AS → Out Bool) (body : En → AS → Fl) : Nat → En → AS → Fl
 | 0,_,_=>.bad
 | n + 1,env,st=>(c env st).fl fun b st=>if b = true then (body env st).turn (whL c body n) else .nx env st
theorem whL_more {c : En → AS → Out Bool} {body : En → AS → Fl} : ∀ {n : Nat} {env : En} {st : AS},whL c body n env st ≠ .bad → ∀ m,n ≤ m → whL c body m env st = whL c body n env st
 | 0,env,st,h,m,hm=>absurd rfl h
 | n + 1,env,st,h,0,hm=>by omega
 | n + 1,env,st,h,m + 1,hm=>by
   rw [whL] at h
   rw [whL,whL]
   cases e : c env st with
   | bad=>rfl
   | exc x fs s=>rfl
   | ok b s =>
     rw [e] at h
     simp only [Out.fl_ok] at h ⊢
     cases b with
     | false=>rfl
     | true =>
       simp only [if_true] at h ⊢
       cases o : body env s with
       | nx env2 s2 =>
         simp only [o,Fl.turn] at h ⊢
         exact whL_more h m (by omega)
       | ct env2 s2 =>
         simp only [o,Fl.turn] at h ⊢
         exact whL_more h m (by omega)
       | _=>simp only [Fl.turn]
open Classical in
noncomputable def sWhile (c : En → AS → Out Bool) (body : En → AS → Fl) (env : En) (st : AS) : Fl:=if h : ∃ n,whL c body n env st ≠ .bad then whL c body h.choose env st else .bad
theorem sWhile_eq {c : En → AS → Out Bool} {body : En → AS → Fl} {env : En} {st : AS} {n : Nat} {r : Fl} (h : whL c body n env st = r) (hr : r ≠ .bad) : sWhile c body env st = r:=by
 have ex : ∃ n,whL c body n env st ≠ .bad:=⟨n,by rw [h]; exact hr⟩
 unfold sWhile
 rw [dif_pos ex]
 have h2:=ex.choose_spec
 rcases Nat.le_total n ex.choose with z | z
 · rw [whL_more (by rw [h]; exact hr) _ z,h]
 · rw [← whL_more h2 _ z,h]
theorem vs_while {c : Expr} {fc : En → AS → Out Bool} (hp : PassesOwn (model X.prog X.w) X.A X.env X.xe) (hc : VT X E c fc) (hb : VSs X E body fb) : VS X E (.While c body [] pos) (sWhile fc fb):=by
 refine weakS (ps_while hp hc hb) fun De σ H ⟨β,env,st,he,hs,h⟩=>?_
 unfold sWhile at h
 split at h
 · rename_i ex
   generalize ex.choose = n at h
   refine ⟨fun m σ H=>∃ β env st,EnvR X.K H β env σ ∧ Sim X.K X.mgw β st H ∧ PostS X.K X.mgw E β H De (whL fc fb m env st),⟨n,β,env,st,he,hs,h⟩,?_⟩
   rintro m σ H ⟨β,env,st,he,hs,h⟩
   cases m with
   | zero=>exact h.elim
   | succ m =>
     rw [whL] at h
     refine fl_bind he hs h fun b st1 β1 H1 b' x s1 e1 r1 h1=>?_
     obtain rfl : b = b':=r1
     cases b with
     | false=>exact h1 β1 H1 σ (Ext.refl _ _) s1 e1
     | true =>
       simp only [if_true] at h1 ⊢
       refine ⟨fun σ' H'=>∃ β env st,EnvR X.K H' β env σ' ∧ Sim X.K X.mgw β st H' ∧ PostS X.K X.mgw E β H' De (whL fc fb m env st),fun σ' H' z=>⟨m,Nat.lt_succ_self m,z⟩,β1,env,st1,e1,s1,?_⟩
       cases o : fb env st1 with
       | nx env2 st3 =>
         simp only [o,Fl.turn] at h1
         exact fun β4 H4 σ4 x4 s4 e4=>⟨β4,env2,st3,e4,s4,PostS.ext x4 h1⟩
       | ct env2 st3 =>
         simp only [o,Fl.turn] at h1
         exact fun β4 H4 σ4 x4 s4 e4=>⟨β4,env2,st3,e4,s4,PostS.ext x4 h1⟩
       | bk env2 st3=>simp only [o,Fl.turn] at h1; exact h1
       | rt d2 st3=>simp only [o,Fl.turn] at h1; exact h1
       | exc c fs st3=>simp only [o,Fl.turn] at h1; exact h1
       | bad=>simp only [o,Fl.turn] at h1; exact h1
 · exact h.elim
end
/-- an error within counts as no answer -/
def Out.ne {α : Type} (o : Out α) : Out α:=match o with
 | .ok a s=>.ok a s
 | _=>.bad
@[simp] theorem Out.ne_ok {α : Type} (a : α) (s : AS) : (Out.ok a s).ne = .ok a s:=rfl
noncomputable def compL (g : D → En → AS → Out En) (t : En → AS → Out Bool) (f : En → AS → Out D) (env : En) (gs : Gd) : List D → AS → Out (List D)
 | [],st=>if gs.ok st then .ok [] st else .bad
 | d :: ds, st => if gs.ok st then (g d env st).ne.bind fun env1 st => (t env1 st).ne.bind fun b st =>
     if b = true then (f env1 st).ne.bind fun y st=>(compL g t f env gs ds st).bind fun ys st=>.ok (y :: ys) st else compL g t f env gs ds st
   else .bad
@[simp] def wipeD (env : En) : List Nat → En
 | []=>env
 | v :: vs=>(wipeD env vs).set v none
@[simp] noncomputable def vLc (c : Bool) (vs : List Nat) (fi : En → AS → Out (List D × Gd)) (g : D → En → AS → Out En) (t : En → AS → Out Bool) (f : En → AS → Out D) (env : En) (st : AS) : Out D:=(fi env st).bind fun p st =>
 if p.1.length ≤ sizeLine then (compL g t f (wipeD env vs) p.2 p.1 st).bind fun ys st=>mk c ys st else .bad
section
variable {K : PySem.W.Frag} {mg : MG} {β β' : Bt} {H H' : Hp} {st : AS} {p : Addr}
mutual
theorem Rep.hide {o : HO} (hp : H p = none) : ∀ {d : D} {u : V},Rep K H β d u → Rep K (upd H p o) (β.hide p) d u
 | _,_,.non=>.non
 | _,_,.bl b=>.bl b
 | _,_,.int i=>.int i
 | _,_,.str s=>.str s
 | _,_,.cv v=>.cv v
 | _,_,.ref h=>.ref h
 | _,_,.tup n h r=>.tup ⟨n.1,fun z=>(List.mem_cons.mp z).elim (ne_of_none h hp) n.2⟩ ((upd_ne (ne_of_none h hp)).trans h) (Reps.hide hp r)
 | _,_,.ctp h r=>.ctp (h.imp fun o h n=>⟨(upd_ne (ne_of_none h hp)).trans h,n.1,fun z=>(List.mem_cons.mp z).elim (ne_of_none h hp) n.2⟩) (Reps.hide hp r)
 | _,_,.lst n h r=>.lst ⟨n.1,fun z=>(List.mem_cons.mp z).elim (ne_of_none h hp) n.2⟩ ((upd_ne (ne_of_none h hp)).trans h) (Reps.hide hp r)
 | _, _, .fzl h r => .fzl (h.imp (fun z => by
     obtain ⟨n,z⟩:=z
     rcases z with h | ⟨w,h⟩
     · exact ⟨⟨n.1,fun z=>(List.mem_cons.mp z).elim (ne_of_none h hp) n.2⟩,.inl ((upd_ne (ne_of_none h hp)).trans h)⟩
     · exact ⟨⟨n.1,fun z=>(List.mem_cons.mp z).elim (ne_of_none h hp) n.2⟩,.inr ⟨w,(upd_ne (ne_of_none h hp)).trans h⟩⟩) id) (Reps.hide hp r)
theorem Reps.hide {o : HO} (hp : H p = none) : ∀ {ds : List D} {us : List V},Reps K H β ds us → Reps K (upd H p o) (β.hide p) ds us
 | _,_,.nil=>.nil
 | _,_,.cons r t=>.cons (Rep.hide hp r) (Reps.hide hp t)
end
mutual
/-- what is hidden may change -/
theorem Rep.hid {o : HO} (hp : p ∈ β.h) : ∀ {d : D} {u : V},Rep K H β d u → Rep K (upd H p o) β d u
 | _,_,.non=>.non
 | _,_,.bl b=>.bl b
 | _,_,.int i=>.int i
 | _,_,.str s=>.str s
 | _,_,.cv v=>.cv v
 | _,_,.ref h=>.ref h
 | _,_,.tup n h r=>.tup n ((upd_ne (fun z=>n.2 (by rw [z]; exact hp))).trans h) (Reps.hid hp r)
 | _,_,.ctp h r=>.ctp (h.imp fun o h n=>⟨(upd_ne (fun z=>n.2 (by rw [z]; exact hp))).trans h,n⟩) (Reps.hid hp r)
 | _,_,.lst n h r=>.lst n ((upd_ne (fun z=>n.2 (by rw [z]; exact hp))).trans h) (Reps.hid hp r)
 | _, _, .fzl h r => .fzl (h.imp (fun z => by
     obtain ⟨n,z⟩:=z
     rcases z with h | ⟨w,h⟩
     · exact ⟨n,.inl ((upd_ne (fun z=>n.2 (by rw [z]; exact hp))).trans h)⟩
     · exact ⟨n,.inr ⟨w,(upd_ne (fun z=>n.2 (by rw [z]; exact hp))).trans h⟩⟩) id) (Reps.hid hp r)
theorem Reps.hid {o : HO} (hp : p ∈ β.h) : ∀ {ds : List D} {us : List V},Reps K H β ds us → Reps K (upd H p o) β ds us
 | _,_,.nil=>.nil
 | _,_,.cons r t=>.cons (Rep.hid hp r) (Reps.hid hp t)
end
mutual
/-- fewer things hidden,more things numbered -/
theorem Rep.weak (hl : ∀ (i : Nat) a,β.l[i]? = some a → β'.l[i]? = some a) (ho : ∀ a o,H a = some o → β.out a → β'.out a) : ∀ {d : D} {u : V},Rep K H β d u → Rep K H β' d u
 | _,_,.non=>.non
 | _,_,.bl b=>.bl b
 | _,_,.int i=>.int i
 | _,_,.str s=>.str s
 | _,_,.cv v=>.cv v
 | _,_,.ref h=>.ref (hl _ _ h)
 | _,_,.tup n h r=>.tup (ho _ _ h n) h (Reps.weak hl ho r)
 | _,_,.ctp h r=>.ctp (h.imp fun o h n=>⟨h,ho _ _ h n⟩) (Reps.weak hl ho r)
 | _,_,.lst n h r=>.lst (ho _ _ h n) h (Reps.weak hl ho r)
 | _, _, .fzl h r => .fzl (h.imp (fun z => by
     obtain ⟨n,z⟩:=z
     rcases z with h | ⟨w,h⟩
     · exact ⟨ho _ _ h n,.inl h⟩
     · exact ⟨ho _ _ h n,.inr ⟨w,h⟩⟩) id) (Reps.weak hl ho r)
theorem Reps.weak (hl : ∀ (i : Nat) a,β.l[i]? = some a → β'.l[i]? = some a) (ho : ∀ a o,H a = some o → β.out a → β'.out a) : ∀ {ds : List D} {us : List V},Reps K H β ds us → Reps K H β' ds us
 | _,_,.nil=>.nil
 | _,_,.cons r t=>.cons (Rep.weak hl ho r) (Reps.weak hl ho t)
end
theorem CellOk.map {H' : Hp} {β' : Bt} {a : Addr} {c : C} (f : ∀ {ds us},Reps K H β ds us → Reps K H' β' ds us) (e : H' a = H a) (h : CellOk K mg H β a c) : CellOk K mg H' β' a c:=by
 cases c with
 | lst ds=>obtain ⟨us,q,r⟩:=h; exact ⟨us,e.trans q,f r⟩
 | dct kvs=>obtain ⟨us,q,r⟩:=h; exact ⟨us,e.trans q,r.1,f r.2⟩
 | dtt kvs=>obtain ⟨us,q,r⟩:=h; exact ⟨us,e.trans q,r.1,f r.2⟩
 | dtf kvs=>obtain ⟨us,bs,q,r,t⟩:=h; exact ⟨us,bs,e.trans q,⟨r.1,f r.2⟩,f t⟩
 | lck kvs=>obtain ⟨z,us,q,r⟩:=h; exact ⟨z,us,e.trans q,r.1,f r.2⟩
 | lct kvs=>obtain ⟨z,us,q,r⟩:=h; exact ⟨z,us,e.trans q,r.1,f r.2⟩
 | lcf kvs=>obtain ⟨z,us,bs,q,r,t⟩:=h; exact ⟨z,us,bs,e.trans q,⟨r.1,f r.2⟩,f t⟩
 | obj c fs=>obtain ⟨Ca,dx,us,m,q,r⟩:=h; exact ⟨Ca,dx,us,m,e.trans q,r.1,f r.2⟩
theorem Sim.hide {o : HO} (S : Sim K mg β st H) (hp : H p = none) (ho : ∀ us,o ≠ .tup us:=by intro _ z; cases z) (ht : ∀ ps,o ≠ .tbl ps:=by intro _ z; cases z) (hco : ∀ c q,o ≠ LamX.CodeO c q:=by intro c q z; unfold LamX.CodeO at z; cases z) : Sim K mg (β.hide p) st (upd H p o):=by
 refine ⟨S.len,S.nd,fun a ha=>?_,fun i a c h1 h2=>?_,fun q hq=>(S.tab q hq).imp fun a u e n=>⟨(upd_ne (ne_of_none e hp)).trans e,n.1,fun z=>(List.mem_cons.mp z).elim (ne_of_none e hp) n.2⟩⟩
 · rcases List.mem_cons.mp ha with z | z
   · subst z
     exact ⟨(S.fresh hp).1,o,upd_same,ho,ht,hco⟩
   · obtain ⟨n,u,e,t⟩:=S.hid a z
     exact ⟨n,u,(upd_ne (ne_of_none e hp)).trans e,t⟩
 · have q:=S.cell i a c h1 h2
   obtain ⟨u,e,_⟩:=q.there
   exact q.map (fun r=>Reps.hide hp r) (upd_ne (ne_of_none e hp))
theorem Sim.hidden {o : HO} (S : Sim K mg β st H) (hp : p ∈ β.h) (ho : ∀ us,o ≠ .tup us:=by intro _ z; cases z) (ht : ∀ ps,o ≠ .tbl ps:=by intro _ z; cases z) (hco : ∀ c q,o ≠ LamX.CodeO c q:=by intro c q z; unfold LamX.CodeO at z; cases z) : Sim K mg β st (upd H p o):=by
 refine ⟨S.len,S.nd,fun a ha=>?_,fun i a c h1 h2=>?_,fun q hq=>(S.tab q hq).imp fun a u e n=>⟨(upd_ne fun z=>n.2 (by rw [z]; exact hp)).trans e,n⟩⟩
 · obtain ⟨n,u,e,t⟩:=S.hid a ha
   by_cases z : a = p
   · subst z
     exact ⟨n,o,upd_same,ho,ht,hco⟩
   · exact ⟨n,u,(upd_ne z).trans e,t⟩
 · have ne : a ≠ p:=fun z=>(S.hid p hp).1 (by rw [← z]; exact List.mem_of_getElem? h1)
   exact (S.cell i a c h1 h2).map (fun r=>Reps.hid hp r) (upd_ne ne)
theorem Bt.hide_out {a : Addr} (h : (β.hide p).out a) : β.out a:=⟨h.1,fun z=>h.2 (List.mem_cons_of_mem _ z)⟩
theorem Sim.unhide (S : Sim K mg (β.hide p) st H) : Sim K mg β st H :=
 ⟨S.len,S.nd,fun a ha=>S.hid a (List.mem_cons_of_mem _ ha),fun i a c h1 h2=>CellOk.map (β:=β.hide p) (β':=β) (fun r=>Reps.weak (β:=β.hide p) (β':=β) (fun _ _ z=>z) (fun _ _ _ z=>Bt.hide_out (β:=β) z) r) rfl (S.cell i a c h1 h2),fun q hq=>(S.tab q hq).imp fun a u e n=>⟨e,Bt.hide_out (β:=β) n⟩⟩
end
theorem wipe_eq {σ σ' : L2.St} {vs : List Nat} (hl : σ'.length = σ.length) (h : ∀ j,j ∉ vs → σ'[j]? = σ[j]?) : wipe σ' vs = wipe σ vs:=by
 have at_ : ∀ (σ : L2.St) (vs : List Nat) (j : Nat),j ∈ vs → j < σ.length → (wipe σ vs)[j]? = some none:=by
   intro σ vs
   induction vs with
   | nil=>intro j hj; cases hj
   | cons v vs ih =>
     intro j hj hlt
     unfold wipe
     by_cases z : v = j
     · subst z
       exact List.getElem?_set_self (by rw [wipe_length]; exact hlt)
     · rw [List.getElem?_set_ne z]
       exact ih j ((List.mem_cons.mp hj).elim (fun w=>absurd w.symm z) id) hlt
 apply List.ext_getElem?
 intro j
 by_cases hj : j ∈ vs
 · by_cases hlt : j < σ.length
   · rw [at_ σ vs j hj hlt,at_ σ' vs j hj (by omega)]
   · rw [List.getElem?_eq_none (by rw [wipe_length]; omega),List.getElem?_eq_none (by rw [wipe_length]; omega)]
 · rw [wipe_out hj,wipe_out hj,h j hj]
theorem EnvR.wipe {K : PySem.W.Frag} {H : Hp} {β : Bt} {env : En} {σ : L2.St} (e : EnvR K H β env σ) : ∀ vs : List Nat,EnvR K H β (wipeD env vs) (L2.wipe σ vs)
 | []=>e
 | v :: vs=>by
   have ih:=EnvR.wipe e vs
   refine ⟨by unfold wipeD L2.wipe; rw [List.length_set,List.length_set,ih.len],fun i d h=>?_⟩
   unfold wipeD at h
   unfold L2.wipe
   by_cases z : v = i
   · subst z
     by_cases hlt : v < (wipeD env vs).length
     · rw [List.getElem?_set_self hlt] at h
       cases h
     · rw [List.getElem?_eq_none (by simpa using hlt)] at h
       cases h
   · rw [List.getElem?_set_ne z] at h ⊢
     exact ih.get i d h
end VL
namespace VL
open PySem PySem.Spec PyProof.Rows L2 TB
theorem post_ne {α ρ γ τ : Type} {K : PySem.W.Frag} {mg : MG} {E : XK} {R : Hp → Bt → α → ρ → Prop} {R' : Hp → Bt → γ → τ → Prop} {β0 β : Bt} {H0 H : Hp} {Q : τ → Hp → Prop} {Q' : ρ → Hp → Prop} {o : Out α} {k : α → AS → Out γ}
   (h : Post K mg R' E β0 H0 Q (o.ne.bind k)) (hk : ∀ a st1 β1 H1 u,Ext β H β1 H1 → Sim K mg β1 st1 H1 → R H1 β1 a u → Post K mg R' E β0 H0 Q (k a st1) → Q' u H1) : Post K mg R E0 β H Q' o:=by
 cases o with
 | ok a st=>exact fun β1 H1 u x s r=>hk a st β1 H1 u x s r h
 | exc c fs st=>exact h.elim
 | bad=>exact h.elim
section
variable {X : Cx} {E : XK} {tg it elt : Expr} {ifs : List Expr} {fi : En → AS → Out (List D × Gd)} {g : D → En → AS → Out En} {t : En → AS → Out Bool} {f : En → AS → Out D} {pos : Pos} {ws vs : List Nat}
theorem use_lc (c : Bool) (hw : ∀ j ∈ ws, j ∈ vs) {σ : L2.St} {H : Hp} {Q : VK} (h : tV X.K X.mgw E (vLc c vs fi g t f) σ H Q) :
   tLc (tG X.K X.mgw (rI X.K X.mgw) E fi) (tVG X.K X.mgw E0 ws g) (tVT X.K X.mgw E0 t) (tV X.K X.mgw E0 f) vs σ H Q:=by
 obtain ⟨β,env,st,he,hs,h⟩:=h
 refine tG_bind he hs h fun pr st1 β1 H1 J x1 s1 e1 w h1 Da nD=>?_
 obtain ⟨items,gs⟩:=pr
 obtain ⟨hsz,h1⟩:=h1.ite
 have hsz : items.length ≤ sizeLine:=hsz
 refine ⟨fun i m H=>m = items.length - i ∧ i ≤ items.length ∧ ∃ β' st acc ys,Ext (β1.hide Da) (upd H1 Da (.lst [])) (β'.hide Da) (upd H Da (.lst [])) ∧ Sim X.K X.mgw (β'.hide Da) st H ∧ EnvR X.K H (β'.hide Da) env σ ∧ H Da = some (.lst acc) ∧ Reps X.K H (β'.hide Da) ys acc ∧ ys.length ≤ i ∧
   Post X.K X.mgw (rD X.K) E β1 H1 Q ((compL g t f (wipeD env vs) gs (items.drop i) st).bind fun zs st=>mk c (ys ++ zs) st),
   ⟨_,rfl,Nat.zero_le _,β1,st1,[],[],by rw [upd_upd]; exact Ext.refl _ _,s1.hide nD,⟨e1.len,fun i d q=>?_⟩,upd_same,.nil,Nat.le_refl _,h1⟩,?_⟩
 · obtain ⟨u,h1,h2⟩:=e1.get i d q
   exact ⟨u,h1,h2.hide nD⟩
 rintro i m H ⟨rfl,hi,β2,st2,acc,ys,x,s2,e2,hD,rys,hly,hq⟩
 -- how the heap has come from the start,as far as anybody knows
 have xw : ExtF β1 H1 (β2.hide Da) H:=by
   obtain ⟨gx,eg⟩:=x.pre
   refine ⟨⟨⟨gx,eg⟩,fun a o ha na nt=>?_⟩,fun a z u e=>?_⟩
   · have ne : a ≠ Da:=ne_of_none ha nD
     obtain ⟨q1,q2⟩:=x.kept a o ((upd_ne ne).trans ha) ⟨na.1,fun z=>(List.mem_cons.mp z).elim ne na.2⟩ nt
     exact ⟨(upd_ne ne).symm.trans q1,q2⟩
   · have ne : a ≠ Da:=ne_of_none e nD
     exact (upd_ne ne).symm.trans (x.frz a z u ((upd_ne ne).trans e))
 have xs : Ext β1 H1 β2 H:=by
   obtain ⟨gx,eg⟩:=x.pre
   refine ⟨⟨gx,eg⟩,List.cons.inj x.hid |>.2,fun a o ha na nt=>?_,fun a z u e=>?_⟩
   · have ne : a ≠ Da:=ne_of_none ha nD
     obtain ⟨q1,q2⟩:=x.kept0 a o ((upd_ne ne).trans ha) na nt
     exact ⟨(upd_ne ne).symm.trans q1,q2⟩
   · have ne : a ≠ Da:=ne_of_none e nD
     exact (upd_ne ne).symm.trans (x.frz a z u ((upd_ne ne).trans e))
 by_cases hlt : i < items.length
 · have ed : items.drop i = items[i] :: items.drop (i + 1):=List.drop_eq_getElem_cons hlt
   rw [ed,compL] at hq
   by_cases gk : gs.ok st2
   · rw [if_pos gk] at hq
     refine .inr ⟨w.go i (β2.hide Da) H st2 xw s2 gk hlt,fun H'=>∃ (β' : Bt) (st : AS) (acc : List V) (ys : List D),Ext (β1.hide Da) (upd H1 Da (.lst [])) (β'.hide Da) (upd H' Da (.lst [])) ∧ Sim X.K X.mgw (β'.hide Da) st H' ∧ EnvR X.K H' (β'.hide Da) env σ ∧ H' Da = some (.lst acc) ∧ Reps X.K H' (β'.hide Da) ys acc ∧ ys.length ≤ i + 1 ∧
       Post X.K X.mgw (rD X.K) E β1 H1 Q ((compL g t f (wipeD env vs) gs (items.drop (i + 1)) st).bind fun zs st=>mk c (ys ++ zs) st),?_,fun v H' y=>?_⟩
     · rintro H' z
       exact ⟨items.length - (i + 1),by omega,rfl,hlt,z⟩
     · obtain ⟨sm,d,e3,r⟩:=w.yld i (β2.hide Da) H st2 v H' xw s2 gk hlt y
       have e4 : d = items[i]:=by
         rw [List.getElem?_eq_getElem hlt] at e3
         exact (Option.some.inj e3).symm
       rw [← e4] at hq
       have x2 : Ext (β2.hide Da) H (β2.hide Da) H':=Ext.same sm
       have a2 : EnvR X.K H' (β2.hide Da) env σ:=e2.ext x2
       -- a step within keeps Da and what is known
       have keep : ∀ {β3 : Bt} {H3 : Hp},Ext (β2.hide Da) H β3 H3 → ∃ β3' : Bt,β3 = β3'.hide Da ∧ H3 Da = some (.lst acc) ∧ Ext (β1.hide Da) (upd H1 Da (.lst [])) (β3'.hide Da) (upd H3 Da (.lst [])):=by
         intro β3 H3 x3
         have hh:=x3.hid
         obtain ⟨l3,h3⟩:=β3
         change h3 = Da :: β2.h at hh
         subst hh
         have nl : Da ∉ (β2.hide Da).l:=(s2.hid Da List.mem_cons_self).1
         obtain ⟨q1,q2⟩:=x3.kept0 Da _ hD nl (fun _ z=>nomatch z)
         refine ⟨⟨l3,β2.h⟩,rfl,q1,x.trans ⟨x3.pre,rfl,fun a o ha na nt=>?_,fun a w u e=>?_⟩⟩
         · by_cases z : a = Da
           · subst z
             rw [upd_same] at ha ⊢
             exact ⟨ha,q2⟩
           · rw [upd_ne z] at ha ⊢
             exact x3.kept0 a o ha na nt
         · by_cases z : a = Da
           · subst z
             rw [upd_same] at e
             cases e
           · rw [upd_ne z] at e ⊢
             exact x3.frz a w u e
       refine ⟨β2.hide Da,wipeD env vs,st2,d,a2.wipe vs,s2.same sm,r,?_⟩
       have hq2 : Post X.K X.mgw (rD X.K) E β1 H1 Q ((g d (wipeD env vs) st2).ne.bind fun env1 st=>(((t env1 st).ne.bind fun b st=>if b = true then (f env1 st).ne.bind fun y st=>(compL g t f (wipeD env vs) gs (items.drop (i + 1)) st).bind fun ys st=>.ok (y :: ys) st else compL g t f (wipeD env vs) gs (items.drop (i + 1)) st)).bind fun zs st=>mk c (ys ++ zs) st):=by
         cases o : g d (wipeD env vs) st2 with
         | ok a s=>rw [o] at hq; exact hq
         | exc x y z=>rw [o] at hq; exact hq
         | bad=>rw [o] at hq; exact hq
       refine post_ne hq2 fun env1 st3 β3 H3 σ3 x3 s3 e3 h3=>⟨?_,?_⟩
       · have w1 : L2.wipe σ3 vs = L2.wipe (L2.wipe σ vs) vs:=wipe_eq e3.2.1 fun j hj=>e3.2.2 j fun z=>hj (hw j z)
         have w2 : L2.wipe (L2.wipe σ vs) vs = L2.wipe σ vs:=wipe_eq (wipe_length σ vs) fun j hj=>wipe_out hj
         exact w1.trans w2
       · refine ⟨β3,env1,st3,e3.1,s3,?_⟩
         have h3' : Post X.K X.mgw (rD X.K) E β1 H1 Q ((t env1 st3).ne.bind fun b st=>(if b = true then (f env1 st).ne.bind fun y st=>(compL g t f (wipeD env vs) gs (items.drop (i + 1)) st).bind fun ys st=>.ok (y :: ys) st else compL g t f (wipeD env vs) gs (items.drop (i + 1)) st).bind fun zs st=>mk c (ys ++ zs) st):=by
           cases o : t env1 st3 with
           | ok a s=>rw [o] at h3; exact h3
           | exc x y z=>rw [o] at h3; exact h3
           | bad=>rw [o] at h3; exact h3
         refine post_ne h3' fun b st4 β4 H4 b' x4 s4 r4 h4=>?_
         obtain rfl : b = b':=r4
         cases b with
         | false =>
           obtain ⟨β4',rfl,q1,q2⟩:=keep ((x2.trans x3).trans x4)
           have xx:=(x2.trans x3).trans x4
           exact ⟨β4',st4,acc,ys,q2,s4,e2.ext xx,q1,rys.ext xx,by omega,h4⟩
         | true =>
           have h4' : Post X.K X.mgw (rD X.K) E β1 H1 Q ((f env1 st4).ne.bind fun y st=>(compL g t f (wipeD env vs) gs (items.drop (i + 1)) st).bind fun zs st=>mk c (ys ++ (y :: zs)) st):=by
             cases o : f env1 st4 with
             | ok a s =>
               simp only [if_true,o,Out.ne_ok,Out.bind_ok] at h4 ⊢
               cases o2 : compL g t f (wipeD env vs) gs (items.drop (i + 1)) s with
               | ok a2 s2=>rw [o2] at h4; exact h4
               | exc x y z=>rw [o2] at h4; exact h4
               | bad=>rw [o2] at h4; exact h4
             | exc x y z=>simp only [if_true,o] at h4; exact h4
             | bad=>simp only [if_true,o] at h4; exact h4
           refine ⟨β4,env1,st4,e3.1.ext x4,s4,post_ne h4' fun yv st5 β5 H5 yu x5 s5 r5 h5=>?_⟩
           have xx:=((x2.trans x3).trans x4).trans x5
           obtain ⟨β5',rfl,q1,q2⟩:=keep xx
           have hm : Da ∈ (β5'.hide Da).h:=List.mem_cons_self
           refine ⟨acc,q1,by rw [rys.length]; omega,β5',st5,acc ++ [yu],ys ++ [yv],by rw [upd_upd]; exact q2,s5.hidden hm,⟨e2.len,fun i d q=>?_⟩,upd_same,?_,by rw [List.length_append,List.length_singleton]; omega,?_⟩
           · obtain ⟨u,h1,h2⟩:=e2.get i d q
             exact ⟨u,h1,Rep.hid hm (h2.ext xx)⟩
           · exact Reps.hid hm ((rys.ext xx).append (.cons r5 .nil))
           · simpa using h5
   · rw [if_neg gk] at hq
     exact hq.elim
 · have e : i = items.length:=by omega
   subst e
   rw [List.drop_length,compL] at hq
   by_cases gk : gs.ok st2
   · rw [if_pos gk] at hq
     refine .inl ⟨w.stop (β2.hide Da) H st2 xw s2 gk,?_⟩
     have hq : Post X.K X.mgw (rD X.K) E β1 H1 Q (mk c ys st2):=by simpa using hq
     have su:=s2.unhide
     have nl : Da ∉ β2.l:=(s2.hid Da List.mem_cons_self).1
     have nb : β1.out Da:=s1.fresh nD
     have nh : Da ∉ β2.h:=by
       have:=List.cons.inj x.hid |>.2
       rw [this]
       exact nb.2
     have ru : Reps X.K H β2 ys acc:=Reps.weak (β:=β2.hide Da) (β':=β2) (fun _ _ z=>z) (fun _ _ _ z=>Bt.hide_out (β:=β2) z) rys
     cases c with
     | false=>exact hq β2 H (.ref Da) xs su (.lst ⟨nl,nh⟩ hD ru)
     | true =>
       have hl : ∀ (i : Nat) a,(β2.hide Da).l[i]? = some a → (β2.push Da).l[i]? = some a:=fun i a z=>by
         have hlt:=(List.getElem?_eq_some_iff.mp z).1
         have hlt : i < β2.l.length:=hlt
         exact (List.getElem?_append_left hlt).trans z
       have ho : ∀ a o,H a = some o → (β2.hide Da).out a → (β2.push Da).out a:=fun a o _ n=>⟨fun z=>(List.mem_append.mp z).elim n.1 fun z=>n.2 (by rw [List.mem_singleton.mp z]; exact List.mem_cons_self),fun z=>n.2 (List.mem_cons_of_mem _ z)⟩
       have S' : Sim X.K X.mgw (β2.push Da) (st2 ++ [.lst ys]) H:=by
         refine ⟨by simp [Bt.push,su.len],?_,fun a ha=>?_,fun j a c' h1 h2=>?_,fun q hq=>(s2.tab q hq).imp fun a u e n=>⟨e,ho a u e n⟩⟩
         · show (β2.l ++ [Da]).Nodup
           rw [List.nodup_append]
           refine ⟨su.nd,by simp,fun a ha b hb=>?_⟩
           rw [List.mem_singleton.mp hb]
           rintro rfl
           exact nl ha
         · obtain ⟨n,u,e,t⟩:=su.hid a ha
           refine ⟨fun z=>?_,u,e,t⟩
           rcases List.mem_append.mp z with z | z
           · exact n z
           · rw [List.mem_singleton.mp z] at ha
             exact nh ha
         · change (β2.l ++ [Da])[j]? = some a at h1
           by_cases hj : j < st2.length
           · rw [List.getElem?_append_left (by rw [su.len]; exact hj)] at h1
             rw [List.getElem?_append_left hj] at h2
             exact CellOk.map (β:=β2.hide Da) (fun r=>Reps.weak hl ho r) rfl (s2.cell j a c' h1 h2)
           · have h3 : j < (st2 ++ [C.lst ys]).length:=(List.getElem?_eq_some_iff.mp h2).1
             have e : j = st2.length:=by simp at h3; omega
             subst e
             rw [List.getElem?_append_right (by omega),Nat.sub_self] at h2
             rw [List.getElem?_append_right (by rw [su.len]; omega),su.len,Nat.sub_self] at h1
             simp at h1 h2
             subst h1
             subst h2
             exact ⟨acc,hD,Reps.weak hl ho rys⟩
       refine hq (β2.push Da) H (.ref Da) ?_ S' (.ref (by rw [← su.len]; simp [Bt.push]))
       obtain ⟨gx,eg⟩:=xs.pre
       refine ⟨⟨gx ++ [Da],?_⟩,xs.hid,fun a o ha na nt=>?_,xs.frz⟩
       · show β2.l ++ [Da] = β1.l ++ (gx ++ [Da])
         rw [eg,List.append_assoc]
       · obtain ⟨q1,q2⟩:=xs.kept0 a o ha na nt
         refine ⟨q1,fun z=>?_⟩
         rcases List.mem_append.mp z with z | z
         · exact q2 z
         · rw [List.mem_singleton.mp z,nD] at ha
           cases ha
   · rw [if_neg gk] at hq
     exact hq.elim
theorem ve_lc (k : Bool) {scope : Scope} {own : List (Str × Nat)} (hw : ∀ j ∈ ws, j ∈ own.map (·.2)) (hc : X.calm = true) (hN : X.N.Nodup) (hi : VI X E tg it fi) (ok : BlkOk X.N X.env.scope scope own)
   (hg : ∀ (s : Shared) (H : Hp) (C : Addr) (cl : List (Str × Addr)) (fp : List Addr),VG (X.blk s H scope (compEnvC scope cl C X.env) fp) E0 tg ws g) (ht : ∀ (s : Shared) (H : Hp) (C : Addr) (cl : List (Str × Addr)) (fp : List Addr),PTs (X.blk s H scope (compEnvC scope cl C X.env) fp) ifs (tVT X.K X.mgw E0 t))
   (he : ∀ (s : Shared) (H : Hp) (C : Addr) (cl : List (Str × Addr)) (fp : List Addr),VE (X.blk s H scope (compEnvC scope cl C X.env) fp) E0 elt f) (hs : ∀ x,foldedSetIterable it X.env x = pure x:=by intro _; rfl) :
   VE X E (.ListComp elt [⟨tg,it,ifs,0⟩] scope pos) (vLc k (own.map (·.2)) fi g t f) :=
 weakE (pe_lc hc hN hi ok hg ht he hs) fun σ H Q h=>use_lc k hw h
theorem vs_setLc (k : Bool) {i : Nat} {y : Str} {py spos : Pos} {scope : Scope} {own : List (Str × Nat)} (hw : ∀ j ∈ ws, j ∈ own.map (·.2)) (hc : X.calm = true) (hN : X.N.Nodup) (hy : X.N[i]? = some y) (hyl : X.env.scope.names.lookup y = some .local)
   (hsw : swapsWith (.ListComp elt [⟨tg,it,ifs,0⟩] scope pos) (some (.Name y py)) spos.line X.env = pure true) (hi : VI X E tg it fi) (ok : BlkOk X.N X.env.scope scope own)
   (hg : ∀ (s : Shared) (H : Hp) (C : Addr) (cl : List (Str × Addr)) (fp : List Addr),VG (X.blk s H scope (compEnvC scope cl C X.env) fp) E0 tg ws g) (ht : ∀ (s : Shared) (H : Hp) (C : Addr) (cl : List (Str × Addr)) (fp : List Addr),PTs (X.blk s H scope (compEnvC scope cl C X.env) fp) ifs (tVT X.K X.mgw E0 t))
   (he : ∀ (s : Shared) (H : Hp) (C : Addr) (cl : List (Str × Addr)) (fp : List Addr),VE (X.blk s H scope (compEnvC scope cl C X.env) fp) E0 elt f) (hs : ∀ x,foldedSetIterable it X.env x = pure x:=by intro _; rfl) :
   VS X E (.Assign [.Name y py] (.ListComp elt [⟨tg,it,ifs,0⟩] scope pos) spos) (sSet i (vLc k (own.map (·.2)) fi g t f)) :=
 weakS (ps_setLc (g:=tVG X.K X.mgw E0 ws g) (te:=tV X.K X.mgw E0 f) hc hN hy hyl hsw hi ok hg ht he hs) fun De σ H ⟨β,env,st,he,hs,h⟩=>by
   refine use_lc (E:=E) (g:=g) (t:=t) (f:=f) k hw ?_
   exact fl_bind he hs h fun a st1 β1 H1 u x s1 e1 r1 h1=>h1 β1 H1 _ (Ext.refl _ _) s1 (e1.set r1 i)
@[simp] def tYesV (_ : En) (st : AS) : Out Bool:=.ok true st
theorem vts_nil : PTs X [] (tVT X.K X.mgw E tYesV):=⟨fun pins s σ H Q I h=>(pts_nil (X:=X)).run pins s σ H Q I (by
 obtain ⟨β,env,st,he,hs,h⟩:=h
 exact h.here hs rfl)⟩
theorem vts_one {c : Expr} (h : VT X E c t) : PTs X [c] (tVT X.K X.mgw E t):=pts_one h
end
mutual
def D.low (n : Nat) : D → Bool
 | .tup ds=>D.lows n ds
 | .lst ds=>D.lows n ds
 | .ctp ds=>D.lows n ds
 | .fzl ds=>D.lows n ds
 | .ref i=>decide (i < n)
 | _=>true
def D.lows (n : Nat) : List D → Bool
 | []=>true
 | d :: ds=>d.low n && D.lows n ds
end
def C.low (n : Nat) : C → Bool
 | .lst ds=>D.lows n ds
 | .dct kvs=>D.lows n (kvs.map (·.2))
 | .dtt kvs=>D.lows n (kvs.map (·.2))
 | .dtf kvs=>D.lows n (kvs.map (·.2))
 | .lck kvs=>D.lows n (kvs.map (·.2))
 | .lct kvs=>D.lows n (kvs.map (·.2))
 | .lcf kvs=>D.lows n (kvs.map (·.2))
 | .obj _ fs=>D.lows n (fs.map (·.2))
theorem kDs_low (n : Nat) : ∀ ks : List Key,D.lows n (ks.map kD) = true
 | []=>by rw [List.map_nil,D.lows]
 | k :: ks=>by
   rw [List.map_cons,D.lows,kDs_low n ks,Bool.and_true]
   cases k <;> simp [kD,D.low]
theorem keys_low (n : Nat) : ∀ kvs : List (List Key × D),D.lows n (kvs.map fun p=>.ctp (p.1.map kD)) = true
 | []=>by rw [List.map_nil,D.lows]
 | p :: kvs=>by
   rw [List.map_cons,D.lows,keys_low n kvs,D.low,kDs_low]
   rfl
section
variable {K : PySem.W.Frag} {mg : MG} {β β' : Bt} {H H' : Hp} {st st' : AS}
mutual
theorem Rep.low : ∀ {d : D} {u : V},Rep K H β d u → d.low β.l.length = true
 | _,_,.non=>by simp [D.low]
 | _,_,.bl b=>by simp [D.low]
 | _,_,.int i=>by simp [D.low]
 | _,_,.str s=>by simp [D.low]
 | _,_,.cv v=>by simp [D.low]
 | _,_,.ref h=>by
   have:=(List.getElem?_eq_some_iff.mp h).1
   simpa [D.low] using this
 | _,_,.tup n h r=>by rw [D.low]; exact Reps.low r
 | _,_,.ctp h r=>by rw [D.low]; exact Reps.low r
 | _,_,.lst n h r=>by rw [D.low]; exact Reps.low r
 | _,_,.fzl h r=>by rw [D.low]; exact Reps.low r
theorem Reps.low : ∀ {ds : List D} {us : List V},Reps K H β ds us → D.lows β.l.length ds = true
 | _,_,.nil=>by rw [D.lows]
 | _,_,.cons r t=>by rw [D.lows,Rep.low r,Reps.low t]; rfl
end
mutual
/-- the younger things are dropped -/
theorem Rep.drop {n : Nat} (hl : ∀ (i : Nat) a,i < n → β'.l[i]? = some a → β.l[i]? = some a) (ho : ∀ a,β'.out a → β.out a) : ∀ {d : D} {u : V},Rep K H β' d u → d.low n = true → Rep K H β d u
 | _,_,.non,_=>.non
 | _,_,.bl b,_=>.bl b
 | _,_,.int i,_=>.int i
 | _,_,.str s,_=>.str s
 | _,_,.cv v,_=>.cv v
 | _,_,.ref h,b=>.ref (hl _ _ (by simpa [D.low] using b) h)
 | _,_,.tup n h r,b=>.tup (ho _ n) h (Reps.dropped hl ho r (by rw [D.low] at b; exact b))
 | _,_,.ctp h r,b=>.ctp (h.imp fun o h n=>⟨h,ho _ n⟩) (Reps.dropped hl ho r (by rw [D.low] at b; exact b))
 | _,_,.lst n h r,b=>.lst (ho _ n) h (Reps.dropped hl ho r (by rw [D.low] at b; exact b))
 | _,_,.fzl h r,b=>.fzl (h.imp (fun z=>⟨ho _ z.1,z.2⟩) id) (Reps.dropped hl ho r (by rw [D.low] at b; exact b))
theorem Reps.dropped {n : Nat} (hl : ∀ (i : Nat) a,i < n → β'.l[i]? = some a → β.l[i]? = some a) (ho : ∀ a,β'.out a → β.out a) : ∀ {ds : List D} {us : List V},Reps K H β' ds us → D.lows n ds = true → Reps K H β ds us
 | _,_,.nil,_=>.nil
 | _,_,.cons r t,b=>by
   rw [D.lows,Bool.and_eq_true] at b
   exact .cons (Rep.drop hl ho r b.1) (Reps.dropped hl ho t b.2)
end
/-- the younger lists,by what they hold -/
def frzD (st : AS) (n : Nat) : Nat → D → D
 | 0,d=>d
 | k + 1,d=>match d with
   | .ref i=>if n ≤ i then (match st[i]? with
     | some (.lst ds)=>.lst (ds.map (frzD st n k))
     | _=>.ref i) else .ref i
   | .tup ds=>.tup (ds.map (frzD st n k))
   | .lst ds=>.lst (ds.map (frzD st n k))
   | d=>d
def OkOver (st st' : AS) : Prop:=∀ (i : Nat) (c : C),i < st.length → st'[i]? = some c → st[i]? = some c ∨ c.low st.length = true
noncomputable instance (st st' : AS) : Decidable (OkOver st st'):=Classical.propDecidable _
/-- what a def tells: the younger things go,if nothing leans on them -/
noncomputable def ret (frz : Nat) (st : AS) (d : D) (st' : AS) : Out D :=
 if st'.length = st.length then .ok d st'
 else if (frzD st' st.length frz d).low st.length = true ∧ OkOver st st' then .ok (frzD st' st.length frz d) (st'.take st.length)
 else .ok d st'
theorem frz_ok {n : Nat} (S : Sim K mg β' st' H) (hl : ∀ (i : Nat) a,i < n → β'.l[i]? = some a → β.l[i]? = some a) (hn : ∀ a ∈ β.l,∃ i,i < n ∧ β'.l[i]? = some a) (hh : β.h = β'.h) : ∀ (k : Nat) (d : D) (u : V),Rep K H β' d u → (frzD st' n k d).low n = true → Rep K H β (frzD st' n k d) u:=by
 have ho : ∀ a,β'.out a → β.out a:=fun a z=>⟨fun m=>by
   obtain ⟨i,_,e⟩:=hn a m
   exact z.1 (List.mem_of_getElem? e),by rw [hh]; exact z.2⟩
 intro k
 induction k with
 | zero=>exact fun d u r b=>r.drop hl ho b
 | succ k ih =>
   have all : ∀ {ds : List D} {us : List V},Reps K H β' ds us → D.lows n (ds.map (frzD st' n k)) = true → Reps K H β (ds.map (frzD st' n k)) us:=by
     intro ds
     induction ds with
     | nil=>intro us r _; cases r; exact .nil
     | cons d ds ihd =>
       intro us r b
       rw [List.map_cons,D.lows,Bool.and_eq_true] at b
       cases r with
       | cons r t=>exact .cons (ih _ _ r b.1) (ihd t b.2)
   intro d u r b
   cases r with
   | non=>exact .non
   | bl _=>exact .bl _
   | int _=>exact .int _
   | str _=>exact .str _
   | cv q=>exact .cv q
   | ctp h r=>exact Rep.drop (β':=β') hl ho (.ctp h r) b
   | fzl h r=>exact Rep.drop (β':=β') hl ho (.fzl h r) b
   | tup nm h r =>
     change D.lows n _ = true at b
     exact .tup (ho _ nm) h (all r b)
   | lst nm h r =>
     change D.lows n _ = true at b
     exact .lst (ho _ nm) h (all r b)
   | ref h =>
     rename_i i a
     unfold frzD at b ⊢
     dsimp only at b ⊢
     by_cases hi : n ≤ i
     · rw [if_pos hi] at b ⊢
       split at b
       · rename_i ds e
         obtain ⟨us,e3,q⟩:=S.cell i a _ h e
         change D.lows n _ = true at b
         refine .lst ⟨fun m=>?_,?_⟩ e3 (all q b)
         · obtain ⟨j,hj,ej⟩:=hn a m
           obtain ⟨l1,e1⟩:=List.getElem?_eq_some_iff.mp h
           obtain ⟨l2,e2⟩:=List.getElem?_eq_some_iff.mp ej
           have : i = j:=(List.getElem_inj S.nd).mp (e1.trans e2.symm)
           omega
         · rw [hh]
           exact fun m=>(S.hid a m).1 (List.mem_of_getElem? h)
       · have : i < n:=by simpa [D.low] using b
         omega
     · rw [if_neg hi] at b ⊢
       exact .ref (hl i a (by omega) h)
theorem ret_ok {E : XK} {Q : VK} {frz : Nat} {d : D} {u : V} (S : Sim K mg β st H) (S' : Sim K mg β' st' H') (x : Ext β H β' H') (r : Rep K H' β' d u) (h : Post K mg (rD K) E β H Q (ret frz st d st')) : Q u H':=by
 unfold ret at h
 split at h
 · exact h β' H' u x S' r
 · split at h
   · rename_i hb
     obtain ⟨gx,eg⟩:=x.pre
     have hlen : β.l.length = st.length:=S.len
     have hl : ∀ (i : Nat) a,i < st.length → β'.l[i]? = some a → β.l[i]? = some a:=fun i a hi e=>by
       rw [eg,List.getElem?_append_left (by omega)] at e
       exact e
     have hn : ∀ a ∈ β.l,∃ i,i < st.length ∧ β'.l[i]? = some a:=fun a m=>by
       obtain ⟨i,hi,e⟩:=List.getElem_of_mem m
       exact ⟨i,by omega,by rw [eg,List.getElem?_append_left hi]; simp [hi,e]⟩
     have ho : ∀ a,β'.out a → β.out a:=fun a z=>⟨fun m=>z.1 (by rw [eg]; exact List.mem_append_left _ m),by rw [← x.hid]; exact z.2⟩
     have hle : st.length ≤ st'.length:=by
       have:=S'.len
       rw [eg,List.length_append] at this
       omega
     refine h β H' u ⟨⟨[],by simp⟩,rfl,fun a o ha na nt=>⟨(x.kept0 a o ha na nt).1,na⟩,x.frz⟩ ?_ (frz_ok S' hl hn x.hid.symm _ d u r hb.1)
     refine ⟨by rw [List.length_take]; omega,S.nd,fun a ha=>?_,fun i a c h1 h2=>?_,fun q hq=>(S'.tab q hq).imp fun a u e n=>⟨e,ho a n⟩⟩
     · obtain ⟨n,o,e,t⟩:=S.hid a ha
       exact ⟨n,o,(x.kept0 a o e n t.2.1).1,t⟩
     · have hi : i < st.length := by
         have:=(List.getElem?_eq_some_iff.mp h1).1
         omega
       rw [List.getElem?_take_of_lt hi] at h2
       have q:=S'.cell i a c (x.at h1) h2
       have bl : c.low st.length = true:=by
         rcases hb.2 i c hi h2 with z | z
         · have q0:=S.cell i a c h1 z
           rw [← hlen]
           cases c with
           | lst ds=>obtain ⟨_,_,r⟩:=q0; exact r.low
           | dct ds=>obtain ⟨_,_,r⟩:=q0; exact r.2.low
           | dtt ds=>obtain ⟨_,_,r⟩:=q0; exact r.2.low
           | dtf ds=>obtain ⟨_,_,_,r,_⟩:=q0; exact r.2.low
           | lck ds=>obtain ⟨_,_,_,r⟩:=q0; exact r.2.low
           | lct ds=>obtain ⟨_,_,_,r⟩:=q0; exact r.2.low
           | lcf ds=>obtain ⟨_,_,_,_,r,_⟩:=q0; exact r.2.low
           | obj n fs=>obtain ⟨_,_,_,_,_,r⟩:=q0; exact r.2.low
         · exact z
       cases c with
       | lst ds=>obtain ⟨us,e,r⟩:=q; exact ⟨us,e,r.dropped hl ho bl⟩
       | dct ds=>obtain ⟨us,e,r⟩:=q; exact ⟨us,e,r.1,r.2.dropped hl ho bl⟩
       | dtt ds=>obtain ⟨us,e,r⟩:=q; exact ⟨us,e,r.1,r.2.dropped hl ho bl⟩
       | dtf ds=>obtain ⟨us,bs,e,r,t⟩:=q; exact ⟨us,bs,e,⟨r.1,r.2.dropped hl ho bl⟩,t.dropped hl ho (keys_low _ _)⟩
       | lck ds=>obtain ⟨z,us,e,r⟩:=q; exact ⟨z,us,e,r.1,r.2.dropped hl ho bl⟩
       | lct ds=>obtain ⟨z,us,e,r⟩:=q; exact ⟨z,us,e,r.1,r.2.dropped hl ho bl⟩
       | lcf ds=>obtain ⟨z,us,bs,e,r,t⟩:=q; exact ⟨z,us,bs,e,⟨r.1,r.2.dropped hl ho bl⟩,t.dropped hl ho (keys_low _ _)⟩
       | obj n fs=>obtain ⟨Ca,dx,us,m,e,r⟩:=q; exact ⟨Ca,dx,us,m,e,r.1,r.2.dropped hl ho bl⟩
   · exact h β' H' u x S' r
end
/-- the def as a plain function: N slots -/
noncomputable def Fl.fin (frz : Nat) (st : AS) (o : Fl) : Out D:=match o with
 | .rt d st'=>ret frz st d st'
 | .nx _ st'=>ret frz st .non st'
 | .exc c fs st'=>.exc c fs st'
 | _=>.bad
@[simp] theorem Fl.fin_rt (frz : Nat) (st st' : AS) (d : D) : (Fl.rt d st').fin frz st = ret frz st d st':=rfl
@[simp] theorem Fl.fin_nx (frz : Nat) (st st' : AS) (env : En) : (Fl.nx env st').fin frz st = ret frz st .non st':=rfl
@[simp] theorem Fl.fin_exc (frz : Nat) (st st' : AS) (c : Str) (fs : List (Str × D)) : (Fl.exc c fs st').fin frz st = .exc c fs st':=rfl
@[simp] theorem Fl.fin_bad (frz : Nat) (st : AS) : (Fl.bad).fin frz st = .bad:=rfl
@[simp] theorem ret_same (frz : Nat) (st : AS) (d : D) : ret frz st d st = .ok d st:=by
 unfold ret
 rw [if_pos rfl]
@[simp] theorem ret_set (frz : Nat) (st : AS) (d : D) (i : Nat) (c : C) : ret frz st d (st.set i c) = .ok d (st.set i c):=by
 unfold ret
 rw [if_pos (by simp)]
theorem ret_len {frz : Nat} {st st' : AS} {d : D} (h : st'.length = st.length) : ret frz st d st' = .ok d st':=by
 unfold ret
 rw [if_pos h]
@[simp] noncomputable def vFn (N : Nat) (frz : Nat) (body : En → AS → Fl) (ds : List D) (st : AS) : Out D:=(body (ds.map some ++ List.replicate (N - ds.length) none) st).fin frz st
def spV (K : PySem.W.Frag) (mg : MG) (n : Nat) (F : List D → AS → Out D) : Sp:=fun vs H Q E=>∃ (β : Bt) (ds : List D) (st : AS),vs.length = n ∧ Reps K H β ds vs ∧ Sim K mg β st H ∧ Post K mg (rD K) E β H Q (F ds st)
section
variable {P : Program} {w : World} {K : PySem.W.Frag} {mg : Str → Option Value} {base : Heap}
theorem start_env {H : Hp} {β : Bt} {ds : List D} {vs : List V} {N : List Str} (r : Reps K H β ds vs) : EnvR K H β (ds.map some ++ List.replicate (N.length - ds.length) none) (L2.start N vs):=by
 unfold L2.start
 rw [r.length]
 refine ⟨by simp [r.length],fun i d h=>?_⟩
 by_cases hi : i < ds.length
 · rw [List.getElem?_append_left (by simpa using hi),List.getElem?_map] at h
   rw [List.getElem?_append_left (by simpa [r.length] using hi),List.getElem?_map]
   cases e : ds[i]? with
   | none=>rw [e] at h; cases h
   | some d' =>
     rw [e] at h
     cases h
     obtain ⟨u,e1,r1⟩:=r.get e
     exact ⟨u,by rw [e1]; rfl,r1⟩
 · rw [List.getElem?_append_right (by simpa using hi)] at h
   have:=List.mem_of_getElem? h
   rw [List.mem_replicate] at this
   cases this.2
/-- THE RULE of a def -/
theorem gokV {x qual : Str} {sd : Stmt} {f : Addr} {fd : FuncData} {N ps : List Str} {k : Nat} {body : En → AS → Fl} (frz : Nat) (F : Fun K x qual sd f fd) (S : FnScope N ps (defScope sd))
   (walk : ∀ (cdv : Value) (A : Around),A.guards = some [] → ∀ (outer : List Env) (s : Shared) (H : Hp) (E : XK),Room k (A.deeper (envOfC qual (defScope sd) s.heap.objs.size f cdv)) →
     VSs (cxOf (L2.CX P w) P w K mg base N qual (defScope sd) f cdv A outer s H E) E (defBody sd) body) :
   FnG P w K mg base (L2.CX P w) (k + 1) f fd ps (spV K ⟨mg,w⟩ ps.length (vFn N.length frz body)):=by
 obtain ⟨_,_,_,_,_,_,cdv,_,_,rfl,lk,hcd⟩:=F.ex
 refine gfn lk hcd S (fun vs H Q E h=>?_) fun A hg outer s H vs Q E hr hsp=>?_
 · obtain ⟨_,_,_,e,_⟩:=h
   exact e
 · obtain ⟨β,ds,st,hl,r,hS,hp⟩:=hsp
   refine ⟨_,walk cdv A hg outer s H E hr,β,_,st,start_env r,hS,?_⟩
   unfold vFn Fl.fin at hp
   cases o : body (ds.map some ++ List.replicate (N.length - ds.length) none) st with
   | rt d st' =>
     rw [o] at hp
     exact fun β' H' u x S' r'=>ret_ok hS S' x r' hp
   | nx env st' =>
     rw [o] at hp
     exact fun β' H' σ' x S' _=>ret_ok hS S' x .non hp
   | exc c fs st'=>rw [o] at hp; exact hp
   | bk env st'=>rw [o] at hp; exact hp.elim
   | ct env st'=>rw [o] at hp; exact hp.elim
   | bad=>rw [o] at hp; exact hp.elim
end
end VL
namespace VL
open PySem PySem.Spec PyProof.Rows L2 TB
/-- where a parameter's value comes from: a place,a name,a default -/
inductive Src where
 | pos (i : Nat) | kw (j : Nat) | dfl (j : Nat)
@[simp] def pick {α : Type} (us ws ds : List α) : Src → Option α
 | .pos i=>us[i]?
 | .kw j=>ws[j]?
 | .dfl j=>ds[j]?
@[simp] def asm {α : Type} (us ws ds : List α) : List Src → List α
 | []=>[]
 | s :: r=>match pick us ws ds s with
   | some a=>a :: asm us ws ds r
   | none=>[]
theorem Vals.asm {us ws ds : List V} {us' ws' ds' : List Value} (h1 : Vals us us') (h2 : Vals ws ws') (h3 : Vals ds ds') : ∀ ss : List Src,Vals (asm us ws ds ss) (asm us' ws' ds' ss)
 | []=>.nil
 | s :: r=>by
   have ih:=Vals.asm h1 h2 h3 r
   have one : ∀ {xs : List V} {ys : List Value} (i : Nat),Vals xs ys → (∃ x y,xs[i]? = some x ∧ ys[i]? = some y ∧ RelV x y) ∨ (xs[i]? = none ∧ ys[i]? = none):=by
     intro xs ys i h
     cases e : xs[i]? with
     | none=>exact .inr ⟨rfl,h.none_of e⟩
     | some x =>
       obtain ⟨y,e2,r⟩:=h.get e
       exact .inl ⟨x,y,rfl,e2,r⟩
   unfold VL.asm
   have go : (∃ x y,pick us ws ds s = some x ∧ pick us' ws' ds' s = some y ∧ RelV x y) ∨ (pick us ws ds s = none ∧ pick us' ws' ds' s = none):=by
     cases s with
     | pos i=>exact one i h1
     | kw i=>exact one i h2
     | dfl i=>exact one i h3
   rcases go with ⟨x,y,e1,e2,r⟩ | ⟨e1,e2⟩
   · rw [e1,e2]
     exact .cons r ih
   · rw [e1,e2]
     exact .nil
theorem Reps.asm {K : PySem.W.Frag} {H : Hp} {β : Bt} {us ws ds : List D} {us' ws' ds' : List V} (h1 : Reps K H β us us') (h2 : Reps K H β ws ws') (h3 : Reps K H β ds ds') : ∀ ss : List Src,Reps K H β (asm us ws ds ss) (asm us' ws' ds' ss)
 | []=>.nil
 | s :: r=>by
   have ih:=Reps.asm h1 h2 h3 r
   have one : ∀ {xs : List D} {ys : List V} (i : Nat),Reps K H β xs ys → (∃ x y,xs[i]? = some x ∧ ys[i]? = some y ∧ Rep K H β x y) ∨ (xs[i]? = none ∧ ys[i]? = none):=by
     intro xs ys i h
     cases e : xs[i]? with
     | none =>
       refine .inr ⟨rfl,?_⟩
       rw [List.getElem?_eq_none_iff] at e ⊢
       rw [h.length]
       exact e
     | some x =>
       obtain ⟨y,e2,r⟩:=h.get e
       exact .inl ⟨x,y,rfl,e2,r⟩
   unfold VL.asm
   have go : (∃ x y,pick us ws ds s = some x ∧ pick us' ws' ds' s = some y ∧ Rep K H β x y) ∨ (pick us ws ds s = none ∧ pick us' ws' ds' s = none):=by
     cases s with
     | pos i=>exact one i h1
     | kw i=>exact one i h2
     | dfl i=>exact one i h3
   rcases go with ⟨x,y,e1,e2,r⟩ | ⟨e1,e2⟩
   · rw [e1,e2]
     exact .cons r ih
   · rw [e1,e2]
     exact .nil
/-- n values by places,the others by the names ks,the rest by the defaults -/
def BindV (K : PySem.W.Frag) (fd : FuncData) (ps : List Str) (n : Nat) (ks : List Str) (ds : List V) (ss : List Src) : Prop :=
 ∀ (s : Shared) (us ws : List Value),K.In s.heap → us.length = n → ws.length = ks.length → ∃ ds' : List Value,Vals ds ds' ∧ BindsTo s fd ⟨us,ks.zip ws⟩ (ps.zip (asm us ws ds' ss))
theorem bindV0 {K : PySem.W.Frag} {x qual : Str} {st : Stmt} {f : Addr} {fd : FuncData} {ps : List Str} (F : Fun K x qual st f fd) (n : Nat) (ks : List Str) (ss : List Src)
   (h : ∀ (kV doc pm : Value) (an : Option Addr) (cdv ct : Value) (us ws : List Value),us.length = n → ws.length = ks.length → bindArgs (PySem.W.fnOf x qual (defArgs st) (defBody st) (defScope st) .none kV doc pm an cdv ct) ⟨us,ks.zip ws⟩ = pure (ps.zip (asm us ws [] ss))) : BindV K fd ps n ks [] ss:=by
 obtain ⟨oc,od,kV,doc,pm,an,cdv,ct,osl,rfl,lk,hcd⟩:=F.ex
 exact fun s us ws X l1 l2=>⟨[],.nil,.of_eq (h kV doc pm an cdv ct us ws l1 l2)⟩
theorem bindVD {K : PySem.W.Frag} {x qual : Str} {params : Arguments} {body : List Stmt} {scope : Scope} {dvs : List V} {f : Addr} {fd : FuncData} {ps : List Str} (F : FunD K x qual params body scope dvs [] f fd) (hd : dvs ≠ []) (n : Nat) (ks : List Str) (ss : List Src)
   (h : ∀ (T : Addr) (kV doc pm : Value) (an : Option Addr) (cdv ct : Value) (us ws its : List Value),us.length = n → ws.length = ks.length → its.length = dvs.length →
     ∃ k,bindArgs (PySem.W.fnOf x qual params body scope (.ref T) kV doc pm an cdv ct) ⟨us,ks.zip ws⟩ = seqItems? (.ref T) >>= k ∧ k (some its.toArray) = pure (ps.zip (asm us ws its ss))) : BindV K fd ps n ks dvs ss:=by
 obtain ⟨oc,od,dV,kV,doc,pm,an,cdv,ct,osl,rfl,lk,hcd,hD,hK⟩:=F.ex
 rcases hD with ⟨e,_⟩ | ⟨_,T,o,its,m,rfl,lT,oT,rT⟩
 · exact absurd e hd
 · intro s us ws X l1 l2
   obtain ⟨k,e1,e2⟩:=h T kV doc pm an cdv ct us ws its l1 l2 rT.length.symm
   refine ⟨its,rT,BindsTo.of_looks fun M=>?_⟩
   rw [e1]
   exact looks_items X lT oT (.of_pure e2)
section
variable {X : Cx} {E : XK} {k n m : Nat} {f : Addr} {fd : FuncData} {ps ks : List Str} {F : List D → AS → Out D} {dvs : List V} {ds : List D} {ss : List Src} {x : Str} {p pos : Pos} {e : Expr} {es : List Expr} {kws : List Keyword} {fs fk : En → AS → Out (List D)}
theorem run_V {pins : List (Addr × Obj)} {σ : L2.St} {H : Hp} {s : Shared} {Q : VK} {us ws : List Value} {vs zs : List V} {sp : Sp} (G : FnG X.prog X.w X.K X.mg X.base (L2.CX X.prog X.w) k f fd ps sp) (gd : X.A.guards = some []) (hr : Room k X.A) (hb : BindV X.K fd ps n ks dvs ss) (hx : Passes (L2.CX X.prog X.w) X E)
   (I : Inv X pins σ H s) (r : Vals vs us) (rz : Vals zs ws) (l1 : vs.length = n) (l2 : zs.length = ks.length) (h : sp (asm vs zs dvs ss) H Q E) : wpAny (model X.prog X.w) X.A (call (.ref f) us (ks.zip ws)) (EP X pins σ Q) X.xe s:=by
 obtain ⟨ds',rd,hb⟩:=hb s us ws I.kIn (r.length.symm.trans l1) (rz.length.symm.trans l2)
 refine wpAny_call (codeAny_mono (G.run X.A gd hr X.stack s H I.env0 ⟨us,ks.zip ws⟩ _ _ hb (Vals.asm r rz rd ss) Q E h) ?_)
 intro res s' hq
 match res,hq with
 | .error e,hq=>exact hx pins σ H s e s' I hq
 | .ok (.ret u),hq=>exact I.after hq
 | .ok .next,hq=>exact hq.elim
 | .ok .brk,hq=>exact hq.elim
 | .ok .cont,hq=>exact hq.elim
@[simp] def vCallA (n m : Nat) (ds : List D) (ss : List Src) (F : List D → AS → Out D) (fs fk : En → AS → Out (List D)) (env : En) (st : AS) : Out D:=(fs env st).bind fun xs st=>(fk env st).bind fun zs st=>if xs.length = n ∧ zs.length = m then F (asm xs zs ds ss) st else .bad
theorem use_V {σ : L2.St} {H : Hp} {Q : VK} {N : Nat} (hN : ∀ us ws : List V, us.length = n → ws.length = m → (asm us ws dvs ss).length = N) (hd : ∀ H β, Reps X.K H β ds dvs) (h : tV X.K X.mgw E (vCallA n m ds ss F fs fk) σ H Q) :
   tVA X.K X.mgw E fs σ H fun vs H1=>tVA X.K X.mgw E fk σ H1 fun zs H2=>vs.length = n ∧ zs.length = m ∧ spV X.K X.mgw N F (asm vs zs dvs ss) H2 Q E:=by
 obtain ⟨β,env,st,hE,hS,h⟩:=h
 refine tG_bind hE hS h fun xs st1 β1 H1 us x1 s1 e1 r1 h1=>?_
 refine tG_bind e1 s1 h1 fun zs st2 β2 H2 ws x2 s2 e2 r2 h2=>?_
 obtain ⟨⟨l1,l2⟩,h2⟩:=h2.ite
 have l1' : us.length = n:=r1.length.trans l1
 have l2' : ws.length = m:=r2.length.trans l2
 exact ⟨l1',l2',β2,_,st2,hN us ws l1' l2',Reps.asm (r1.ext x2) r2 (hd H2 β2) ss,s2,h2⟩
/-- f(e,..) -/
theorem ve_callP {N : Nat} (G : FnG X.prog X.w X.K X.mg X.base (L2.CX X.prog X.w) k f fd ps (spV X.K X.mgw N F)) (gd : X.A.guards = some []) (hr : Room k X.A) (hg : Gl X x) (hm : X.mg x = some (.ref f)) (hk : PySem.W.keepIn X.K (.ref f) = true)
   (hb : BindV X.K fd ps n [] dvs ss) (hN : ∀ us ws : List V,us.length = n → ws.length = 0 → (asm us ws dvs ss).length = N) (hd : ∀ H β,Reps X.K H β ds dvs) (hx : Passes (L2.CX X.prog X.w) X E) (ha : VA X E (e :: es) fs)
   (he : starEach (e :: es) X.env = (false,eval e X.env) :: starEach es X.env:=by rfl) (hdb : (x == ("__debug__" : Str)) = false:=by decide) (hpl : (backTo pos (starEach es X.env)).any (·.1) = false:=by rfl) :
   VE X E (.Call (.Name x p) (e :: es) [] pos) (vCallA n 0 ds ss F fs vNil):=by
 constructor
 intro pins s σ H Q I h
 have h:=use_V (E:=E) hN hd h
 refine wpAny_Call_Name_kw (ld_glob I hg hm (PySem.W.callWith_K (h₀:=X.base) I.ok.mod.kin hk (thn (ha.run pos pins s σ H _ I h) ?_) he hpl) hdb)
 rintro us s1 ⟨vs,H1,I1,r,q⟩
 obtain ⟨zs,H2,I2,rz,q2⟩ : ∃ zs H2,Inv X pins σ H2 s1 ∧ Vals zs ([] : List Value) ∧ (vs.length = n ∧ zs.length = 0 ∧ spV X.K X.mgw N F (asm vs zs dvs ss) H2 Q E):=by
   obtain ⟨β,env,st,hE,hS,q⟩:=q
   exact ⟨[],H1,I1,.nil,q.here hS .nil⟩
 exact ⟨I2.kIn,run_V G gd hr hb hx I2 r rz q2.1 q2.2.1 q2.2.2⟩
end
theorem hu65 {k : Nat} {A : Around} (hr : Room k A) : A.units + 65 < cLine:=by
 have:=hr.un
 omega
section
variable {P : Program} {w : World} {K : PySem.W.Frag} {mg : Str → Option Value} {base : Heap}
theorem gokVD {x qual : Str} {sd : Stmt} {f : Addr} {fd : FuncData} {dvs : List V} {kws : List (Str × V)} {N ps : List Str} {k : Nat} {body : En → AS → Fl} (frz : Nat) (F : FunD K x qual (defArgs sd) (defBody sd) (defScope sd) dvs kws f fd) (S : FnScope N ps (defScope sd))
   (walk : ∀ (cdv : Value) (A : Around),A.guards = some [] → ∀ (outer : List Env) (s : Shared) (H : Hp) (E : XK),Room k (A.deeper (envOfC qual (defScope sd) s.heap.objs.size f cdv)) →
     VSs (cxOf (L2.CX P w) P w K mg base N qual (defScope sd) f cdv A outer s H E) E (defBody sd) body) :
   FnG P w K mg base (L2.CX P w) (k + 1) f fd ps (spV K ⟨mg,w⟩ ps.length (vFn N.length frz body)):=by
 obtain ⟨oc,od,dV,kV,doc,pm,an,cdv,ct,osl,rfl,lk,hcd,_,_⟩:=F.ex
 refine gfn lk hcd S (fun vs H Q E h=>?_) fun A hg outer s H vs Q E hr hsp=>?_
 · obtain ⟨_,_,_,e,_⟩:=h
   exact e
 · obtain ⟨β,ds,st,hl,r,hS,hp⟩:=hsp
   refine ⟨_,walk cdv A hg outer s H E hr,β,_,st,start_env r,hS,?_⟩
   unfold vFn Fl.fin at hp
   cases o : body (ds.map some ++ List.replicate (N.length - ds.length) none) st with
   | rt d st' =>
     rw [o] at hp
     exact fun β' H' u x S' r'=>ret_ok hS S' x r' hp
   | nx env st' =>
     rw [o] at hp
     exact fun β' H' σ' x S' _=>ret_ok hS S' x .non hp
   | exc c fs st'=>rw [o] at hp; exact hp
   | bk env st'=>rw [o] at hp; exact hp.elim
   | ct env st'=>rw [o] at hp; exact hp.elim
   | bad=>rw [o] at hp; exact hp.elim
/-- .. with tables of code objects that are void -/
def spLawT (K : PySem.W.Frag) : Sp:=fun vs H Q _=>∃ (a : Addr) (ns : List Int),vs = [.ref a] ∧ SqL K H a (ns.map V.int) ∧ ns.length ≤ 63 ∧ (∀ p ∈ tabL K,H p.1 = some (.tbl #[])) ∧ ∀ H',Q (.bl true) H'
theorem endVT {k : Nat} {f : Addr} {fd : FuncData} {F : List D → AS → Out D} {x : Str} (law : ∀ ns : List Int,ns.length ≤ 63 → ∃ st,F [.fzl (ns.map D.int)] [] = .ok (.bl true) st) (G : FnG P w K mg base (L2.CX P w) k f fd [x] (spV K ⟨mg,w⟩ 1 F)) : FnG P w K mg base CX0 k f fd [x] (spLawT K):=by
 refine ⟨fun xs H R Z h=>?_,fun A hg hr outer s H e0 args us vs hb r Q E h=>?_⟩
 · obtain ⟨_,_,rfl,_⟩:=h
   rfl
 · obtain ⟨a,ns,rfl,hq,hl,hT,q⟩:=h
   obtain ⟨st,ev⟩:=law ns hl
   have sp : spV K ⟨mg,w⟩ 1 F [.ref a] H Q E0:=by
     refine ⟨⟨[],[]⟩,[.fzl (ns.map D.int)],[],rfl,.cons (.fzl (hq.imp (fun z=>⟨⟨by simp,by simp⟩,z⟩) id) (reps_ints ns)) .nil,⟨rfl,List.nodup_nil,(fun a ha=>nomatch ha),(fun i a c h1=>nomatch h1),fun p hp=>⟨⟨by simp,by simp⟩,#[],hT p hp,True.intro,fun pos cv hc=>by
       have z : codeAmong pos [] = some cv:=hc
       simp [codeAmong] at z⟩⟩,?_⟩
     rw [ev]
     intro β' H' u _ _ r
     cases r
     exact q H'
   refine codeAny_mono (G.run A hg hr outer s H e0 args us _ hb r Q E0 sp) ?_
   intro res s' hq
   match res,hq with
   | .error e,hq =>
     obtain ⟨_,_,_,_,_,_,_,_,_,_,_,_,z⟩:=hq
     exact z.elim
   | .ok (.ret u),hq=>exact hq
   | .ok .next,hq=>exact hq.elim
   | .ok .brk,hq=>exact hq.elim
   | .ok .cont,hq=>exact hq.elim
end
end VL
namespace VL
open PySem PySem.Spec PyProof.Rows L2 TB
section
variable {X : Cx} {E : XK} {o e : Expr} {es : List Expr} {fo fe : En → AS → Out D} {fs : En → AS → Out (List D)} {pos : Pos}
theorem om_extend : OkM X E "list.extend" extD:=⟨_,(show MtR X "list.extend" rExtend from mt_extend).or (show MtR X "list.extend" (rExtT X.K) from mt_extendT),fun β H st x xs u us Q S rx rs h=>by
 unfold extD at h
 split at h
 · rename_i y
   obtain ⟨v,rfl,rv⟩:=one_ok rs
   split at h
   · rename_i zs ez
     obtain ⟨p,ws,ds,r,ds',rfl,e,q,ek,hq⟩:=putL_ok S rx h
     split at ek
     · rename_i hl
       cases ek
       cases rv with
       | tup n2 e2 r2 =>
         cases ez
         exact .inr ⟨p,_,ws,_,rfl,rfl,e,.inl (.inl e2),by rw [q.length,r2.length]; exact hl,hq _ _ .non (q.append r2)⟩
       | lst n2 e2 r2 =>
         obtain ⟨b,zs',e3,e4,r4⟩:=S.listsW (.lst n2 e2 r2) ez
         cases e3
         exact .inl ⟨p,_,ws,zs',rfl,rfl,e,e4,by rw [q.length,r4.length]; exact hl,hq _ _ .non (q.append r4)⟩
       | ref er =>
         obtain ⟨b,zs',e3,e4,r4⟩:=S.listsW (.ref er) ez
         cases e3
         exact .inl ⟨p,_,ws,zs',rfl,rfl,e,e4,by rw [q.length,r4.length]; exact hl,hq _ _ .non (q.append r4)⟩
       | _=>cases ez
     · cases ek
   · exact h.elim
 · exact h.elim⟩
@[simp] def popAtD (x : D) (xs : List D) (st : AS) : Out D:=match xs with
 | [.int i]=>if -(2 ^ 63) ≤ i ∧ i < 2 ^ 63 then putL x st fun ds=>(match ixN ds.length i with
   | some k=>(match ds[k]? with
     | some d=>some (d,ds.eraseIdx k)
     | none=>none)
   | none=>none) else .bad
 | _=>.bad
theorem Reps.erase {K : PySem.W.Frag} {H : Hp} {β : Bt} : ∀ {ds : List D} {us : List V} (i : Nat),Reps K H β ds us → Reps K H β (ds.eraseIdx i) (us.eraseIdx i)
 | _,_,_,.nil=>.nil
 | _,_,0,.cons _ t=>t
 | _,_,i + 1,.cons q t=>.cons q (Reps.erase i t)
@[simp] def insD (x : D) (xs : List D) (st : AS) : Out D:=match xs with
 | [.int i,y]=>if 0 ≤ i ∧ i < 2 ^ 63 then putL x st fun ds=>if ds.length < sizeLine then some (.non,ds.take i.toNat ++ [y] ++ ds.drop i.toNat) else none else .bad
 | _=>.bad
/-- the first place of a thing -/
@[simp] def idxD (x : D) (xs : List D) (st : AS) : Out D:=match xs with
 | [y]=>(match listOf st x with
   | some ds=>if (scalD y && ds.all scalD) = true then (match ds.findIdx? (fun d=>eqvD d y) with
     | some j=>.ok (.int (j : Nat)) st
     | none=>.bad) else .bad
   | none=>.bad)
 | _=>.bad
def sortI (ns : List Int) : List Int:=ns.mergeSort fun a b=>decide (a ≤ b)
theorem sortI_perm (ns : List Int) : (sortI ns).Perm ns:=List.mergeSort_perm _ _
theorem sortI_pw (ns : List Int) : (sortI ns).Pairwise (· ≤ ·):=by
 have h:=List.pairwise_mergeSort (le:=fun a b : Int=>decide (a ≤ b)) (fun a b c h1 h2=>by simp at *; omega) (fun a b=>by simp; omega) ns
 exact h.imp fun z=>by simpa using z
theorem sortI_eq {ns ms : List Int} (h1 : ms.Perm ns) (h2 : ms.Pairwise (· ≤ ·)) : ms = sortI ns :=
 List.Perm.eq_of_pairwise (fun a b _ _ x y=>Int.le_antisymm x y) h2 (sortI_pw ns) (h1.trans (sortI_perm ns).symm)
def leStr (a b : Str) : Bool:=!ltStr b a
def sortS (xs : List Str) : List Str:=xs.mergeSort leStr
theorem str_ext {a b : Str} (h : a.cps.toList = b.cps.toList) : a = b:=by
 cases a; cases b
 simp only [Str.mk.injEq]
 exact Array.toList_inj.mp h
theorem leStr_iff {a b : Str} : leStr a b = true ↔ ¬ b.cps.toList < a.cps.toList:=by simp [leStr,ltStr]
theorem leStr_trans (a b c : Str) (h1 : leStr a b = true) (h2 : leStr b c = true) : leStr a c = true:=by
 rw [leStr_iff] at *
 intro h
 rcases Nat.lt_or_ge 0 1 with _ | z
 · have t1 : a.cps.toList ≤ b.cps.toList:=List.not_lt.mp h1
   have t2 : b.cps.toList ≤ c.cps.toList:=List.not_lt.mp h2
   exact (List.not_lt.mpr (List.le_trans t1 t2)) h
 · omega
theorem leStr_total (a b : Str) : (leStr a b || leStr b a) = true:=by
 rw [Bool.or_eq_true,leStr_iff,leStr_iff]
 rcases List.le_total a.cps.toList b.cps.toList with h | h
 · exact .inl (List.not_lt.mpr h)
 · exact .inr (List.not_lt.mpr h)
theorem leStr_anti {a b : Str} (h1 : leStr a b = true) (h2 : leStr b a = true) : a = b:=by
 rw [leStr_iff] at *
 exact str_ext (List.le_antisymm (List.not_lt.mp h1) (List.not_lt.mp h2))
theorem sortS_perm (xs : List Str) : (sortS xs).Perm xs:=List.mergeSort_perm _ _
theorem sortS_pw (xs : List Str) : (sortS xs).Pairwise (fun a b=>leStr a b = true):=List.pairwise_mergeSort leStr_trans leStr_total xs
theorem rising_pw : ∀ {x : Str} {r : List Str},risingS x r = true → (x :: r).Pairwise (fun a b=>leStr a b = true)
 | x,[],_=>List.pairwise_singleton _ _
 | x,y :: r,h=>by
   rw [risingS,Bool.and_eq_true] at h
   have ih:=rising_pw h.2
   have hxy : leStr x y = true:=by
     rw [leStr_iff]
     have h1:=h.1
     rw [ltCps_eq] at h1
     simpa using h1
   refine List.pairwise_cons.mpr ⟨fun z hz=>?_,ih⟩
   rcases List.mem_cons.mp hz with e | e
   · rw [e]; exact hxy
   · exact leStr_trans x y z hxy ((List.pairwise_cons.mp ih).1 z e)
theorem sortS_eq {xs ys : List Str} (h1 : ys.Perm xs) (h2 : sortedS ys = true) : ys = sortS xs:=by
 have pw : ys.Pairwise (fun a b=>leStr a b = true):=by
   cases ys with
   | nil=>exact List.Pairwise.nil
   | cons x r=>exact rising_pw h2
 exact List.Perm.eq_of_pairwise (fun a b _ _ x y=>leStr_anti x y) pw (sortS_pw xs) (h1.trans (sortS_perm xs).symm)
@[simp] def strsOf : List D → Option (List Str)
 | []=>some []
 | .str i :: ds=>(strsOf ds).map (i :: ·)
 | _ :: _=>none
theorem strsOf_map : ∀ ns : List Str,strsOf (ns.map D.str) = some ns
 | []=>rfl
 | n :: ns=>by rw [List.map_cons,strsOf,strsOf_map ns]; rfl
theorem Reps.strs {K : PySem.W.Frag} {H : Hp} {β : Bt} : ∀ {ds : List D} {xs : List Str} {us : List V},strsOf ds = some xs → Reps K H β ds us → us = xs.map V.str
 | [],_,_,e,.nil=>by
   cases e
   rfl
 | d :: ds,bs,_,e,.cons r t=>by
   cases d with
   | str b =>
     rw [strsOf] at e
     cases e2 : strsOf ds with
     | none=>rw [e2] at e; cases e
     | some cs =>
       rw [e2] at e
       cases e
       cases r
       rw [Reps.strs e2 t]
       rfl
   | _=>simp [strsOf] at e
theorem reps_strs {K : PySem.W.Frag} {H : Hp} {β : Bt} : ∀ ns : List Str,Reps K H β (ns.map D.str) (ns.map V.str)
 | []=>.nil
 | n :: ns=>.cons (.str n) (reps_strs ns)
@[simp] def sortD (c : Bool) (x : D) (st : AS) : Out D:=match listOf st x with
 | some ds=>(match intsOf ds with
   | some ns=>mk c ((sortI ns).map D.int) st
   | none=>(match strsOf ds with
     | some xs=>if xs.length < 64 then mk c ((sortS xs).map D.str) st else .bad
     | none=>.bad))
 | none=>.bad
theorem ob_sorted (c : Bool) : OkB X E (.builtin "sorted") (g1 (sortD c)):=⟨_,cr_sortedI.or cr_sortedS,fun β H st xs us Q S r h=>by
 obtain ⟨x,u,rfl,rx,h⟩:=g1_ok r h
 unfold sortD at h
 split at h
 · rename_i ds e
   obtain ⟨p,us,rfl,hq,r⟩:=S.lists rx e
   split at h
   · rename_i ns en
     have z:=intsOf_eq en
     subst z
     have w:=r.ints
     subst w
     exact .inl ⟨p,ns,rfl,hq,fun ns' p' h1 h2 hp=>by rw [sortI_eq h1 h2]; exact new_lst h S (reps_ints _) p' hp⟩
   · split at h
     · rename_i zs en
       obtain ⟨hl,h⟩:=h.ite
       have w:=r.strs en
       subst w
       exact .inr ⟨p,zs,rfl,hq,hl,fun ys p' h1 h2 hp=>by rw [sortS_eq h1 h2]; exact new_lst h S (reps_strs _) p' hp⟩
     · exact h.elim
 · exact h.elim⟩
@[simp] def vMS (g : D → List D → AS → Out D) (fo : En → AS → Out D) (fs : En → AS → Out (List D)) (env : En) (st : AS) : Out D:=(fo env st).bind fun x st=>(match x with
 | .str _=>(fs env st).bind fun xs st=>g x xs st
 | _=>.bad)
theorem ve_ms {name : Str} {apos cpos : Pos} {id : String} {g : D → List D → AS → Out D} (slot : Slot "str" name id) (hty : typeOf (.builtin id) = pure (.type "method_descriptor")) (hm : OkM X E id g) (ho : VE X E o fo) (ha : VA X E (e :: es) fs)
   (hbase : attributeBase o name X.env (eval o X.env) = eval o X.env:=by rfl)
   (hfew : ((backTo cpos (starEach (e :: es) X.env)).all (fun x=>!x.1) && (backToKw cpos (keywordEach [] X.env)).all (fun x=>x.1.isSome)
     && decide ((e :: es).length + ([] : List Keyword).length + (if ([] : List Keyword).isEmpty then 0 else 1) < 30)) = true:=by rfl)
   (hline : (apos.endLine == cpos.line) = true:=by rfl) (hs : starEach (e :: es) X.env = (false,eval e X.env) :: starEach es X.env:=by rfl) (hplain : (backTo cpos (starEach es X.env)).any (·.1) = false:=by rfl) :
   VE X E (.Call (.Attribute o name apos) (e :: es) [] cpos) (vMS g fo fs):=by
 obtain ⟨r,h1,h2⟩:=hm
 refine weakE (pe_bm PySem.F.plainAttrs_str slot hty h1 ho ha hbase hfew hline hs hplain) fun σ H Q ⟨β,env,st,he,hS,h⟩=>?_
 refine tG_bind he hS h fun x st1 β1 H1 u x1 s1 e1 r1 h3=>?_
 cases r1 with
 | str z =>
   refine ⟨rfl,?_⟩
   exact tG_bind e1 s1 h3 fun xs st2 β2 H2 us x2 s2 e2 r2 h4=>h2 β2 H2 st2 _ xs _ us Q s2 (.str z) r2 h4
 | _=>exact h3.elim
@[simp] def joinD (x : D) (xs : List D) (st : AS) : Out D:=match x with
 | .str a=>(match xs with
   | [y]=>(match seqOf st y with
     | some ds=>(match strsOf ds with
       | some ys=>if (ys.map (·.length)).sum + ys.length * a.length ≤ 16777216 then .ok (.str (Txt.join a ys)) st else .bad
       | none=>.bad)
     | none=>.bad)
   | _=>.bad)
 | _=>.bad
@[simp] def findD (x : D) (xs : List D) (st : AS) : Out D:=match x,xs with
 | .str a,[.str b]=>.ok (.int (Txt.find a b)) st
 | _,_=>.bad
@[simp] def sidxD (x : D) (xs : List D) (st : AS) : Out D:=match x,xs with
 | .str a,[.str b]=>(match Builtin.Str.occurrences a b 0 a.length 1 with
   | i :: _=>.ok (.int (i : Nat)) st
   | []=>.bad)
 | _,_=>.bad
theorem om_sindex : OkM X E "str.index" sidxD:=⟨_,mt_sindex,fun β H st x xs u us Q S rx rs h=>by
 unfold sidxD at h
 split at h
 · rename_i a b
   obtain ⟨v,rfl,rv⟩:=one_ok rs
   cases rx
   cases rv
   split at h
   · rename_i i rest ei
     exact ⟨a,b,i,rest,rfl,rfl,ei,h.here S (.int _)⟩
   · exact h.elim
 · exact h.elim⟩
/-- int(x) -/
@[simp] def intD (x : D) (st : AS) : Out D:=match x with
 | .int i=>.ok (.int i) st
 | .bl b=>.ok (.int (if b = true then 1 else 0)) st
 | _=>.bad
theorem psets {K : PySem.W.Frag} {mg : MG} {β : Bt} {H : Hp} {st : AS} {De : Ends} {σ : L2.St} {env : En} {o i v : D} {uo ui uv : V} (S : Sim K mg β st H) (he : EnvR K H β env σ) (ro : Rep K H β o uo) (ri : Rep K H β i ui) (rv : Rep K H β v uv)
   (h : PostS K mg E β H De ((setD o i v st).fl fun _ st=>.nx env st)) : rSetL uo ui uv H (fun H'=>De.nx σ H') ∨ rSetD uo ui uv H (fun H'=>De.nx σ H') :=
 set_ok (E:=E) S ro ri rv (fl_post (R:=fun _ _ _ _=>True) h fun _ st1 β1 H1 _ x s1 _ h1=>h1 β1 H1 σ (Ext.refl _ _) s1 (he.ext x))
@[simp] def sAugS (fo fi : En → AS → Out D) (op : D → D → AS → Out D) (fe : En → AS → Out D) (env : En) (st : AS) : Fl:=(fo env st).fl fun o st=>(fi env st).fl fun i st=>(match i with
 | .int k=>(match listOf st o with
   | some ds=>(match (if 0 ≤ k then ds[k.toNat]? else none) with
     | some x=>(fe env st).fl fun y st=>(op x y st).fl fun z st=>(setD o i z st).fl fun _ st=>.nx env st
     | none=>.bad)
   | none=>.bad)
 | _=>.bad)
theorem vs_augS (hu : X.A.units + 65 < cLine) {i : Expr} {fi : En → AS → Out D} {op : Operator} {gi : D → D → AS → Out D} {tpos : Pos} (ho : VE X E o fo) (hi : VE X E i fi) (he : VE X E e fe) (hp : OkI X E op gi)
   (ha : ∀ ov iv new,augStore i ov iv new = (do holding [new,ov,iv] (setItem ov iv new); release [new,ov,iv] []; pure .next):=by intros; rfl) : VS X E (.AugAssign (.Subscript o i tpos) op e pos) (sAugS fo fi gi fe):=by
 obtain ⟨r,h1,h2⟩:=hp
 refine weakS (ps_augS ho hi get_list he h1 (psetOr set_list (set_dict (Nat.lt_of_le_of_lt (by omega) hu))) ha) fun De σ H ⟨β,env,st,hE,hS,h⟩=>?_
 refine fl_bind hE hS h fun ov st1 β1 H1 uo x1 s1 e1 r1 h3=>?_
 refine fl_bind e1 s1 h3 fun iv st2 β2 H2 ui x2 s2 e2 r2 h4=>?_
 cases r2 with
 | int k =>
   dsimp only at h4
   split at h4
   · rename_i ds ed
     split at h4
     · rename_i x ex
       by_cases hk : 0 ≤ k
       · rw [if_pos hk] at ex
         obtain ⟨a,us,rfl,hq,rr⟩:=s2.lists (r1.ext x2) ed
         obtain ⟨u,eu,ru⟩:=rr.get ex
         refine ⟨a,us,k.toNat,u,rfl,by rw [Int.toNat_of_nonneg hk],hq,eu,?_⟩
         refine fl_bind e2 s2 h4 fun y st3 β3 H3 w x3 s3 e3 r3 h5=>?_
         refine h2 β3 H3 st3 x y u w _ s3 (ru.ext x3) r3 (fl_post h5 fun z st4 β4 H4 t x4 s4 r4 h6=>?_)
         exact psets s4 (e3.ext x4) (((r1.ext x2).ext x3).ext x4) (.int k) r4 h6
       · rw [if_neg hk] at ex
         cases ex
     · exact h4.elim
   · exact h4.elim
 | _=>exact h4.elim
end
end VL
namespace VL
open PySem PySem.Spec PyProof.Rows L2 TB
section
variable {K : PySem.W.Frag} {mg : MG} {E : XK} {β β' β2 : Bt} {H H' H2 : Hp} {st : AS} {p : Addr} {o0 o : HO}
theorem XRep.unhide {c : Str} {fs : List (Str × D)} {cls : Value} {d : Option Addr} (h : XRep K mg H (β.hide p) c fs cls d) : XRep K mg H β c fs cls d:=by
 obtain ⟨Ca,dx,vs,h1,h2,h3,h4,h5,h6,h7⟩:=h
 exact ⟨Ca,dx,vs,h1,h2,h3,Bt.hide_out h4,h5,h6,Reps.weak (β:=β.hide p) (β':=β) (fun _ _ z=>z) (fun _ _ _ z=>Bt.hide_out (β:=β) z) h7⟩
end
def mergeKD {κ : Type} [DecidableEq κ] (kvs more : List (κ × D)) : List (κ × D):=more.foldl (fun acc kv=>putKD acc kv.1 kv.2) kvs
@[simp] theorem mergeKD_nil {κ : Type} [DecidableEq κ] (kvs : List (κ × D)) : mergeKD kvs [] = kvs:=rfl
@[simp] theorem mergeKD_cons {κ : Type} [DecidableEq κ] (kvs : List (κ × D)) (p : κ × D) (r : List (κ × D)) : mergeKD kvs (p :: r) = mergeKD (putKD kvs p.1 p.2) r:=rfl
theorem RepK.nil {κ : Type} {K : PySem.W.Frag} {H : Hp} {β : Bt} : RepK (κ:=κ) K H β [] []:=⟨rfl,.nil⟩
theorem RepK.cons {κ : Type} {K : PySem.W.Frag} {H : Hp} {β : Bt} {p : κ × D} {q : κ × V} {ps : List (κ × D)} {qs : List (κ × V)} (h : RepK K H β (p :: ps) (q :: qs)) : p.1 = q.1 ∧ Rep K H β p.2 q.2 ∧ RepK K H β ps qs:=by
 obtain ⟨h1,h2⟩:=h
 simp only [List.map_cons,List.cons.injEq] at h1
 cases h2 with
 | cons r t=>exact ⟨h1.1,r,h1.2,t⟩
/-- keys of pairs -/
@[simp] def keysP : List (D × D) → Option (List (Key × D))
 | []=>some []
 | p :: r=>match keyD p.1,keysP r with
   | some k,some ks=>some ((k,p.2) :: ks)
   | _,_=>none
abbrev FE:=En → AS → Out D
@[simp] def vPs : List (FE × FE) → En → AS → Out (List (D × D))
 | []=>fun _ st=>.ok [] st
 | p :: r=>fun env st=>(p.1 env st).bind fun x st=>(p.2 env st).bind fun y st=>(vPs r env st).bind fun ps st=>.ok ((x,y) :: ps) st
@[simp] def gDisp (ps : List (D × D)) (st : AS) : Out D:=match keysP ps with
 | some kvs=>if kvs.length ≤ 15 then .ok (.ref st.length) (st ++ [.dct (mergeKD [] kvs)]) else .bad
 | none=>.bad
@[simp] def vDisp (prs : List (FE × FE)) (env : En) (st : AS) : Out D:=(vPs prs env st).bind gDisp
section
variable {X : Cx} {E : XK} {pos : Pos}
theorem EnvR.hide {K : PySem.W.Frag} {H : Hp} {β : Bt} {env : En} {σ : L2.St} {p : Addr} {o : HO} (e : EnvR K H β env σ) (hp : H p = none) : EnvR K (upd H p o) (β.hide p) env σ:=⟨e.len,fun i d q=>by
 obtain ⟨u,h1,h2⟩:=e.get i d q
 exact ⟨u,h1,h2.hide hp⟩⟩
@[simp] def vDNew (_ : En) (st : AS) : Out D:=.ok (.ref st.length) (st ++ [.dct []])
@[simp] def vDNewT (_ : En) (st : AS) : Out D:=.ok (.ref st.length) (st ++ [.dtt []])
@[simp] def isDict (st : AS) (d : D) : Bool:=match d with
 | .ref i=>(match st[i]? with
   | some (.dct _)=>true
   | some (.dtt _)=>true
   | _=>false)
 | _=>false
variable {o e : Expr} {es : List Expr} {fo fe : FE} {fs : En → AS → Out (List D)} {name : Str} {apos cpos : Pos} {id : String}
@[simp] def vMD (g : D → List D → AS → Out D) (fo : FE) (fs : En → AS → Out (List D)) (env : En) (st : AS) : Out D:=(fo env st).bind fun x st=>if isDict st x = true then (fs env st).bind fun xs st=>g x xs st else .bad
@[simp] def vMD0 (g : D → List D → AS → Out D) (fo : FE) (env : En) (st : AS) : Out D:=(fo env st).bind fun x st=>if isDict st x = true then g x [] st else .bad
/-- what a dict has at a key; none: no dict,no key -/
@[simp] def lookD (st : AS) (x y : D) : Option (Option D):=match x with
 | .ref i=>(match st[i]? with
   | some (.dct kvs)=>(match keyD y with
     | some k=>some (valK kvs k)
     | none=>none)
   | some (.dtt kvs)=>(match y with
     | .tup ks=>(match keysD ks with
       | some k=>some (valK kvs k)
       | none=>none)
     | _=>none)
   | _=>none)
 | _=>none
@[simp] def getD1 (x : D) (xs : List D) (st : AS) : Out D:=match xs with
 | [y]=>(match lookD st x y with
   | some r=>.ok (r.getD .non) st
   | none=>.bad)
 | _=>.bad
@[simp] def getD2 (x : D) (xs : List D) (st : AS) : Out D:=match xs with
 | [y,z]=>(match lookD st x y with
   | some r=>.ok (r.getD z) st
   | none=>.bad)
 | _=>.bad
@[simp] def updD (x : D) (xs : List D) (st : AS) : Out D:=match x,xs with
 | .ref i,[.ref j]=>if i ≠ j then (match st[i]?,st[j]? with
   | some (.dct ks),some (.dct ls)=>if ks.length + ls.length ≤ sizeLine then .ok .non (st.set i (.dct (mergeKD ks ls))) else .bad
   | _,_=>.bad) else .bad
 | _,_=>.bad
end
end VL
namespace VL
open PySem PySem.Spec PyProof.Rows L2 TB
@[simp] def keyV : Key → D
 | .inl i=>.int i
 | .inr x=>.str x
/-- what is walked: keys,values,pairs -/
inductive Wk where
 | keys | vals | items
@[simp] def wkD (w : Wk) (kvs : List (Key × D)) : List D:=match w with
 | .keys=>kvs.map fun kv=>keyV kv.1
 | .vals=>kvs.map (·.2)
 | .items=>kvs.map fun kv=>.tup [keyV kv.1,kv.2]
@[simp] def itK (w : Wk) (d : D) (st : AS) : Out (List D × Gd):=match d with
 | .ref i=>(match st[i]? with
   | some (.lck kvs)=>.ok (wkD w kvs,[(i,.lck kvs)]) st
   | _=>.bad)
 | _=>.bad
theorem RepK.at {κ : Type} {K : PySem.W.Frag} {H : Hp} {β : Bt} : ∀ {kvs : List (κ × D)} {us : List (κ × V)} {i : Nat} {k : κ} {v : V},RepK K H β kvs us → us[i]? = some (k,v) → ∃ d,kvs[i]? = some (k,d) ∧ Rep K H β d v
 | [],us,i,k,v,h,e=>by
   have : us = []:=List.length_eq_zero_iff.mp h.length
   subst this
   simp at e
 | p :: kvs,[],i,k,v,h,e=>by simp at e
 | p :: kvs,q :: us,0,k,v,h,e=>by
   obtain ⟨e1,r,_⟩:=h.cons
   simp at e
   subst e
   exact ⟨p.2,congrArg some (Prod.ext e1 rfl),r⟩
 | p :: kvs,q :: us,i + 1,k,v,h,e=>by
   obtain ⟨_,_,t⟩:=h.cons
   obtain ⟨d,h1,h2⟩:=RepK.at (i:=i) t (by simpa using e)
   exact ⟨d,by simpa using h1,h2⟩
theorem RepK.extW {κ : Type} {K : PySem.W.Frag} {β β' : Bt} {H H' : Hp} (x : ExtW β H β' H') {fs : List (κ × D)} {vs : List (κ × V)} (h : RepK K H β fs vs) : RepK K H' β' fs vs:=⟨h.1,h.2.extW x⟩
/-- a dict's cell,locked -/
@[simp] def lkC : C → Option C
 | .dct kvs=>some (.lck kvs)
 | .dtt kvs=>some (.lct kvs)
 | .dtf kvs=>some (.lcf kvs)
 | _=>none
@[simp] def ulC : C → Option C
 | .lck kvs=>some (.dct kvs)
 | .lct kvs=>some (.dtt kvs)
 | .lcf kvs=>some (.dtf kvs)
 | _=>none
@[simp] def unlS (i : Nat) (st : AS) : Option AS:=match st[i]? with
 | some (.lck kvs)=>some (st.set i (.dct kvs))
 | some (.lct kvs)=>some (st.set i (.dtt kvs))
 | some (.lcf kvs)=>some (st.set i (.dtf kvs))
 | _=>none
def Fl.unl (i : Nat) (o : Fl) : Fl:=match o with
 | .nx env st=>(match unlS i st with
   | some st'=>.nx env st'
   | none=>.bad)
 | .rt d st=>(match unlS i st with
   | some st'=>.rt d st'
   | none=>.bad)
 | .bk env st=>(match unlS i st with
   | some st'=>.bk env st'
   | none=>.bad)
 | .ct env st=>(match unlS i st with
   | some st'=>.ct env st'
   | none=>.bad)
 | .exc c fs st=>.exc c fs st
 | .bad=>.bad
def Out.unl {α : Type} (i : Nat) (o : Out α) : Out α:=match o with
 | .ok a st=>(match unlS i st with
   | some st'=>.ok a st'
   | none=>.bad)
 | .exc c fs st=>.exc c fs st
 | .bad=>.bad
@[simp] def sLock (fe : FE) (f : En → AS → Fl) (env : En) (st : AS) : Fl:=match fe env st with
 | .ok (.ref i) _=>(match st[i]? with
   | some (.dct kvs)=>(f env (st.set i (.lck kvs))).unl i
   | some (.dtt kvs)=>(f env (st.set i (.lct kvs))).unl i
   | some (.dtf kvs)=>(f env (st.set i (.lcf kvs))).unl i
   | some (.lck _)=>f env st
   | some (.lct _)=>f env st
   | some (.lcf _)=>f env st
   | _=>.bad)
 | _=>.bad
@[simp] def vLock {α : Type} (fe : FE) (f : En → AS → Out α) (env : En) (st : AS) : Out α:=match fe env st with
 | .ok (.ref i) _=>(match st[i]? with
   | some (.dct kvs)=>(f env (st.set i (.lck kvs))).unl i
   | some (.dtt kvs)=>(f env (st.set i (.lct kvs))).unl i
   | some (.dtf kvs)=>(f env (st.set i (.lcf kvs))).unl i
   | some (.lck _)=>f env st
   | some (.lct _)=>f env st
   | some (.lcf _)=>f env st
   | _=>.bad)
 | _=>.bad
section
variable {K : PySem.W.Frag} {mg : MG} {E : XK} {β β' : Bt} {H H' : Hp} {st : AS} {a : Addr} {i : Nat} {us : List (Key × V)} {kvs : List (Key × D)} {od : Obj} {c c' : C} {u : HO}
theorem EnvR.extW {env : En} {σ : L2.St} (e : EnvR K H β env σ) (x : ExtW β H β' H') : EnvR K H' β' env σ:=⟨e.len,fun i d h=>by
 obtain ⟨u,h1,h2⟩:=e.get i d h
 exact ⟨u,h1,h2.extW x⟩⟩
end
section
variable {X : Cx} {E : XK} {s : Stmt} {e : Expr} {fe f : FE} {fs : En → AS → Fl}
@[simp] def dctOf (st : AS) (d : D) : Option (List (Key × D)):=match d with
 | .ref i=>(match st[i]? with
   | some (.dct kvs)=>some kvs
   | some (.lck kvs)=>some kvs
   | _=>none)
 | _=>none
@[simp] def lstKD (c : Bool) (x : D) (st : AS) : Out D:=match dctOf st x with
 | some kvs=>mk c (kvs.map fun kv=>keyV kv.1) st
 | none=>lstD c x st
end
end VL
namespace VL
open PySem PySem.Spec PyProof.Rows L2 TB
def kOf (e : Int × Value) : Key:=match e.2 with
 | .int k _=>.inl k
 | .str x _=>.inr x
 | _=>.inl 0
theorem kOf_is {k : Key} {v : Value} {h : Int} (e : keyIs k v = true) : kOf (h,v) = k:=by
 rcases keyIs_shape e with ⟨i,t,rfl,rfl⟩ | ⟨x,t,rfl,rfl⟩ <;> rfl
end VL
namespace VL
open PySem PySem.Spec PyProof.Rows L2 TB
/-- each once,the last of like ones -/
def ddup {α : Type} [DecidableEq α] : List α → List α
 | []=>[]
 | x :: r=>if (r.any fun z=>decide (z = x)) = true then ddup r else x :: ddup r
end VL
namespace VL
open PySem PySem.Spec PyProof.Rows L2 TB
@[simp] def srtSetD (c : Bool) (x : D) (st : AS) : Out D:=match seqOf st x with
 | some ds=>(match intsOf ds with
   | some ns=>if ns.length ≤ 1000 then mk c ((sortI (ddup ns)).map D.int) st else .bad
   | none=>(match strsOf ds with
     | some xs=>if xs.length ≤ 1000 then mk c ((sortS (ddup xs)).map D.str) st else .bad
     | none=>.bad))
 | none=>.bad
@[simp] def lenSetD (x : D) (st : AS) : Out D:=match seqOf st x with
 | some ds=>(match intsOf ds with
   | some ns=>if ns.length ≤ 1000 then .ok (.int (ddup ns).length) st else .bad
   | none=>(match strsOf ds with
     | some xs=>if xs.length ≤ 1000 then .ok (.int (ddup xs).length) st else .bad
     | none=>.bad))
 | none=>.bad
/-- what set(..) may be of: keys -/
@[simp] def keysOfD (ds : List D) : Option (List Key):=match intsOf ds with
 | some ns=>some (ns.map Sum.inl)
 | none=>(strsOf ds).map (·.map Sum.inr)
section
variable {X : Cx} {E : XK} {a : Expr} {fa : FE} {p p2 q pos : Pos}
theorem Inv.grown {pins : List (Addr × Obj)} {σ : L2.St} {H : Hp} {s s' : Shared} {p : Addr} {xs : List V} {out : Array Value} {c : Nat} (I : Inv X pins σ H s) (k : ∀ b o, s.heap.get? b = some o → s'.heap.get? b = some o) (g : s'.gens = s.gens) (o : s'.os = s.os) (hp : s.heap.objs.size ≤ p) (hg : s'.heap.get? p = some (seqObj "list" out c)) (hl : xs.length ≤ sizeLine) (r : Vals xs out.toList) :
   H p = none ∧ Inv X pins σ (upd H p (.lst xs)) s':=by
 have hn : H p = none:=I.hok.fresh hp
 refine ⟨hn,?_⟩
 have J : Inv X pins σ (upd H p (.lst xs)) { s with heap:=s'.heap,gens:=s'.gens,drawn:=s'.drawn,toks:=s'.toks }:=I.call (ch:=[]) (Un.laid k hp hn) (I.hok.laid k hp ⟨hl,out.toList,c,r,hg⟩) (by rw [g]; exact I.bare) (fun _ z=>nomatch z)
 have e : s' = { s with heap:=s'.heap,gens:=s'.gens,drawn:=s'.drawn,toks:=s'.toks }:=by
   obtain ⟨_,_,_,_,_⟩:=s'
   obtain ⟨_,_,_,_,_⟩:=s
   cases o
   rfl
 rw [e]
 exact J
end
end VL
namespace VL
open PySem PySem.Spec PyProof.Rows L2 TB
inductive Ents (K : PySem.W.Frag) : List DictEntry → List (Str × D) → Prop
 | nil : Ents K [] []
 | cons {e : DictEntry} {es : List DictEntry} {x : Str} {t : Tok} {v : V} {d : D} {ks : List (Str × D)} : e.key = .str x t → RelV v e.val → (∀ H β,Rep K H β d v) → Ents K es ks → Ents K (e :: es) ((x,d) :: ks)
@[simp] def lookS (kvs : List (Str × D)) (z : Str) : Option D:=(kvs.find? fun p=>decide (p.1 = z)).map (·.2)
theorem isStr_iff {x z : Str} {t : Tok} : (Value.str x t).isStr z = decide (x = z):=by
 by_cases e : x = z
 · subst e
   simp [Value.isStr]
 · simp [Value.isStr,e]
theorem Ents.find {K : PySem.W.Frag} (z : Str) : ∀ {es : List DictEntry} {ks : List (Str × D)}, Ents K es ks → es.any (·.refKey) = false ∧
   ((∃ d e v,lookS ks z = some d ∧ es.find? (·.key.isStr z) = some e ∧ RelV v e.val ∧ ∀ H β,Rep K H β d v) ∨ (lookS ks z = none ∧ es.find? (·.key.isStr z) = none))
 | _,_,.nil=>⟨rfl,.inr ⟨rfl,rfl⟩⟩
 | _,_,.cons (e:=e) (x:=x) (t:=t) (v:=v) (d:=d) hk hv hr r=>by
   obtain ⟨h1,h2⟩:=Ents.find z r
   refine ⟨?_,?_⟩
   · rw [List.any_cons,h1]
     unfold DictEntry.refKey
     rw [hk]
     rfl
   · by_cases ez : x = z
     · refine .inl ⟨d,e,v,?_,?_,hv,hr⟩
       · simp [ez]
       · rw [List.find?_cons_of_pos (by rw [hk,isStr_iff]; exact decide_eq_true ez)]
     · have n1 : ∀ ks : List (Str × D),lookS ((x,d) :: ks) z = lookS ks z:=fun ks=>by simp [ez]
       have n2 : ¬ (e.key.isStr z = true):=by
         rw [hk,isStr_iff]
         simpa using ez
       rw [n1,List.find?_cons_of_neg (p:=fun q : DictEntry=>q.key.isStr z) n2]
       exact h2
/-- the module's name c holds a dict of these -/
structure CD (K : PySem.W.Frag) (w : World) (mg : Str → Option Value) (c : Str) (kvs : List (Str × D)) : Prop where
 ex : ∃ (d : Addr) (es : Array DictEntry) (n : Nat),mg c = some (.ref d) ∧ KDict K w d es n ∧ Ents K es.toList kvs
theorem CD.look {K : PySem.W.Frag} {w : World} {d : Addr} {es : Array DictEntry} {n : Nat} {kvs : List (Str × D)} (D : KDict K w d es n) (h : Ents K es.toList kvs) (z : Str) :
   (∃ dv u v,lookS kvs z = some dv ∧ PySem.W.nsIn K d z = some (some u) ∧ RelV v u ∧ ∀ H β,Rep K H β dv v) ∨ (lookS kvs z = none ∧ PySem.W.nsIn K d z = some none):=by
 obtain ⟨h1,h2⟩:=h.find z
 rcases h2 with ⟨dv,e,v,e1,e2,e3,e4⟩ | ⟨e1,e2⟩
 · refine .inl ⟨dv,e.val,v,e1,?_,e3,e4⟩
   unfold PySem.W.nsIn
   rw [D.at_]
   dsimp only
   rw [e2]
 · refine .inr ⟨e1,?_⟩
   unfold PySem.W.nsIn
   rw [D.at_]
   dsimp only
   rw [e2,h1]
   rfl
section
variable {X : Cx} {E : XK} {a b e : Expr} {fa fb : FE} {pos p : Pos} {c : Str} {kvs : List (Str × D)}
@[simp] def cixD (kvs : List (Str × D)) (y : D) (st : AS) : Out D:=match y with
 | .str z=>toOut (lookS kvs z) st
 | _=>.bad
@[simp] def cinD (neg : Bool) (kvs : List (Str × D)) (y : D) (st : AS) : Out D:=match y with
 | .str z=>.ok (.bl (xor neg (lookS kvs z).isSome)) st
 | _=>.bad
/-- the defs that may be meant,by their names -/
inductive Tbl (X : Cx) (k n : Nat) : List (Str × (List D → AS → Out D)) → Prop
 | nil : Tbl X k n []
 | cons {x : Str} {F : List D → AS → Out D} {r : List (Str × (List D → AS → Out D))} {f : Addr} {fd : FuncData} {ps : List Str} : PySem.W.nsIn X.K mainGlobals x = some (some (.ref f)) → PySem.W.keepIn X.K (.ref f) = true →
     FnG X.prog X.w X.K X.mg X.base (L2.CX X.prog X.w) k f fd ps (spV X.K X.mgw n F) → BindV X.K fd ps n [] [] ((List.range n).map .pos) → Tbl X k n r → Tbl X k n ((x,F) :: r)
@[simp] def lookF (T : List (Str × (List D → AS → Out D))) (x : Str) : Option (List D → AS → Out D):=(T.find? fun p=>decide (p.1 = x)).map (·.2)
theorem Tbl.find {k n : Nat} {x : Str} {F : List D → AS → Out D} {f : Addr} (hx : PySem.W.nsIn X.K mainGlobals x = some (some (.ref f))) : ∀ {T : List (Str × (List D → AS → Out D))},Tbl X k n T → lookF T x = some F → ∃ fd ps,PySem.W.keepIn X.K (.ref f) = true ∧ FnG X.prog X.w X.K X.mg X.base (L2.CX X.prog X.w) k f fd ps (spV X.K X.mgw n F) ∧ BindV X.K fd ps n [] [] ((List.range n).map .pos)
 | _,.nil,h=>by cases h
 | _,.cons (x:=y) (F:=G) hy hk hF hb r,h=>by
   by_cases e : y = x
   · subst e
     simp at h
     subst h
     rw [hy] at hx
     cases hx
     exact ⟨_,_,hk,hF,hb⟩
   · refine Tbl.find hx r ?_
     simpa [e] using h
@[simp] def vCallV (i n : Nat) (T : List (Str × (List D → AS → Out D))) (fs : En → AS → Out (List D)) (env : En) (st : AS) : Out D:=match env[i]? with
 | some (some (.cv (.gl x)))=>(match lookF T x with
   | some F=>(fs env st).bind fun xs st=>if xs.length = n then F xs st else .bad
   | none=>.bad)
 | _=>.bad
@[simp] def memS (cs : List Str) (c : Str) : Bool:=cs.any fun z=>decide (z = c)
/-- e.f: of an instance of one of the classes cs -/
@[simp] def fldD (cs : List Str) (f : Str) (x : D) (st : AS) : Out D:=match x with
 | .ref i=>(match st[i]? with
   | some (.obj c fs)=>if memS cs c = true then toOut (lookS fs f) st else .bad
   | _=>.bad)
 | _=>.bad
@[simp] def putFD (f : Str) (d : D) : List (Str × D) → List (Str × D)
 | []=>[(f,d)]
 | p :: r=>if p.1 = f then (p.1,d) :: r else p :: putFD f d r
theorem RepF.put {K : PySem.W.Frag} {H : Hp} {β : Bt} {f : Str} {d : D} {u : V} (rd : Rep K H β d u) : ∀ {fs : List (Str × D)} {vs : List (Str × V)},RepF K H β fs vs → RepF K H β (putFD f d fs) (putF f u vs)
 | [],[],_=>⟨rfl,.cons rd .nil⟩
 | [],_ :: _,h=>absurd (congrArg List.length h.1) (by simp)
 | _ :: _,[],h=>absurd (congrArg List.length h.1) (by simp)
 | p :: fs,(g,v) :: vs,h=>by
   obtain ⟨h1,h2⟩:=h
   simp only [List.map_cons,List.cons.injEq] at h1
   cases h2 with
   | cons r t =>
     obtain ⟨i1,i2⟩:=RepF.put rd (fs:=fs) (vs:=vs) ⟨h1.2,t⟩
     unfold putFD putF
     by_cases e : p.1 = f
     · have e' : g = f:=h1.1.symm.trans e
       rw [if_pos e,if_pos e']
       exact ⟨by simp only [List.map_cons,h1.1,h1.2],.cons rd t⟩
     · have e' : ¬ g = f:=fun z=>e (h1.1.trans z)
       rw [if_neg e,if_neg e']
       exact ⟨by simp only [List.map_cons,h1.1,i1],.cons r i2⟩
theorem RepF.length {K : PySem.W.Frag} {H : Hp} {β : Bt} {fs : List (Str × D)} {vs : List (Str × V)} (h : RepF K H β fs vs) : vs.length = fs.length:=by
 have:=congrArg List.length h.1
 simpa using this.symm
/-- o.f = e -/
@[simp] def setF (cs : List Str) (f : Str) (x y : D) (st : AS) : Out Unit:=match x with
 | .ref i=>(match st[i]? with
   | some (.obj c fs)=>if memS cs c = true ∧ fs.length < 1000 then .ok () (st.set i (.obj c (putFD f y fs))) else .bad
   | _=>.bad)
 | _=>.bad
@[simp] def sFldV (cs : List Str) (f : Str) (fo fe : FE) (env : En) (st : AS) : Fl:=(fe env st).fl fun y st=>(fo env st).fl fun x st=>(setF cs f x y st).fl fun _ st=>.nx env st
/-- o.f += e,o.f -= e: ints -/
@[simp] def clsOf (cs : List Str) (f : Str) (x : D) (st : AS) : Option (Str × D):=match x with
 | .ref i=>(match st[i]? with
   | some (.obj c fs)=>if memS cs c = true then (lookS fs f).map fun d=>(c,d) else none
   | _=>none)
 | _=>none
@[simp] def sFldAugV (cs : List Str) (f : Str) (op : Int → Int → Int) (fo fe : FE) (env : En) (st : AS) : Fl:=(fo env st).fl fun x st=>match clsOf cs f x st with
 | some cd=>(fe env st).fl fun b st=>(iiD (fun i j=>.int (op i j)) cd.2 b st).fl fun y st=>(setF [cd.1] f x y st).fl fun _ st=>.nx env st
 | none=>.bad
/-- C(e,..): the instance,then its __init__ -/
@[simp] def vMake (c : Str) (n : Nat) (ds : List D) (ss : List Src) (F : List D → AS → Out D) (fs : En → AS → Out (List D)) (env : En) (st : AS) : Out D:=(fs env st).bind fun xs st=>if xs.length = n then
 (F (asm (.ref st.length :: xs) [] ds ss) (st ++ [.obj c []])).bind fun r st'=>(match r with
   | .non=>.ok (.ref st.length) st'
   | _=>.bad) else .bad
end
end VL
namespace VL
open PySem PySem.Spec PyProof.Rows L2 TB
def intKeys : List (Key × D) → Option (List Int)
 | []=>some []
 | (.inl i,_) :: r=>(intKeys r).map (i :: ·)
 | (.inr _,_) :: _=>none
def strKeys : List (Key × D) → Option (List Str)
 | []=>some []
 | (.inr i,_) :: r=>(strKeys r).map (i :: ·)
 | (.inl _,_) :: _=>none
section
variable {X : Cx} {E : XK} {e : Expr} {es : List Expr} {fe : FE} {fs : En → AS → Out (List D)} {pos p : Pos}
@[simp] def sortKD (c : Bool) (x : D) (st : AS) : Out D:=match dctOf st x with
 | some kvs=>(match intKeys kvs with
   | some ns=>if ns.length < 64 then mk c ((sortI ns).map D.int) st else .bad
   | none=>(match strKeys kvs with
     | some xs=>if xs.length < 64 then mk c ((sortS xs).map D.str) st else .bad
     | none=>.bad))
 | none=>.bad
@[simp] def dfD (g : List Int → Int) (xs : List D) (d : D) (st : AS) : Out D:=match xs with
 | [x]=>(match listOf st x with
   | some ds=>(match intsOf ds with
     | some ns=>if ns = [] then .ok d st else .ok (.int (g ns)) st
     | none=>.bad)
   | none=>.bad)
 | _=>.bad
@[simp] def vMaxDf (fs : En → AS → Out (List D)) (fd : FE) (env : En) (st : AS) : Out D:=(fs env st).bind fun xs st=>(fd env st).bind fun d st=>dfD maxI xs d st
@[simp] def vMinDf (fs : En → AS → Out (List D)) (fd : FE) (env : En) (st : AS) : Out D:=(fs env st).bind fun xs st=>(fd env st).bind fun d st=>dfD minI xs d st
variable {d : Expr} {fd : FE} {kpos : Pos}
@[simp] def ordCD (x : D) (st : AS) : Out D:=match x with
 | .str z=>if z.length = 1 then .ok (.int (z.cps.getD 0 0 : Nat)) st else .bad
 | _=>.bad
theorem ve_callZ {k N : Nat} {f : Addr} {fd : FuncData} {ps : List Str} {F : List D → AS → Out D} {dvs : List V} {ds : List D} {ss : List Src} {x : Str} (G : FnG X.prog X.w X.K X.mg X.base (L2.CX X.prog X.w) k f fd ps (spV X.K X.mgw N F)) (gd : X.A.guards = some []) (hr : Room k X.A) (hg : Gl X x) (hm : X.mg x = some (.ref f)) (hk : PySem.W.keepIn X.K (.ref f) = true)
   (hb : BindV X.K fd ps 0 [] dvs ss) (hN : ∀ us ws : List V,us.length = 0 → ws.length = 0 → (asm us ws dvs ss).length = N) (hd : ∀ H β,Reps X.K H β ds dvs) (hx : Passes (L2.CX X.prog X.w) X E) (hdb : (x == ("__debug__" : Str)) = false:=by decide) :
   VE X E (.Call (.Name x p) [] [] pos) (vCallA 0 0 ds ss F vNil vNil):=by
 constructor
 intro pins s σ H Q I h
 obtain ⟨β,env,st,hE,hS,h⟩:=use_V (E:=E) hN hd h
 obtain ⟨β2,env2,st2,hE2,hS2,h2⟩:=h.here hS .nil
 obtain ⟨l1,l2,q⟩:=h2.here hS2 .nil
 refine wpAny_Call_Name_kw (ld_glob I hg hm (PySem.W.callWith_K0 I.kIn hk ?_) hdb)
 exact run_V (us:=[]) (vs:=[]) (zs:=[]) (ws:=[]) G gd hr hb hx I .nil .nil rfl rfl q
end
end VL
namespace VL
open PySem
/-- it comes to a good end,with Q -/
def Out.sat {α : Type} (o : Out α) (Q : α → AS → Prop) : Prop:=∃ a st,o = .ok a st ∧ Q a st
@[simp] theorem Out.sat_ok {α : Type} {a : α} {st : AS} {Q : α → AS → Prop} : (Out.ok a st).sat Q ↔ Q a st:=⟨fun ⟨_,_,e,q⟩=>by cases e; exact q,fun q=>⟨a,st,rfl,q⟩⟩
@[simp] theorem Out.sat_bad {α : Type} {Q : α → AS → Prop} : (Out.bad : Out α).sat Q ↔ False:=⟨fun ⟨_,_,e,_⟩=>(nomatch e),fun h=>h.elim⟩
@[simp] theorem Out.sat_exc {α : Type} {c : Str} {fs : List (Str × D)} {st : AS} {Q : α → AS → Prop} : (Out.exc c fs st : Out α).sat Q ↔ False:=⟨fun ⟨_,_,e,_⟩=>(nomatch e),fun h=>h.elim⟩
theorem Out.sat.mono {α : Type} {o : Out α} {Q R : α → AS → Prop} (h : o.sat Q) (f : ∀ a st,Q a st → R a st) : o.sat R:=by
 obtain ⟨a,st,e,q⟩:=h
 exact ⟨a,st,e,f a st q⟩
/-- statements: they go on,return,break or continue,with Q -/
inductive Fk where
 | nx (env : En) | rt (d : D) | bk (env : En) | ct (env : En)
def Fl.sat (o : Fl) (Q : Fk → AS → Prop) : Prop:=match o with
 | .nx env st=>Q (.nx env) st
 | .rt d st=>Q (.rt d) st
 | .bk env st=>Q (.bk env) st
 | .ct env st=>Q (.ct env) st
 | .exc _ _ _=>False
 | .bad=>False
@[simp] theorem Fl.sat_nx {env : En} {st : AS} {Q : Fk → AS → Prop} : (Fl.nx env st).sat Q ↔ Q (.nx env) st:=Iff.rfl
@[simp] theorem Fl.sat_rt {d : D} {st : AS} {Q : Fk → AS → Prop} : (Fl.rt d st).sat Q ↔ Q (.rt d) st:=Iff.rfl
@[simp] theorem Fl.sat_bk {env : En} {st : AS} {Q : Fk → AS → Prop} : (Fl.bk env st).sat Q ↔ Q (.bk env) st:=Iff.rfl
@[simp] theorem Fl.sat_ct {env : En} {st : AS} {Q : Fk → AS → Prop} : (Fl.ct env st).sat Q ↔ Q (.ct env) st:=Iff.rfl
@[simp] theorem Fl.sat_bad {Q : Fk → AS → Prop} : (Fl.bad).sat Q ↔ False:=Iff.rfl
theorem Fl.sat.mono {o : Fl} {Q R : Fk → AS → Prop} (h : o.sat Q) (f : ∀ k st,Q k st → R k st) : o.sat R:=by
 cases o with
 | nx env st=>exact f _ _ h
 | rt d st=>exact f _ _ h
 | bk env st=>exact f _ _ h
 | ct env st=>exact f _ _ h
 | exc _ _ _=>exact h
 | bad=>exact h
theorem gd_nilOk {st : AS} : Gd.ok [] st:=fun _ h=>nomatch h
/-- but for cell i all that stood stands -/
structure But1 (i : Nat) (st st' : AS) : Prop where
 len : st.length ≤ st'.length
 at_ : ∀ j,j < st.length → j ≠ i → st'[j]? = st[j]?
theorem But1.refl (i : Nat) (st : AS) : But1 i st st:=⟨Nat.le_refl _,fun _ _ _=>rfl⟩
theorem But1.trans {i : Nat} {a b c : AS} (h : But1 i a b) (k : But1 i b c) : But1 i a c:=⟨Nat.le_trans h.len k.len,fun j hj hn=>(k.at_ j (Nat.lt_of_lt_of_le hj h.len) hn).trans (h.at_ j hj hn)⟩
theorem But1.set (i : Nat) (st : AS) (c : C) : But1 i st (st.set i c):=⟨by simp,fun j hj hn=>by rw [List.getElem?_set_ne (Ne.symm hn)]⟩
theorem But1.push (i : Nat) (st : AS) (c : C) : But1 i st (st ++ [c]):=⟨by simp,fun j hj hn=>by rw [List.getElem?_append_left hj]⟩
end VL
namespace VL
open PySem
theorem sIx_pos (n d : Nat) (k : Int) (hk : 0 ≤ k) : HT.sIx n d (some k) = min k.toNat n:=by
 show (if k < 0 then _ else _) = _
 rw [if_neg (by omega)]
theorem sIx_no (n d : Nat) : HT.sIx n d none = d:=rfl
theorem cut_to {α : Type} (xs : List α) (k : Int) (hk : 0 ≤ k) : VL.cut xs none (some k) = xs.take k.toNat:=by
 unfold VL.cut
 rw [sIx_pos _ _ k hk,sIx_no,List.drop_zero,Nat.sub_zero]
 by_cases h : k.toNat ≤ xs.length
 · rw [Nat.min_eq_left h]
 · rw [Nat.min_eq_right (by omega),List.take_length,List.take_of_length_le (by omega)]
theorem ixN_pos {n : Nat} {i : Int} (h : 0 ≤ i) (h2 : i < n) : L2.ixN n i = some i.toNat:=by
 unfold L2.ixN
 rw [if_pos h,if_pos h2]
theorem atI_pos {α : Type} {xs : List α} {i : Int} (h : 0 ≤ i) (h2 : i < xs.length) : L2.atI xs i = xs[i.toNat]?:=by
 unfold L2.atI
 rw [ixN_pos h h2]
 rfl
theorem atI_last {α : Type} {xs : List α} (h : xs ≠ []) : L2.atI xs (-1) = xs.getLast?:=by
 have hp:=List.length_pos_iff.mpr h
 unfold L2.atI L2.ixN
 rw [if_neg (by omega),if_pos (by omega),List.getLast?_eq_getElem?]
 show xs[(-1 + (xs.length : Int)).toNat]? = _
 congr 1
 omega
end VL
namespace VL
open PySem PySem.Spec PyProof.Rows L2 TB
/-- these slots are forgotten -/
@[simp] def killE : List Nat → En → En
 | [],env=>env
 | i :: r,env=>killE r (env.set i none)
def Fl.kill (ks : List Nat) : Fl → Fl
 | .nx env st=>.nx (killE ks env) st
 | .bk env st=>.bk (killE ks env) st
 | .ct env st=>.ct (killE ks env) st
 | .rt d st=>.rt d st
 | .exc c fs st=>.exc c fs st
 | .bad=>.bad
@[simp] theorem Fl.kill_nx (ks : List Nat) (env : En) (st : AS) : (Fl.nx env st).kill ks = .nx (killE ks env) st:=rfl
@[simp] theorem Fl.kill_bk (ks : List Nat) (env : En) (st : AS) : (Fl.bk env st).kill ks = .bk (killE ks env) st:=rfl
@[simp] theorem Fl.kill_ct (ks : List Nat) (env : En) (st : AS) : (Fl.ct env st).kill ks = .ct (killE ks env) st:=rfl
@[simp] theorem Fl.kill_rt (ks : List Nat) (d : D) (st : AS) : (Fl.rt d st).kill ks = .rt d st:=rfl
@[simp] theorem Fl.kill_exc (ks : List Nat) (c : Str) (fs : List (Str × D)) (st : AS) : (Fl.exc c fs st).kill ks = .exc c fs st:=rfl
@[simp] theorem Fl.kill_bad (ks : List Nat) : (Fl.bad).kill ks = .bad:=rfl
@[simp] def sKill (ks : List Nat) (f : En → AS → Fl) (env : En) (st : AS) : Fl:=(f env st).kill ks
section
variable {K : PySem.W.Frag} {H : Hp} {β : Bt} {env : En} {σ : L2.St}
theorem EnvR.kill (e : EnvR K H β env σ) : ∀ ks : List Nat,EnvR K H β (killE ks env) σ:=by
 intro ks
 induction ks generalizing env with
 | nil=>exact e
 | cons i r ih =>
   refine ih (e.less (by simp) fun j d h=>?_)
   by_cases hj : j = i
   · subst hj
     have hl : j < env.length:=by
       have:=(List.getElem?_eq_some_iff.mp h).1
       simpa using this
     rw [List.getElem?_set_self hl] at h
     cases h
   · rw [List.getElem?_set_ne (Ne.symm hj)] at h
     exact h
end
section
variable {X : Cx} {E : XK} {s : Stmt} {ss : List Stmt} {f : En → AS → Fl}
theorem kill_post {K : PySem.W.Frag} {mg : MG} {β : Bt} {H : Hp} {De : Ends} (ks : List Nat) {o : Fl} (h : PostS K mg E β H De (o.kill ks)) : PostS K mg E β H De o:=by
 cases o with
 | nx env st=>exact fun β' H' σ' x S e=>h β' H' σ' x S (e.kill ks)
 | bk env st=>exact fun β' H' σ' x S e=>h β' H' σ' x S (e.kill ks)
 | ct env st=>exact fun β' H' σ' x S e=>h β' H' σ' x S (e.kill ks)
 | rt d st=>exact h
 | exc c fs st=>exact h
 | bad=>exact h
theorem vss_kill (ks : List Nat) (h : VSs X E ss f) : VSs X E ss (sKill ks f) :=
 weakSs h fun De σ H ⟨β,env,st,he,hs,h⟩=>⟨β,env,st,he,hs,kill_post ks h⟩
end
end VL
namespace VL
open PySem PySem.Spec PyProof.Rows L2 TB
section
variable {X : Cx} {E : XK} {o e : Expr} {es : List Expr} {fo fe : FE} {fs : En → AS → Out (List D)} {name : Str} {apos cpos pos : Pos} {id T : String}
@[simp] def tupFD (x : D) (st : AS) : Out D:=match listOf st x with
 | some ds=>.ok (.ctp ds) st
 | none=>.bad
end
end VL
namespace VL
open PySem PySem.Spec PyProof.Rows L2 TB
section
variable {X : Cx} {E : XK} {o e e2 : Expr} {es : List Expr} {fo fe fi : FE} {fs : En → AS → Out (List D)} {name : Str} {apos cpos pos : Pos} {id T : String}
@[simp] def tixD (x : D) (xs : List D) (st : AS) : Out D:=match x,xs with
 | .ctp ds,[.str z]=>(match strsOf ds with
   | some ys=>if z ∈ ys then .ok (.int (ys.idxOf z : Nat)) st else .bad
   | none=>.bad)
 | _,_=>.bad
def isCtp : D → Bool
 | .ctp _=>true
 | _=>false
@[simp] def vMT (g : D → List D → AS → Out D) (fo : FE) (fs : En → AS → Out (List D)) (env : En) (st : AS) : Out D:=(fo env st).bind fun x st=>if isCtp x = true then (fs env st).bind fun xs st=>g x xs st else .bad
end
end VL
namespace VL
open PySem PySem.Spec PyProof.Rows L2 TB
abbrev KF : List (List Key × V) → List (List Key × Addr × Value) → Prop:=Paired fun p q=>p.1 = q.1 ∧ RelV p.2 q.2.2
theorem KF.at {us : List (List Key × V)} {xs : List (List Key × Addr × Value)} (r : KF us xs) (k : List Key) : RelO (valV us k) ((atKey xs k).map (·.2)):=by
 induction r with
 | nil=>exact True.intro
 | @cons p q ps qs h t ih =>
   by_cases e : p.1 = k
   · have b : atKey (q :: qs) k = some q.2:=by simp [atKey,List.find?_cons,h.1.symm.trans e]
     rw [valV_pos e,b]
     exact h.2
   · have e' : ¬ q.1 = k:=fun z=>e (h.1.trans z)
     have b : atKey (q :: qs) k = atKey qs k:=by simp [atKey,List.find?_cons,e']
     rw [valV_neg e,b]
     exact ih
theorem KF.swap {us : List (List Key × V)} {xs : List (List Key × Addr × Value)} (r : KF us xs) (k : List Key) {y : V} {u : Value} (ry : RelV y u) : KF (us.map fun kv=>if kv.1 = k then (kv.1,y) else kv) (xs.map (putAt k u)):=by
 induction r with
 | nil=>exact .nil
 | @cons p q ps qs h t ih =>
   simp only [List.map_cons]
   refine .cons ?_ ih
   unfold putAt
   by_cases e : p.1 = k
   · rw [if_pos e,if_pos (h.1.symm.trans e)]
     exact ⟨h.1,ry⟩
   · rw [if_neg e,if_neg (fun z=>e (h.1.trans z))]
     exact h
theorem KF.isSome {us : List (List Key × V)} {xs : List (List Key × Addr × Value)} (r : KF us xs) (k : List Key) : (us.any fun kv=>decide (kv.1 = k)) = (atKey xs k).isSome:=by
 rw [valV_any,(r.at k).isSome_eq,Option.isSome_map]
theorem KF.put {us : List (List Key × V)} {xs : List (List Key × Addr × Value)} (r : KF us xs) (k : List Key) {b : Addr} {y : V} {u : Value} (ry : RelV y u) : KF (putK us k y) (storedH xs k b u):=by
 unfold putK storedH
 rw [r.isSome k]
 by_cases q : (atKey xs k).isSome = true
 · rw [if_pos q,if_pos q]
   exact r.swap k ry
 · rw [if_neg q,if_neg q]
   exact Paired.snoc r ⟨rfl,ry⟩
section
variable {X : Cx} {pins : List (Addr × Obj)} {σ : L2.St} {H : Hp} {s : Shared} {a b : Addr} {us : List (List Key × V)} {bs : List Addr} {ks : List Key}
theorem key_sq (I : Inv X pins σ H s) (h : SqT X.K H b (ks.map kV)) : (tupleKind (mixKind X.prog X.w)).is s.heap ks b:=by
 obtain ⟨its,r,⟨o,h1,h2,n,h3⟩,_⟩:=I.tuple h
 exact ⟨o,its.toArray,n,h1,h2,h3,by simpa using items_are r⟩
/-- the dict at a: what it holds,where its keys stand -/
structure DFat (X : Cx) (H : Hp) (a : Addr) (us : List (List Key × V)) (bs : List Addr) : Prop where
 e : H a = some (dF X.w a us bs)
 keys : Paired (fun (p : List Key × V) b=>SqT X.K H b (p.1.map kV)) us bs
/-- to be read: as it is,or locked -/
structure DFr (X : Cx) (H : Hp) (a : Addr) (us : List (List Key × V)) (bs : List Addr) : Prop where
 e : H a = some (dF X.w a us bs) ∨ ∃ z,H a = some (.frz z (dF X.w a us bs))
 keys : Paired (fun (p : List Key × V) b=>SqT X.K H b (p.1.map kV)) us bs
theorem DFat.r (F : DFat X H a us bs) : DFr X H a us bs:=⟨.inl F.e,F.keys⟩
theorem DFr.get (F : DFr X H a us bs) (I : Inv X pins σ H s) : us.length ≤ sizeLine ∧ (a == sysModules) = false ∧ ∃ xs,KF us xs ∧ xs.map (·.2.1) = bs ∧ s.heap.DictOfH (tupleKind (mixKind X.prog X.w)) a xs:=by
 have ok : ObjOk X.prog X.w H s.heap a (dF X.w a us bs):=by
   rcases F.e with e | ⟨z,e⟩
   · exact I.hok a _ e
   · exact (I.hok a _ e).2
 unfold dF at ok
 obtain ⟨⟨h1,h2,xs,h3,h4,h5,o,es,ep,h6,h7,h8,h9⟩,_⟩:=ok
 refine ⟨h1,h2,xs,h3,h4,o,es,ep,h6,h7,h8,h9,fun x hx=>?_,h5⟩
 have go : ∀ {us : List (List Key × V)} {xs : List (List Key × Addr × Value)} {bs : List Addr},KF us xs → xs.map (·.2.1) = bs → Paired (fun (p : List Key × V) b=>SqT X.K H b (p.1.map kV)) us bs → ∀ x ∈ xs,(tupleKind (mixKind X.prog X.w)).is s.heap x.1 x.2.1:=by
   intro us xs bs r
   induction r generalizing bs with
   | nil=>intro _ _ x hx; cases hx
   | @cons p q ps qs h t ih =>
     intro e k x hx
     subst e
     cases k with
     | cons k1 k2 =>
       rcases List.mem_cons.mp hx with z | z
       · subst z
         rw [← h.1]
         exact key_sq I k1
       · exact ih rfl k2 x z
 exact go h3 h4 F.keys x hx
theorem DFat.get (F : DFat X H a us bs) (I : Inv X pins σ H s) : us.length ≤ sizeLine ∧ (a == sysModules) = false ∧ ∃ xs,KF us xs ∧ xs.map (·.2.1) = bs ∧ s.heap.DictOfH (tupleKind (mixKind X.prog X.w)) a xs:=F.r.get I
end
section
variable {X : Cx} {E : XK} {o e : Expr} {es : List Expr} {fo fe fi : FE} {fs : En → AS → Out (List D)} {apos cpos pos : Pos}
@[simp] def vDNewF (_ : En) (st : AS) : Out D:=.ok (.ref st.length) (st ++ [.dtf []])
/-- what a cell of this kind has at a key -/
@[simp] def cellF (st : AS) (x : D) : Option (List (List Key × D)):=match x with
 | .ref i=>(match st[i]? with
   | some (.dtf kvs)=>some kvs
   | _=>none)
 | _=>none
@[simp] def keyF (y : D) : Option (List Key):=match y with
 | .ctp ks=>keysD ks
 | _=>none
/-- a cell of this kind,locked or not -/
@[simp] def cellR (st : AS) (x : D) : Option (List (List Key × D)):=match x with
 | .ref i=>(match st[i]? with
   | some (.dtf kvs)=>some kvs
   | some (.lcf kvs)=>some kvs
   | _=>none)
 | _=>none
@[simp] def vGetF (fo : FE) (fs : En → AS → Out (List D)) (env : En) (st : AS) : Out D:=(fo env st).bind fun x st=>match cellF st x with
 | some _=>(fs env st).bind fun xs st=>(match xs with
   | [y,z]=>(match cellF st x,keyF y with
     | some kvs,some k=>.ok ((valK kvs k).getD z) st
     | _,_=>.bad)
   | _=>.bad)
 | none=>.bad
@[simp] def ixF (x y : D) (st : AS) : Out D:=match cellR st x,keyF y with
 | some kvs,some k=>toOut (valK kvs k) st
 | _,_=>.bad
@[simp] def putF' (o i v : D) (st : AS) : Out Unit:=match o with
 | .ref n=>(match cellF st o,keyF i with
   | some kvs,some k=>if kvs.length < sizeLine then .ok () (st.set n (.dtf (putKD kvs k v))) else .bad
   | _,_=>.bad)
 | _=>.bad
@[simp] def kSubF (fo fi : En → AS → Out D) (d : D) (env : En) (st : AS) : Out En:=(fo env st).bind fun o st=>(fi env st).bind fun i st=>(putF' o i d st).bind fun _ st=>.ok env st
end
end VL
namespace TB
open PySem PySem.Spec PyProof.Rows L2
end TB
namespace VL
open PySem PySem.Spec PyProof.Rows L2 TB
def clsS (s : Stmt) (j : Nat) : Stmt:=match s with
 | .ClassDef _ _ _ b _ _ _ _ _ _ _=>b.getD j (.Pass ⟨0,0,0,0⟩)
 | _=>s
theorem _root_.TB.FnG.up {P : Program} {w : World} {K : PySem.W.Frag} {mg : Str → Option Value} {base : Heap} {CX : CXT} {k k' : Nat} {f : Addr} {fd : FuncData} {ps : List Str} {sp : Sp} (F : FnG P w K mg base CX k f fd ps sp) (h : k ≤ k') : FnG P w K mg base CX k' f fd ps sp :=
 ⟨F.len,fun A hg hr=>F.run A hg (hr.mono h)⟩
section
variable {K : PySem.W.Frag} {mg : MG} {β β' : Bt} {H H' : Hp} {st : AS}
abbrev tri (ds es fs : List D) : List D:=(ds.zip (es.zip fs)).map fun p=>.tup [p.1,p.2.1,p.2.2]
end
section
variable {X : Cx} {E : XK} {e e2 e3 : Expr} {fs : En → AS → Out (List D)} {pos p : Pos}
@[simp] def zip3D (xs : List D) (st : AS) : Out (List D × Gd):=match xs with
 | [d,e,f]=>if isTupD d = true ∧ isTupD e = true then (match seqOf st d,seqOf st e,seqOf st f with
   | some ds,some es,some fs=>.ok (tri ds es fs,gdOf d ds ++ (gdOf e es ++ gdOf f fs)) st
   | _,_,_=>.bad) else .bad
 | _=>.bad
end
end VL
namespace G
open PySem VL
end G
namespace G
open PySem VL
noncomputable def B__law_feed_6a37 : En → AS → Fl :=
   (sRet (vA (gLst true) (vCons (vSl (slD false) (vVar 0) vNoPart (v1 asI (vC (.int 63)))) (vCons (vC (.int 0)) (vCons (vC (.int 0)) (vCons (vC (.int 0)) vNil))))))
noncomputable def F__law_feed_6a37 : List D → AS → Out D:=vFn 1 0 B__law_feed_6a37
noncomputable def B__law_draw_ed7e : En → AS → Fl :=
   (sSeq (sAugS (vVar 0) (vC (.int 3)) (iiD fun a b=>.int (a + b)) (vC (.int 1)))
   (sSeq (sIf (vB (v2 gtD (v2 ixD (vVar 0) (vC (.int 2))) (vC (.int 0)))) (sSeq (sSet 2 (v2 modD (v2 ixD (vVar 0) (vC (.int 2))) (vVar 1)))
   (sSeq (sAsg (v2 fdivD (v2 ixD (vVar 0) (vC (.int 2))) (vVar 1)) (kSub (vVar 0) (vC (.int 2))))
   (sRet (vVar 2)))) sNext)
   (sSeq (sSet 3 (vIfE (vB (v2 (eqD false) (v2 ixD (vVar 0) (vC (.int 0))) (vA (gLst false) vNil))) (vC (.int 7)) (v2 ixD (v2 ixD (vVar 0) (vC (.int 0))) (v2 modD (v2 ixD (vVar 0) (vC (.int 1))) (vA (g1 lenD) (vCons (v2 ixD (vVar 0) (vC (.int 0))) vNil))))))
   (sSeq (sAugS (vVar 0) (vC (.int 1)) (iiD fun a b=>.int (a + b)) (vC (.int 1)))
   (sSeq (sIf (vAnd (vB (v2 geD (vVar 3) (v2 powD (vC (.int 10)) (vC (.int 18))))) (vB (v2 leD (v2 ixD (vVar 0) (vC (.int 1))) (vA (g1 lenD) (vCons (v2 ixD (vVar 0) (vC (.int 0))) vNil))))) (sSeq (sAsg (v2 fdivD (vVar 3) (vVar 1)) (kSub (vVar 0) (vC (.int 2))))
   (sRet (v2 modD (vVar 3) (vVar 1)))) sNext)
   (sSeq (sSet 4 (v2 ixD (vVar 0) (vC (.int 3))))
   (sSeq (sSet 5 (v2 modD (v2 (addD false) (v2 (addD false) (v2 modD (vVar 3) (vC (.int 2147483629))) (v2 (mulD false) (v2 (mulD false) (vC (.int 69621)) (vVar 4)) (vVar 4))) (v2 (mulD false) (vC (.int 7)) (vVar 4))) (vC (.int 2147483629))))
   (sSeq (sSet 5 (v2 modD (v2 (addD false) (v2 (mulD false) (vVar 5) (vVar 5)) (v2 (mulD false) (vC (.int 48271)) (vVar 4))) (vC (.int 2147483647))))
   (sSeq (sSet 5 (v2 modD (v2 (addD false) (v2 (mulD false) (vVar 5) (vVar 5)) (v2 (mulD false) (vC (.int 16807)) (vVar 4))) (vC (.int 2147483587))))
   (sRet (v2 modD (v2 fdivD (v2 modD (v2 (addD false) (v2 (mulD false) (vVar 5) (vVar 5)) (vVar 4)) (vC (.int 2147483629))) (vC (.int 131))) (vVar 1))))))))))))
noncomputable def F__law_draw_ed7e : List D → AS → Out D:=vFn 6 0 B__law_draw_ed7e
noncomputable def B__law_after : En → AS → Fl :=
   (sSeq (sSet 1 (vC (.str "abcdefghijklmnopqrstuvwxyz")))
   (sSeq (sIf (vB (v2 ltD (vA (g1 lenD) (vCons (vVar 0) vNil)) (vC (.int 8)))) (sRet (v2 (addD false) (vVar 0) (vC (.str "a")))) sNext)
   (sSeq (sSet 2 (vC (.int 7)))
   (sSeq (sWhile (vAnd (vB (v2 gtD (vVar 2) (vC (.int 0)))) (vB (v2 (eqD false) (v2 ixD (vVar 0) (vVar 2)) (vC (.str "z"))))) (sAug 2 (iiD fun a b=>.int (a - b)) (vC (.int 1))))
   (sSeq (sSet 3 (v2 ixD (vVar 1) (v2 modD (v2 (addD false) (vMS sidxD (vVar 1) (vCons (v2 ixD (vVar 0) (vVar 2)) vNil)) (vC (.int 1))) (vC (.int 26)))))
   (sRet (v2 (addD false) (v2 (addD false) (vSl (slD false) (vVar 0) vNoPart (v1 asI (vVar 2))) (vVar 3)) (v2 (mulD false) (vC (.str "a")) (v2 subD (vC (.int 7)) (vVar 2))))))))))
noncomputable def F__law_after : List D → AS → Out D:=vFn 4 0 B__law_after
noncomputable def B__law_word_8a86 : En → AS → Fl :=
   (sSeq (sSet 2 (vC (.str "abcdefghijklmnopqrstuvwxyz")))
   (sSeq (sSet 3 (vCallA 2 0 [] [.pos 0,.pos 1] F__law_draw_ed7e (vCons (vVar 0) (vCons (vC (.int 5)) vNil)) vNil))
   (sSeq (sSet 4 (v2 ixD (vVar 2) (vCallA 2 0 [] [.pos 0,.pos 1] F__law_draw_ed7e (vCons (vVar 0) (vCons (vC (.int 26)) vNil)) vNil)))
   (sSeq (sIf (vOr (vB (v2 gtD (vVar 3) (vC (.int 1)))) (vB (v2 (eqD false) (vVar 1) (vA (gLst false) vNil)))) (sFor (vA rng1 (vCons (vCallA 2 0 [] [.pos 0,.pos 1] F__law_draw_ed7e (vCons (vVar 0) (vCons (vC (.int 8)) vNil)) vNil) vNil)) (kName 5) (sKill [5] (sSet 4 (v2 (addD false) (vVar 4) (v2 ixD (vVar 2) (vCallA 2 0 [] [.pos 0,.pos 1] F__law_draw_ed7e (vCons (vVar 0) (vCons (vC (.int 26)) vNil)) vNil)))))) (sSeq (sSet 6 (v2 ixD (vVar 1) (vCallA 2 0 [] [.pos 0,.pos 1] F__law_draw_ed7e (vCons (vVar 0) (vCons (vA (g1 lenD) (vCons (vVar 1) vNil)) vNil)) vNil)))
   (sSet 4 (vIfE (vB (v2 (eqD false) (vVar 3) (vC (.int 0)))) (vSl (slD false) (vVar 6) vNoPart (v1 asI (v2 (addD false) (vC (.int 1)) (vCallA 2 0 [] [.pos 0,.pos 1] F__law_draw_ed7e (vCons (vVar 0) (vCons (vA (g1 lenD) (vCons (vVar 6) vNil)) vNil)) vNil)))) (v2 (addD false) (vSl (slD false) (vVar 6) vNoPart (v1 asI (vC (.int 7)))) (v2 ixD (vVar 2) (vCallA 2 0 [] [.pos 0,.pos 1] F__law_draw_ed7e (vCons (vVar 0) (vCons (vC (.int 26)) vNil)) vNil)))))))
   (sSeq (sFor (vA rng1 (vCons (vC (.int 60)) vNil)) (kName 5) (sKill [5] (sSeq (sIf (vB (v2 (inD true) (vVar 4) (vVar 1))) sBreak sNext)
   (sSet 4 (vCallA 1 0 [] [.pos 0] F__law_after (vCons (vVar 4) vNil) vNil)))))
   (sRet (vVar 4)))))))
noncomputable def F__law_word_8a86 : List D → AS → Out D:=vFn 7 0 B__law_word_8a86
end G
namespace G
open PySem VL
section
variable {κ α β : Type} [DecidableEq κ]
def has (l : List (κ × α)) (k : κ) : Bool:=l.any fun p=>decide (p.1 = k)
def look (l : List (κ × α)) (k : κ) : Option α:=(l.find? fun p=>decide (p.1 = k)).map (·.2)
def put (l : List (κ × α)) (k : κ) (v : α) : List (κ × α):=if has l k = true then l.map fun p=>if p.1 = k then (p.1,v) else p else l ++ [(k,v)]
theorem look_cons (p : κ × α) (l : List (κ × α)) (k : κ) : look (p :: l) k = if p.1 = k then some p.2 else look l k:=by
 unfold look
 by_cases h : p.1 = k <;> simp [List.find?_cons,h]
@[simp] theorem look_nil (k : κ) : look ([] : List (κ × α)) k = none:=rfl
@[simp] theorem has_nil (k : κ) : has ([] : List (κ × α)) k = false:=rfl
theorem has_cons (p : κ × α) (l : List (κ × α)) (k : κ) : has (p :: l) k = (decide (p.1 = k) || has l k):=rfl
theorem has_look (l : List (κ × α)) (k : κ) : has l k = (look l k).isSome:=by
 induction l with
 | nil=>rfl
 | cons p l ih =>
   rw [has_cons,look_cons,ih]
   by_cases h : p.1 = k <;> simp [h]
theorem look_rep (l : List (κ × α)) (k : κ) (v : α) (j : κ) : look (l.map fun p=>if p.1 = k then (p.1,v) else p) j = if j = k then (look l k).map fun _=>v else look l j:=by
 induction l with
 | nil=>by_cases h : j = k <;> simp [h]
 | cons p l ih =>
   rw [List.map_cons,look_cons,ih,look_cons,look_cons]
   by_cases hp : p.1 = k
   · by_cases hj : j = k
     · simp [hp,hj]
     · have : ¬ k = j:=Ne.symm hj
       simp [hp,hj,this]
   · by_cases hj : j = k
     · simp [hp,hj]
     · simp [hp,hj]
theorem look_app (l : List (κ × α)) (k : κ) (v : α) (j : κ) : look (l ++ [(k,v)]) j = (look l j).or (if k = j then some v else none):=by
 induction l with
 | nil=>simp [look_cons]
 | cons p l ih =>
   rw [List.cons_append,look_cons,ih,look_cons]
   by_cases hp : p.1 = j <;> simp [hp]
theorem look_put (l : List (κ × α)) (k : κ) (v : α) (j : κ) : look (put l k v) j = if j = k then some v else look l j:=by
 unfold put
 rw [has_look]
 cases h : look l k with
 | none =>
   rw [if_neg (by simp),look_app]
   by_cases hj : j = k
   · subst hj
     simp [h]
   · have : ¬ k = j:=Ne.symm hj
     simp [hj,this]
 | some u =>
   rw [if_pos (by simp),look_rep,h]
   rfl
theorem look_mem {l : List (κ × α)} {k : κ} {v : α} (h : look l k = some v) : (k,v) ∈ l:=by
 induction l with
 | nil=>cases h
 | cons p l ih =>
   rw [look_cons] at h
   by_cases hp : p.1 = k
   · rw [if_pos hp] at h
     cases h
     subst hp
     exact List.mem_cons_self
   · rw [if_neg hp] at h
     exact List.mem_cons_of_mem _ (ih h)
theorem put_keys (l : List (κ × α)) (k : κ) (v : α) : (put l k v).map (·.1) = if has l k = true then l.map (·.1) else l.map (·.1) ++ [k]:=by
 unfold put
 split
 · rw [List.map_map]
   apply List.map_congr_left
   intro p _
   show (if p.1 = k then (p.1,v) else p).1 = p.1
   split <;> rfl
 · rw [List.map_append]
   rfl
theorem mem_keys {l : List (κ × α)} {k : κ} : has l k = true ↔ k ∈ l.map (·.1):=by
 unfold has
 rw [List.any_eq_true,List.mem_map]
 exact ⟨fun ⟨p,h1,h2⟩=>⟨p,h1,of_decide_eq_true h2⟩,fun ⟨p,h1,h2⟩=>⟨p,h1,decide_eq_true h2⟩⟩
theorem put_nodup {l : List (κ × α)} (h : (l.map (·.1)).Nodup) (k : κ) (v : α) : ((put l k v).map (·.1)).Nodup:=by
 rw [put_keys]
 split
 · exact h
 · rename_i hk
   rw [List.nodup_append]
   refine ⟨h,by simp,fun a ha b hb=>?_⟩
   rw [List.mem_singleton.mp hb]
   rintro rfl
   exact hk (mem_keys.mpr ha)
end
section
variable {κ κ' α : Type} [DecidableEq κ] [DecidableEq κ'] (f : κ → κ') (g : α → D) (hf : ∀ a b,f a = f b → a = b)
def enK (l : List (κ × α)) : List (κ' × D):=l.map fun p=>(f p.1,g p.2)
@[simp] theorem enK_nil : enK f g ([] : List (κ × α)) = []:=rfl
include hf
end
theorem comp_en {α : Type} {g : D → En → AS → Out En} {t : En → AS → Out Bool} {f : En → AS → Out D} {env : En} {gs : Gd} {st : AS} (e : α → D) (p : α → Bool) (h : α → D) (hg : gs.ok st) : ∀ (xs : List α),
   (∀ x ∈ xs,∃ env1,g (e x) env st = .ok env1 st ∧ t env1 st = .ok (p x) st ∧ (p x = true → f env1 st = .ok (h x) st)) → compL g t f env gs (xs.map e) st = .ok ((xs.filter p).map h) st
 | [],_=>by rw [List.map_nil,compL,if_pos hg]; rfl
 | x :: xs,hx=>by
   obtain ⟨env1,e1,e2,e3⟩:=hx x List.mem_cons_self
   have ih:=comp_en e p h hg xs fun y hy=>hx y (List.mem_cons_of_mem _ hy)
   rw [List.map_cons,compL,if_pos hg,e1]
   simp only [Out.ne_ok,Out.bind_ok,e2]
   cases z : p x with
   | false=>simp [ih,z]
   | true=>simp [ih,z,e3 z]
/-- without a condition -/
theorem comp_all {α : Type} {g : D → En → AS → Out En} {t : En → AS → Out Bool} {f : En → AS → Out D} {env : En} {gs : Gd} {st : AS} (e : α → D) (h : α → D) (hg : gs.ok st) (xs : List α)
   (hx : ∀ x ∈ xs,∃ env1,g (e x) env st = .ok env1 st ∧ t env1 st = .ok true st ∧ f env1 st = .ok (h x) st) : compL g t f env gs (xs.map e) st = .ok (xs.map h) st:=by
 have:=comp_en (g:=g) (t:=t) (f:=f) (env:=env) e (fun _=>true) h hg xs fun x m=>by
   obtain ⟨env1,e1,e2,e3⟩:=hx x m
   exact ⟨env1,e1,e2,fun _=>e3⟩
 rw [this,List.filter_eq_self.mpr (fun _ _=>rfl)]
/-- the first that is so ends it with a return; else nothing is changed -/
theorem for_find {α : Type} {g : D → En → AS → Out En} {body : En → AS → Fl} {gs : Gd} {env : En} {st : AS} (e : α → D) (p : α → Bool) (r : α → D) (hg : gs.ok st) : ∀ (xs : List α),
   (∀ x ∈ xs,∃ env1,g (e x) env st = .ok env1 st ∧ body env1 st = if p x = true then .rt (r x) st else .nx env st) →
   forL g body gs (xs.map e) env st = (match xs.find? p with | some x=>.rt (r x) st | none=>.nx env st)
 | [],_=>by rw [List.map_nil,forL,if_pos hg]; rfl
 | x :: xs,hx=>by
   obtain ⟨env1,e1,e2⟩:=hx x List.mem_cons_self
   have ih:=for_find e p r hg xs fun y hy=>hx y (List.mem_cons_of_mem _ hy)
   rw [List.map_cons,forL,if_pos hg,e1,Out.fl_ok,e2,List.find?_cons]
   cases h : p x with
   | true=>rfl
   | false=>exact ih
theorem ok_nil {st : AS} : Gd.ok [] st:=fun _ h=>nomatch h
theorem ok_one {st : AS} {i : Nat} {c : C} (h : st[i]? = some c) : Gd.ok [(i,c)] st:=fun p hp=>by cases List.mem_singleton.mp hp; exact h
end G
namespace G
open PySem VL
theorem eqv_ii (a b : Int) : eqvD (.int a) (.int b) = decide (a = b):=by
 simp [eqvD,D.py,PyData.eqv]
 by_cases h : a = b <;> simp [h]
theorem eqv_ss (a b : Str) : eqvD (.str a) (.str b) = decide (a = b):=by
 simp [eqvD,D.py,PyData.eqv]
 by_cases h : a = b <;> simp [h]
@[simp] theorem eq_ii (n : Bool) (a b : Int) (st : AS) : eqD n (.int a) (.int b) st = .ok (.bl (xor n (decide (a = b)))) st:=by simp [eqD,scalD,eqv_ii]
@[simp] theorem eq_ss (n : Bool) (a b : Str) (st : AS) : eqD n (.str a) (.str b) st = .ok (.bl (xor n (decide (a = b)))) st:=by simp [eqD,scalD,eqv_ss]
theorem eqv_ns (b : Str) : eqvD .non (.str b) = false:=by simp [eqvD,D.py,PyData.eqv]
theorem eqv_sn (b : Str) : eqvD (.str b) .non = false:=by simp [eqvD,D.py,PyData.eqv]
@[simp] theorem eq_ns (n : Bool) (b : Str) (st : AS) : eqD n .non (.str b) st = .ok (.bl n) st:=by simp [eqD,scalD,eqv_ns]
@[simp] theorem eq_sn (n : Bool) (b : Str) (st : AS) : eqD n (.str b) .non st = .ok (.bl n) st:=by simp [eqD,scalD,eqv_sn]
theorem all_str : ∀ xs : List Str,(xs.map D.str).all scalD = true
 | []=>rfl
 | x :: xs=>by rw [List.map_cons,List.all_cons,all_str xs]; rfl
theorem any_str (x : Str) : ∀ xs : List Str,((xs.map D.str).any fun d=>eqvD d (.str x)) = decide (x ∈ xs)
 | []=>by simp
 | y :: ys=>by
   rw [List.map_cons,List.any_cons,any_str x ys,eqv_ss]
   by_cases h : y = x
   · simp [h]
   · have h' : ¬ x = y:=Ne.symm h
     simp [h,h']
/-- x in xs,texts -/
@[simp] theorem in_tup (n : Bool) (x : Str) (xs : List Str) (st : AS) : inD n (.str x) (.tup (xs.map D.str)) st = .ok (.bl (xor n (decide (x ∈ xs)))) st:=by
 have h1:=all_str xs
 have h2:=any_str x xs
 simp only [inD,seqOf,scalD,h1,h2,Bool.and_self,if_true]
@[simp] theorem in_ctp (n : Bool) (x : Str) (xs : List Str) (st : AS) : inD n (.str x) (.ctp (xs.map D.str)) st = .ok (.bl (xor n (decide (x ∈ xs)))) st:=by
 have h1:=all_str xs
 have h2:=any_str x xs
 simp only [inD,seqOf,scalD,h1,h2,Bool.and_self,if_true]
@[simp] theorem in_lst (n : Bool) (x : Str) (xs : List Str) (st : AS) : inD n (.str x) (.lst (xs.map D.str)) st = .ok (.bl (xor n (decide (x ∈ xs)))) st:=by
 have h1:=all_str xs
 have h2:=any_str x xs
 simp only [inD,seqOf,VL.listOf,scalD,h1,h2,Bool.and_self,if_true]
@[simp] theorem ints_of : ∀ ns : List Int,intsOf (ns.map D.int) = some ns
 | []=>rfl
 | n :: ns=>by rw [List.map_cons,intsOf,ints_of ns]; rfl
@[simp] theorem strs_of : ∀ ns : List Str,strsOf (ns.map D.str) = some ns:=strsOf_map
@[simp] theorem sum_lst (ns : List Int) (st : AS) : sumD (.lst (ns.map D.int)) st = .ok (.int ns.sum) st:=by simp [sumD,onInts,ints_of]
@[simp] theorem bls_of : ∀ ns : List Bool,blsOf (ns.map D.bl) = some ns
 | []=>rfl
 | n :: ns=>by rw [List.map_cons,blsOf,bls_of ns]; rfl
@[simp] theorem all_lst (ns : List Bool) (st : AS) : onBls (fun bs=>bs.all id) (.lst (ns.map D.bl)) st = .ok (.bl (ns.all id)) st:=by simp [onBls,bls_of]
@[simp] theorem any_lst (ns : List Bool) (st : AS) : onBls (fun bs=>bs.any id) (.lst (ns.map D.bl)) st = .ok (.bl (ns.any id)) st:=by simp [onBls,bls_of]
theorem log_lt {m : Int} (h0 : 0 < m) (h : m < 4611686018427387904) : m.natAbs.log2 < 9000:=by
 have h1 : m.natAbs ≠ 0:=by omega
 have h2 : m.natAbs < 2 ^ 62:=by
   have : (2 : Nat) ^ 62 = 4611686018427387904:=by decide
   omega
 have h3 : m.natAbs.log2 < 62:=(Nat.log2_lt h1).mpr h2
 omega
theorem line_ge {n : Nat} (h : n ≤ 16000000) : n ≤ sizeLine:=by rw [sizeLine_eq]; omega
@[simp] theorem atI_0 {α : Type} (a : α) (l : List α) : L2.atI (a :: l) 0 = some a:=by rw [atI_pos (by decide) (by simp only [List.length_cons]; omega)]; rfl
@[simp] theorem atI_1 {α : Type} (a b : α) (l : List α) : L2.atI (a :: b :: l) 1 = some b:=by rw [atI_pos (by decide) (by simp only [List.length_cons]; omega)]; rfl
@[simp] theorem atI_2 {α : Type} (a b c : α) (l : List α) : L2.atI (a :: b :: c :: l) 2 = some c:=by rw [atI_pos (by decide) (by simp only [List.length_cons]; omega)]; rfl
@[simp] theorem atI_3 {α : Type} (a b c d : α) (l : List α) : L2.atI (a :: b :: c :: d :: l) 3 = some d:=by rw [atI_pos (by decide) (by simp only [List.length_cons]; omega)]; rfl
@[simp] theorem atI_4 {α : Type} (a b c d e : α) (l : List α) : L2.atI (a :: b :: c :: d :: e :: l) 4 = some e:=by rw [atI_pos (by decide) (by simp only [List.length_cons]; omega)]; rfl
@[simp] theorem gdOf_tup (ds es : List D) : gdOf (.tup ds) es = []:=rfl
@[simp] theorem gdOf_ctp (ds es : List D) : gdOf (.ctp ds) es = []:=rfl
@[simp] theorem gdOf_lst (ds es : List D) : gdOf (.lst ds) es = []:=rfl
@[simp] theorem gdOf_fzl (ds es : List D) : gdOf (.fzl ds) es = []:=rfl
@[simp] theorem gdOf_ref (i : Nat) (es : List D) : gdOf (.ref i) es = [(i,.lst es)]:=rfl
theorem rng1_ok {j : Int} {st : AS} (h0 : -1000000000 ≤ j) (h : j ≤ 1000000000) : rng1 [.int j] st = .ok ((List.range j.toNat).map fun (k : Nat)=>D.int (k : Int),[]) st:=by
 unfold rng1
 dsimp only
 rw [if_pos ⟨by omega,by omega⟩]
 simp [rngL]
theorem map_int {α : Type} (f : α → Int) (l : List α) : l.map (fun x=>D.int (f x)) = (l.map f).map D.int:=by rw [List.map_map]; rfl
end G
namespace Kd
open PySem VL G
abbrev feedC (ns : List Int) (a b c : Int) : C:=.lst [.lst (ns.map D.int),.int a,.int b,.int c]
theorem sIx_none (n k : Nat) : HT.sIx n k none = k:=rfl
theorem scal_lst (ds : List D) : scalD (.lst ds) = false:=rfl
theorem pures_ints : ∀ ns : List Int,D.pures (ns.map D.int) = true
 | []=>by simp [D.pures]
 | n :: ns=>by simp [D.pures,D.pure,pures_ints ns]
theorem pys_ints : ∀ ns : List Int,PyData.canLayAll0 (D.pys (ns.map D.int)) = true ∧ PyData.depthAll (D.pys (ns.map D.int)) = 0
 | []=>by simp [D.pys,PyData.canLayAll0,PyData.depthAll]
 | n :: ns=>by simp [D.pys,D.py,PyData.canLayAll0,PyData.canLay0,PyData.depthAll,PyData.depth,pys_ints ns]
theorem fit_ints (ns : List Int) : (D.lst (ns.map D.int)).fit = true:=by
 unfold D.fit
 rw [Bool.and_eq_true]
 refine ⟨by rw [D.pure]; exact pures_ints ns,?_⟩
 rw [D.py]
 unfold SeqAt.shaped
 simp [PyData.canLay0,PyData.depth,pys_ints ns]
theorem eqv_nil (ns : List Int) : eqvD (.lst (ns.map D.int)) (.lst []) = decide (ns = []):=by
 unfold eqvD
 rw [D.py,D.py]
 cases ns with
 | nil=>simp [D.pys,PyData.eqv,PyData.eqvAll]
 | cons n r=>simp [D.pys,PyData.eqv,PyData.eqvAll]
theorem fit_nil : (D.lst []).fit = true:=fit_ints []
def mix (z t : Int) : Int :=
 (((((z % 2147483629 + 69621 * t * t + 7 * t) % 2147483629 * ((z % 2147483629 + 69621 * t * t + 7 * t) % 2147483629) + 48271 * t) % 2147483647 * (((z % 2147483629 + 69621 * t * t + 7 * t) % 2147483629 * ((z % 2147483629 + 69621 * t * t + 7 * t) % 2147483629) + 48271 * t) % 2147483647) + 16807 * t) % 2147483587 * ((((z % 2147483629 + 69621 * t * t + 7 * t) % 2147483629 * ((z % 2147483629 + 69621 * t * t + 7 * t) % 2147483629) + 48271 * t) % 2147483647 * (((z % 2147483629 + 69621 * t * t + 7 * t) % 2147483629 * ((z % 2147483629 + 69621 * t * t + 7 * t) % 2147483629) + 48271 * t) % 2147483647) + 16807 * t) % 2147483587) + t) % 2147483629) / 131
theorem draw_eq {i : Nat} {ns : List Int} {a b c m : Int} {st : AS} (h : st[i]? = some (feedC ns a b c)) (hm : 0 < m) (hm2 : m < 2 ^ 62) (ha : 0 ≤ a) (hc : 0 ≤ c) (hcT : c < 2 ^ 60) :
   ∃ r a' b',F__law_draw_ed7e [.ref i,.int m] st = .ok (.int r) (st.set i (feedC ns a' b' (c + 1))) ∧ 0 ≤ r ∧ r < m ∧ 0 ≤ a':=by
 have hl : i < st.length:=(List.getElem?_eq_some_iff.mp h).1
 have g : ∀ x : C,(st.set i x)[i]? = some x:=fun x=>List.getElem?_set_self hl
 have lg : m.natAbs.log2 < 9000:=Nat.lt_of_le_of_lt (Nat.log2_lt (show m.natAbs ≠ 0 by omega) |>.mpr (show m.natAbs < 2 ^ 62 by omega) |> Nat.le_of_lt) (by decide)
 by_cases hb : b > 0
 · refine ⟨b % m,a,b / m,?_,Int.emod_nonneg _ (by omega),Int.emod_lt_of_pos _ hm,ha⟩
   have hd : L2.CDivW b m:=⟨hm,lg⟩
   simp [F__law_draw_ed7e,B__law_draw_ed7e,h,g,hb,hm,hd,L2.ixN,L2.atI]
 · have hb' : ¬ 0 < b:=hb
   have t1 : (-18446744073709551616 : Int) < c + 1 ∧ c + 1 < 18446744073709551616:=by omega
   have mo : ∀ x y : Int,0 ≤ x → x < 2 ^ 62 → VL.MulOk x y:=fun x y h1 h2=>.inl (.inl ⟨by omega,by omega⟩)
   have mo2 : ∀ x : Int,VL.MulOk x (c + 1):=fun x=>.inl (.inr ⟨by omega,by omega⟩)
   have md : ∀ x : Int,0 ≤ x % 2147483629 ∧ x % 2147483629 < 2 ^ 62:=fun x=>⟨Int.emod_nonneg _ (by decide),by have:=Int.emod_lt_of_pos x (show (0 : Int) < 2147483629 by decide); omega⟩
   have md2 : ∀ x : Int,0 ≤ x % 2147483647 ∧ x % 2147483647 < 2 ^ 62:=fun x=>⟨Int.emod_nonneg _ (by decide),by have:=Int.emod_lt_of_pos x (show (0 : Int) < 2147483647 by decide); omega⟩
   have md3 : ∀ x : Int,0 ≤ x % 2147483587 ∧ x % 2147483587 < 2 ^ 62:=fun x=>⟨Int.emod_nonneg _ (by decide),by have:=Int.emod_lt_of_pos x (show (0 : Int) < 2147483587 by decide); omega⟩
   have pw : L2.CPow 10 18:=⟨by decide,by decide,by decide⟩
   have dv : ∀ x : Int,L2.CDivW x 131:=fun x=>⟨by decide,by decide⟩
   have dm : ∀ x : Int,L2.CDivW x m:=fun x=>⟨hm,lg⟩
   have a1 : ∀ x : Int,VL.MulOk (x % 2147483629) (x % 2147483629):=fun x=>mo _ _ (md x).1 (md x).2
   have a2 : ∀ x : Int,VL.MulOk (x % 2147483647) (x % 2147483647):=fun x=>mo _ _ (md2 x).1 (md2 x).2
   have a3 : ∀ x : Int,VL.MulOk (x % 2147483587) (x % 2147483587):=fun x=>mo _ _ (md3 x).1 (md3 x).2
   by_cases e : ns = []
   · subst e
     have:=fit_nil
     refine ⟨mix 7 (c + 1) % m,a + 1,b,?_,Int.emod_nonneg _ (by omega),Int.emod_lt_of_pos _ hm,by omega⟩
     simp [F__law_draw_ed7e,B__law_draw_ed7e,h,g,hb',hm,L2.ixN,L2.atI,eqD,scal_lst,this,eqvD,D.py,D.pys,PyData.eqv,PyData.eqvAll,pw,mo2,a1,a2,a3,dv,mix,feedC]
   · have hp : 0 < ns.length:=List.length_pos_iff.mpr e
     have h1:=Int.emod_nonneg a (show (ns.length : Int) ≠ 0 by omega)
     have h2:=Int.emod_lt_of_pos a (show (0 : Int) < ns.length by omega)
     have hp' : (0 : Int) < ns.length:=by omega
     have hlt : (a % ns.length).toNat < ns.length:=by omega
     by_cases q1 : (1000000000000000000 : Int) ≤ ns[(a % ns.length).toNat]
     · by_cases q2 : a + 1 ≤ ns.length
       · refine ⟨ns[(a % ns.length).toNat] % m,a + 1,ns[(a % ns.length).toNat] / m,?_,Int.emod_nonneg _ (by omega),Int.emod_lt_of_pos _ hm,by omega⟩
         simp [F__law_draw_ed7e,B__law_draw_ed7e,h,g,hb',hm,L2.ixN,L2.atI,eqD,scal_lst,fit_ints ns,fit_nil,eqv_nil ns,e,hp,hp',h1,h2,pw,mo2,a1,a2,a3,dv,dm,q1,q2,feedC]
       · refine ⟨mix ns[(a % ns.length).toNat] (c + 1) % m,a + 1,b,?_,Int.emod_nonneg _ (by omega),Int.emod_lt_of_pos _ hm,by omega⟩
         simp [F__law_draw_ed7e,B__law_draw_ed7e,h,g,hb',hm,L2.ixN,L2.atI,eqD,scal_lst,fit_ints ns,fit_nil,eqv_nil ns,e,hp,hp',h1,h2,pw,mo2,a1,a2,a3,dv,dm,q1,q2,mix,feedC]
     · refine ⟨mix ns[(a % ns.length).toNat] (c + 1) % m,a + 1,b,?_,Int.emod_nonneg _ (by omega),Int.emod_lt_of_pos _ hm,by omega⟩
       simp [F__law_draw_ed7e,B__law_draw_ed7e,h,g,hb',hm,L2.ixN,L2.atI,eqD,scal_lst,fit_ints ns,fit_nil,eqv_nil ns,e,hp,hp',h1,h2,pw,mo2,a1,a2,a3,dv,dm,q1,mix,feedC]
end Kd
namespace Kd
open PySem VL G
def letter (c : Nat) : Bool:=decide (97 ≤ c) && decide (c ≤ 122)
def wordS (x : Str) : Bool:=decide (1 ≤ x.length) && (decide (x.length ≤ 8) && x.cps.toList.all letter)
def wordD : D → Bool
 | .str x=>wordS x
 | _=>false
theorem bls_map {α : Type} (f : α → Bool) : ∀ l : List α,blsOf (l.map fun c=>D.bl (f c)) = some (l.map f)
 | []=>rfl
 | x :: l=>by rw [List.map_cons,blsOf,bls_map f l]; rfl
end Kd
namespace TB
open PySem PySem.Spec PyProof.Rows L2
def asc (z : Str) : Prop:=∀ c ∈ z.cps.toList,c < 128
mutual
def sz : PyData → Nat
 | .tuple xs=>1 + szs xs
 | .list xs=>1 + szs xs
 | _=>1
def szs : List PyData → Nat
 | []=>0
 | x :: xs=>sz x + szs xs
end
mutual
def Ats (j : Nat) : PyData → Prop
 | .none=>True
 | .bool _=>True
 | .int i=>i.natAbs < 2 ^ (700 + j)
 | .str z=>asc z ∧ z.length ≤ 20 + j
 | .tuple xs=>AtsL j xs
 | .list xs=>AtsL j xs
 | .dict _=>False
def AtsL (j : Nat) : List PyData → Prop
 | []=>True
 | x :: xs=>Ats j x ∧ AtsL j xs
end
theorem atsL_iff {j : Nat} : ∀ {ds : List PyData},AtsL j ds ↔ ∀ d ∈ ds,Ats j d
 | []=>⟨fun _ d h=>(by cases h),fun _=>by simp [AtsL]⟩
 | d :: ds=>by
   simp only [AtsL,List.mem_cons,forall_eq_or_imp]
   rw [atsL_iff (ds:=ds)]
theorem Ats.tup {j : Nat} {ds : List PyData} : Ats j (.tuple ds) ↔ ∀ d ∈ ds,Ats j d:=by
 simp only [Ats]
 exact atsL_iff
theorem Ats.lst {j : Nat} {ds : List PyData} : Ats j (.list ds) ↔ ∀ d ∈ ds,Ats j d:=by
 simp only [Ats]
 exact atsL_iff
mutual
theorem Ats.mono {i j : Nat} (h : i ≤ j) : ∀ (d : PyData),Ats i d → Ats j d
 | .none,_=>by simp [Ats]
 | .bool _,_=>by simp [Ats]
 | .int n,a=>by
   simp only [Ats] at a ⊢
   exact Nat.lt_of_lt_of_le a (Nat.pow_le_pow_right (by decide) (by omega))
 | .str z,a=>by
   simp only [Ats] at a ⊢
   exact ⟨a.1,by omega⟩
 | .tuple xs,a=>by
   simp only [Ats] at a ⊢
   exact AtsL.mono h xs a
 | .list xs,a=>by
   simp only [Ats] at a ⊢
   exact AtsL.mono h xs a
 | .dict _,a=>by simp [Ats] at a
theorem AtsL.mono {i j : Nat} (h : i ≤ j) : ∀ (ds : List PyData),AtsL i ds → AtsL j ds
 | [],_=>by simp [AtsL]
 | d :: ds,a=>by
   simp only [AtsL] at a ⊢
   exact ⟨Ats.mono h d a.1,AtsL.mono h ds a.2⟩
end
theorem sz_pos (d : PyData) : 1 ≤ sz d:=by
 cases d <;> simp [sz]
theorem szs_mem : ∀ {ds : List PyData} {d : PyData},d ∈ ds → sz d ≤ szs ds
 | x :: ds,d,h=>by
   simp only [szs]
   rcases List.mem_cons.mp h with rfl | h
   · omega
   · have:=szs_mem h
     omega
theorem szs_len : ∀ (ds : List PyData),ds.length ≤ szs ds
 | []=>Nat.le_refl _
 | x :: ds=>by
   have:=szs_len ds
   have:=sz_pos x
   simp only [szs,List.length_cons]
   omega
theorem sz_tup (ds : List PyData) : sz (.tuple ds) = 1 + szs ds:=by simp [sz]
theorem sz_lst (ds : List PyData) : sz (.list ds) = 1 + szs ds:=by simp [sz]
theorem dep_tup (ds : List PyData) : PyData.depth (.tuple ds) = PyData.depthAll ds + 1:=by simp only [PyData.depth]
theorem dep_lst (ds : List PyData) : PyData.depth (.list ds) = PyData.depthAll ds + 1:=by simp only [PyData.depth]
theorem dep_all {k : Nat} : ∀ {ds : List PyData},PyData.depthAll ds ≤ k ↔ ∀ d ∈ ds,PyData.depth d ≤ k
 | []=>⟨fun _ d h=>(by cases h),fun _=>by simp [PyData.depthAll]⟩
 | x :: ds=>by
   simp only [PyData.depthAll,List.mem_cons,forall_eq_or_imp]
   rw [← dep_all (ds:=ds)]
   omega
theorem sh_big {i : Int} (h : i.natAbs < 2 ^ 1900) : Sh 0 1921 (.int i):=by
 have hl : i.natAbs.log2 < 1920:=by
   by_cases h0 : i.natAbs = 0
   · rw [h0]; decide
   · exact (Nat.log2_lt h0).2 (Nat.lt_of_lt_of_le h (Nat.pow_le_pow_right (by decide) (by decide)))
 refine ⟨by simp only [PyData.showable,decide_eq_true_eq]; exact hl,by simp only [PyData.hasDict],by simp [PyData.depth],?_⟩
 simp only [PyData.shown]
 exact int_text_len_1921 hl
theorem sh_txt {z : Str} (a : asc z) : Sh 0 (10 * z.length + 2) (.str z):=by
 refine ⟨rfl,rfl,by simp [PyData.depth],?_⟩
 simp only [PyData.shown]
 exact StrLaws.reprText_len z fun c hc=>Nat.lt_of_lt_of_le (a c hc) (by decide)
mutual
theorem ats_sh {j : Nat} (hj : j ≤ 100) : ∀ d : PyData,Ats j d → d.showable = true ∧ d.hasDict = false ∧ d.shown.length + 10 ≤ 2000 * sz d ∧ PyData.canLay0 d = true
 | .none,_=>by
   refine ⟨rfl,rfl,?_,rfl⟩
   simp only [sz]
   decide
 | .bool b,_=>by
   refine ⟨rfl,rfl,?_,rfl⟩
   simp only [sz]
   cases b <;> decide
 | .int i,a=>by
   simp only [Ats] at a
   have s:=sh_big (Nat.lt_of_lt_of_le a (Nat.pow_le_pow_right (show 0 < 2 by decide) (show 700 + j ≤ 1900 by omega)))
   refine ⟨s.sh,s.nd,?_,rfl⟩
   have:=s.ln
   simp only [sz]
   omega
 | .str z,a=>by
   simp only [Ats] at a
   have s:=sh_txt a.1
   refine ⟨s.sh,s.nd,?_,?_⟩
   · have:=s.ln
     simp only [sz]
     omega
   · show PyData.strOk z = true
     unfold PyData.strOk
     simp only [Array.all_eq_true,Bool.and_eq_true]
     first
       | (intro i hi
          have:=a.1 z.cps[i] (by simp)
          simp
          omega)
       | (have h := a.1
          simp
          omega)
 | .tuple xs,a=>by
   simp only [Ats] at a
   obtain ⟨p,q,r,s,t⟩:=ats_shs hj xs a
   refine ⟨by simp only [PyData.showable,p],by simp only [PyData.hasDict,q],?_,by simp only [PyData.canLay0,t]⟩
   simp only [PyData.shown,sz]
   have:=tupleText_len_le (PyData.shownAll xs)
   rw [s] at this
   omega
 | .list xs,a=>by
   simp only [Ats] at a
   obtain ⟨p,q,r,s,t⟩:=ats_shs hj xs a
   refine ⟨by simp only [PyData.showable,p],by simp only [PyData.hasDict,q],?_,by simp only [PyData.canLay0,t]⟩
   simp only [PyData.shown,sz]
   have:=listText_len_le (PyData.shownAll xs)
   rw [s] at this
   omega
 | .dict _,a=>by simp [Ats] at a
theorem ats_shs {j : Nat} (hj : j ≤ 100) : ∀ ds : List PyData,AtsL j ds → PyData.showableAll ds = true ∧ PyData.hasDictAll ds = false ∧ ((PyData.shownAll ds).map (·.length)).sum + 10 * ds.length ≤ 2000 * szs ds ∧ (PyData.shownAll ds).length = ds.length ∧ PyData.canLayAll0 ds = true
 | [],_=>by simp [PyData.showableAll,PyData.hasDictAll,PyData.shownAll,szs,PyData.canLayAll0]
 | d :: ds,a=>by
   simp only [AtsL] at a
   obtain ⟨p,q,r,s⟩:=ats_sh hj d a.1
   obtain ⟨p',q',r',s',t'⟩:=ats_shs hj ds a.2
   refine ⟨by simp only [PyData.showableAll,p,p',Bool.and_self],by simp only [PyData.hasDictAll,q,q',Bool.or_self],?_,by simp only [PyData.shownAll,List.length_cons,s'],by simp only [PyData.canLayAll0,s,t',Bool.and_self]⟩
   simp only [PyData.shownAll,List.map_cons,List.sum_cons,szs,List.length_cons]
   omega
end
/-- of this size,this depth,with such ends -/
structure Fit (m k j : Nat) (d : PyData) : Prop where
 sz : sz d ≤ m
 dp : PyData.depth d ≤ k
 at_ : Ats j d
theorem Fit.mono {m m' k k' j j' : Nat} {d : PyData} (h : Fit m k j d) (a : m ≤ m') (b : k ≤ k') (c : j ≤ j') : Fit m' k' j' d:=⟨Nat.le_trans h.sz a,Nat.le_trans h.dp b,Ats.mono c d h.at_⟩
theorem Fit.sh {m k j : Nat} {d : PyData} (h : Fit m k j d) (hj : j ≤ 100) : Sh k (2000 * m) d:=by
 obtain ⟨a,b,c,_⟩:=ats_sh hj d h.at_
 have:=h.sz
 exact ⟨a,b,h.dp,by omega⟩
theorem Fit.shaped {m k j : Nat} {d : PyData} (h : Fit m k j d) (hj : j ≤ 100) (hk : k ≤ 60) : SeqAt.shaped d = true:=by
 obtain ⟨_,_,_,a⟩:=ats_sh hj d h.at_
 have:=h.dp
 unfold SeqAt.shaped
 rw [a,decide_eq_true (by omega)]
 rfl
theorem Fit.mem {m k j : Nat} {ds : List PyData} {d : PyData} (h : Fit m (k + 1) j (.tuple ds)) (hm : d ∈ ds) : Fit m k j d:=by
 refine ⟨?_,?_,Ats.tup.mp h.at_ d hm⟩
 · have:=h.sz
   rw [sz_tup] at this
   have:=szs_mem hm
   omega
 · have:=h.dp
   rw [dep_tup] at this
   exact dep_all.mp (show PyData.depthAll ds ≤ k by omega) d hm
theorem fit_tup {m k j : Nat} {ds : List PyData} (hs : szs ds ≤ m) (h : ∀ d ∈ ds,PyData.depth d ≤ k ∧ Ats j d) : Fit (m + 1) (k + 1) j (.tuple ds) :=
 ⟨by rw [sz_tup]; omega,by rw [dep_tup]; have:=dep_all.mpr fun d hd=>(h d hd).1; omega,Ats.tup.mpr fun d hd=>(h d hd).2⟩
theorem fit_lst {m k j : Nat} {ds : List PyData} (hs : szs ds ≤ m) (h : ∀ d ∈ ds,PyData.depth d ≤ k ∧ Ats j d) : Fit (m + 1) (k + 1) j (.list ds) :=
 ⟨by rw [sz_lst]; omega,by rw [dep_lst]; have:=dep_all.mpr fun d hd=>(h d hd).1; omega,Ats.lst.mpr fun d hd=>(h d hd).2⟩
theorem dep_ints (ns : List Int) : ∀ d ∈ dInts ns,PyData.depth d = 0:=fun d hd=>by
 obtain ⟨i,_,rfl⟩:=List.mem_map.mp hd
 simp [PyData.depth]
theorem szs_ints : ∀ ns : List Int,szs (dInts ns) = ns.length
 | []=>rfl
 | n :: ns=>by
   show sz (.int n) + szs (dInts ns) = _
   rw [szs_ints ns]
   simp [sz]
   omega
theorem fit_ints {ns : List Int} {m j : Nat} (hl : ns.length ≤ m) (h : ∀ n ∈ ns,n.natAbs < 2 ^ (700 + j)) : Fit (m + 1) 1 j (.tuple (dInts ns)) :=
 fit_tup (by rw [szs_ints]; exact hl) fun d hd=>⟨by rw [dep_ints ns d hd]; exact Nat.le_refl _,by
   obtain ⟨i,hi,rfl⟩:=List.mem_map.mp hd
   simp only [Ats]
   exact h i hi⟩
end TB
namespace Kd
open PySem VL G
theorem bls_of (f : D → Bool) (ds : List D) : blsOf (ds.map fun d=>D.bl (f d)) = some (ds.map f):=bls_map f ds
end Kd
namespace Kd
open PySem VL G
mutual
/-- plain: made of ints,texts,truths,None,tuples and lists -/
def pln : D → Bool
 | .tup ds=>plns ds
 | .lst ds=>plns ds
 | .non=>true
 | .bl _=>true
 | .int _=>true
 | .str _=>true
 | _=>false
def plns : List D → Bool
 | []=>true
 | d :: ds=>pln d && plns ds
end
theorem plns_eq : ∀ ds : List D,plns ds = ds.all pln
 | []=>by simp [plns]
 | d :: ds=>by simp [plns,plns_eq ds]
mutual
theorem pln_pure : ∀ {d : D},pln d = true → d.pure = true
 | .tup ds,h=>by rw [pln] at h; rw [D.pure]; exact plns_pure h
 | .lst ds,h=>by rw [pln] at h; rw [D.pure]; exact plns_pure h
 | .non,_=>by simp [D.pure]
 | .bl _,_=>by simp [D.pure]
 | .int _,_=>by simp [D.pure]
 | .str _,_=>by simp [D.pure]
 | .ctp _,h=>by simp [pln] at h
 | .fzl _,h=>by simp [pln] at h
 | .ref _,h=>by simp [pln] at h
 | .cv _,h=>by simp [pln] at h
theorem plns_pure : ∀ {ds : List D},plns ds = true → D.pures ds = true
 | [],_=>by simp [D.pures]
 | d :: ds,h=>by
   rw [plns,Bool.and_eq_true] at h
   rw [D.pures,pln_pure h.1,plns_pure h.2]
   rfl
end
/-- words that rise -/
def risS : List D → Bool
 | .str x :: .str y :: r=>ltStr x y && risS (.str y :: r)
 | _=>true
def strD : D → Bool
 | .str _=>true
 | _=>false
end Kd
namespace VL
open PySem PySem.Spec PyProof.Rows L2 TB
@[simp] def sRaise1 (c f : Str) (fe : En → AS → Out D) (env : En) (st : AS) : Fl:=(fe env st).fl fun d st=>.exc c [(f,d)] st
@[simp] def sRaise2 (c f g : Str) (fs : En → AS → Out (List D)) (env : En) (st : AS) : Fl:=(fs env st).fl fun ds st=>match ds with
 | [x,y]=>.exc c [(g,y),(f,x)] st
 | _=>.bad
/-- what making one of the class asks: its fields' dict is new -/
def tEx (C : Addr) (ks : List Str) (ta : TA) : L2.St → Hp → XK → Prop:=fun σ H Q=>ta σ H fun vs H1=>vs.length = ks.length ∧ ∀ d,H1 d = none → Q (.ref C) (some d) (upd H1 d (.xd (ks.zip vs).reverse))
/-- what an argument list gives,with more said of it -/
def MonA (ta : TA) : Prop:=∀ σ H (Q Q' : List V → Hp → Prop),(∀ vs H1,Q vs H1 → Q' vs H1) → ta σ H Q → ta σ H Q'
/-- an own class of errors: to be made by its fields -/
structure ExM (P : Program) (w : World) (K : PySem.W.Frag) (mg : Str → Option Value) (base : Heap) (c : Str) (ks : List Str) : Prop where
 ex : ∃ C : Addr,mg c = some (.ref C) ∧ ∀ X : Cx,X.prog = P → X.w = w → X.K = K → X.mg = mg → X.base = base → Room 2 X.A → Gl X c → (c == ("__debug__" : Str)) = false → ∀ (e : Expr) (es : List Expr) (p q : Pos) (ta : TA),MonA ta → PA X (e :: es) ta →
   starEach (e :: es) X.env = (false,eval e X.env) :: starEach es X.env → (backTo q (starEach es X.env)).any (·.1) = false → PMk X (.Call (.Name c p) (e :: es) [] q) (tEx C ks ta)
/-- self.f = f of a class with one field -/
def spI1 (K : PySem.W.Frag) (C : Addr) (f : Str) : Sp:=fun vs H Q _=>∃ (a : Addr) (x : V),vs = [.ref a,x] ∧ H a = some (exo a C none) ∧ ∀ dx,H dx = none → dx ≠ a → Q .non (upd (upd H dx (exd dx [(f,x)])) a (exo a C (some dx)))
theorem hp_one {H : Hp} {a dx : Addr} {o1 o2 o3 o4 : HO} (na : H a = none) (ne : dx ≠ a) : upd (del (upd (upd (upd H a o1) dx o2) a o3) a) dx o4 = upd H dx o4:=by
 funext b
 by_cases h : b = dx
 · rw [h,upd_same,upd_same]
 · rw [upd_ne h,upd_ne h]
   by_cases k : b = a
   · rw [k,del_same,na]
   · rw [del_ne k,upd_ne k,upd_ne h,upd_ne k]
theorem weakMk {X : Cx} {e : Expr} {t t' : L2.St → Hp → XK → Prop} (h : PMk X e t) (w : ∀ σ H Q,t' σ H Q → t σ H Q) : PMk X e t':=fun pins s σ H Q I q=>h pins s σ H Q I (w σ H Q q)
section
variable {P : Program} {w : World} {K : PySem.W.Frag} {mg : Str → Option Value} {base : Heap} {C fI : Addr} {fd : FuncData} {c f g : Str}
theorem tEx1 {ta : TA} {σ : L2.St} {H : Hp} {Q : XK} (mono : MonA ta) (h : tEx C [f] ta σ H Q) : tMkO C (spI1 K C f) [] ta σ H Q:=by
 refine mono _ _ _ _ (fun vs H1 q=>?_) h
 obtain ⟨l,q⟩:=q
 obtain ⟨x,rfl⟩ : ∃ x,vs = [x]:=by
   match vs,l with
   | [x],_=>exact ⟨x,rfl⟩
 refine ⟨by show (1 : Nat) ≤ 1000; decide,fun a na=>⟨a,x,rfl,upd_same,fun dx n ne=>⟨rfl,dx,[(f,x)],upd_same,?_,?_,?_⟩⟩⟩
 · rw [upd_ne ne]
   exact upd_same
 · rw [upd_ne ne] at n
   exact n
 · rw [upd_ne ne] at n
   rw [hp_one na ne]
   exact q dx n
end
section
variable {X : Cx} {E : XK} {c f g : Str} {e : Expr} {es : List Expr} {fe : En → AS → Out D} {fs : En → AS → Out (List D)} {p q pos : Pos}
theorem mon_tG {K : PySem.W.Frag} {mg : MG} {fs : En → AS → Out (List D)} : MonA (tVA K mg E fs):=fun σ H Q Q' w ⟨β,env,st,he,hs,h⟩=>by
 refine ⟨β,env,st,he,hs,?_⟩
 cases o : fs env st with
 | ok a st1=>rw [o] at h; exact fun β' H' u x s r=>w _ _ (h β' H' u x s r)
 | exc c fs st1=>rw [o] at h; exact h
 | bad=>rw [o] at h; exact h
theorem reps_rev {K : PySem.W.Frag} {H : Hp} {β : Bt} : ∀ {ds : List D} {us : List V},Reps K H β ds us → Reps K H β ds.reverse us.reverse
 | _,_,.nil=>.nil
 | _,_,.cons h t=>by
   rw [List.reverse_cons,List.reverse_cons]
   exact (reps_rev t).append (.cons h .nil)
theorem repf_zip {K : PySem.W.Frag} {H : Hp} {β : Bt} {ks : List Str} {ds : List D} {us : List V} (r : Reps K H β ds us) (l : ds.length = ks.length) : RepF K H β (ks.zip ds).reverse (ks.zip us).reverse:=by
 have l2:=r.length
 refine ⟨?_,?_⟩
 · rw [List.map_reverse,List.map_reverse,List.map_fst_zip (by omega),List.map_fst_zip (by omega)]
 · rw [List.map_reverse,List.map_reverse,List.map_snd_zip (by omega),List.map_snd_zip (by omega)]
   exact reps_rev r
theorem vs_raiseL {ks : List Str} {fx : En → AS → Fl} (M : ExM X.prog X.w X.K X.mg X.base c ks) (hr : Room 2 X.A) (hg : Gl X c) (hc : X.calm = true) (tk : Takes X fun cls d _ H => E cls d H) (ha : VA X E (e :: es) fs)
   (hx : ∀ env st,fx env st = (fs env st).fl fun ds st=>if ds.length = ks.length then .exc c (ks.zip ds).reverse st else .bad)
   (hdb : (c == ("__debug__" : Str)) = false:=by decide) (he : starEach (e :: es) X.env = (false,eval e X.env) :: starEach es X.env:=by rfl) (hpl : (backTo q (starEach es X.env)).any (·.1) = false:=by rfl) :
   VS X E (.Raise (some (.Call (.Name c p) (e :: es) [] q)) none pos) fx:=by
 obtain ⟨C,gC,mk⟩:=M.ex
 refine weakS (ps_raise hc tk (mk X rfl rfl rfl rfl rfl hr hg hdb e es p q _ mon_tG ha he hpl)) fun De σ H ⟨β,env,st,hE,hS,h⟩=>?_
 rw [hx] at h
 refine fl_bind hE hS h fun ds st1 β1 H1 us x1 s1 e1 r1 h1=>?_
 split at h1
 · rename_i hl
   refine ⟨r1.length.trans hl,fun d nd=>?_⟩
   refine h1 β1 _ (.ref C) (some d) (Ext.same (same_upd nd)) (s1.same (same_upd nd)) ⟨C,d,_,rfl,gC,rfl,s1.fresh nd,upd_same,?_⟩
   exact (repf_zip r1 hl).ext (Ext.same (same_upd nd))
 · exact h1.elim
theorem vs_raise1 (M : ExM X.prog X.w X.K X.mg X.base c [f]) (hr : Room 2 X.A) (hg : Gl X c) (hc : X.calm = true) (tk : Takes X fun cls d _ H => E cls d H) (ha : VE X E e fe)
   (hdb : (c == ("__debug__" : Str)) = false:=by decide) (hs : starEach [e] X.env = (false,eval e X.env) :: starEach [] X.env:=by rfl) (hpl : (backTo q (starEach [] X.env)).any (·.1) = false:=by rfl) :
   VS X E (.Raise (some (.Call (.Name c p) [e] [] q)) none pos) (sRaise1 c f fe) :=
 vs_raiseL M hr hg hc tk (va_cons ha va_nil hs) (fun env st=>by
   simp only [sRaise1,vCons,vNil]
   cases fe env st <;> simp [Out.bind,Out.fl]) hdb hs hpl
end
end VL
namespace VL
open PySem PySem.Spec PyProof.Rows L2 TB
/-- what of the order of classes matters here -/
structure MroQ (m : List Value) : Prop where
 ne : m.isEmpty = false
 ob : m.contains (.type "object") = true
 rf : ∀ self,refuseLoop self "__setattr__" m = pure ()
 le : ∀ Y : String,m.contains (.type Y) = [Value.type "LookupError",.type "Exception",.type "BaseException",.type "object"].contains (.type Y)
theorem mroq_tail : MroQ [Value.type "LookupError",.type "Exception",.type "BaseException",.type "object"]:=⟨rfl,by decide +kernel,fun self=>by kernel_rfl,fun _=>rfl⟩
theorem mroq_ref {a : Addr} {m : List Value} (h : MroQ m) : MroQ (.ref a :: m):=by
 refine ⟨rfl,?_,fun self=>?_,fun Y=>?_⟩
 · rw [List.contains_cons,h.ob]; simp
 · rw [refuseLoop_ref]
   exact h.rf self
 · rw [List.contains_cons,h.le Y]
   have : (Value.type Y == Value.ref a) = false:=rfl
   rw [this,Bool.false_or]
section
open Builtin Builtin.ObjectAttr PySem.HandSPX
variable {prog : Program} {w : World} {A : Around} {R : Result → Shared → Prop} {h0 : Heap} {g : Array GenState} {d : Drawn} {t : Nat} {os : OsState}
theorem set_first {K : PySem.W.Frag} {f : Str} {tk : Tok} {v : Value} {x C : Addr} {fv : Array Value} {cd : ClassData} (KI : K.In h0)
   (gx : h0.get? x = some { cls:=.ref C,data:=.fields fv }) (cC : PySem.W.clsIn K C = some cd) (mq : MroQ cd.mro) (hasd : cd.hasDict = true) (nf : PySem.W.findIn K (.ref C) f = some none)
   (done : ∀ h1 tk' dx,(∀ b o,b ≠ x → h0.get? b = some o → h1.get? b = some o) → h0.objs.size ≤ dx → dx ≠ x →
     h1.get? x = some { cls:=.ref C,dict:=some dx,data:=.fields fv } → h1.Ns1 dx (fun y=>if y = f then some v else none) → R (.ok (.ret .none)) ⟨h1,g,d,tk',os⟩) :
   codeAny (model prog w) A (.call (.builtin "object.__setattr__") ⟨[.ref x,.str f tk,v],[]⟩) R ⟨h0,g,d,t,os⟩:=by
 have at_ : PySem.W.InstAt h0 x { cls:=.ref C,data:=.fields fv } C none:=⟨gx,rfl,rfl,trivial⟩
 have so:=F.store_object
 have other : x ≠ h0.objs.size:=Nat.ne_of_lt (Heap.lt_size gx)
 have isob : PySem.W.Looks (model prog w) h0 (isInstance (.ref x) (.type "object")) true :=
   at_.type.andThen (PySem.W.looks_mroIn KI (by unfold PySem.W.mroIn; rw [cC,Option.bind_some,if_neg (by rw [mq.ne]; decide),mq.ob]))
 refine codeAny_call_builtin so.slot.plain so.entry
   (@PySem.W.check_slot (model prog w) _ _ ⟨h0,g,d,t,os⟩ "object.__setattr__" "object" "__setattr__" (.ref x) [.str f tk,v] [] _ so.kind so.split isob (so.args (.ref x) (.str f tk) v) ?_)
 have lm : PySem.W.Looks (model prog w) h0 (mroOf (.ref C)) cd.mro:=(PySem.W.looks_clsIn KI cC).andThen .now
 have l0 : PySem.W.Looks (model prog w) h0 (storeTaker? none) none:=.now
 have lc : PySem.W.Looks (model prog w) h0 (classData C) cd:=PySem.W.looks_clsIn KI cC
 rw [PySem.W.osa_eq,refuse_eq]
 refine wpAny_bind (wpAny_bind (at_.type.at (wpAny_bind (lm.at ?_))))
 rw [mq.rf]
 refine wpAny_pure (wpAny_bind (at_.type.at (wpAny_bind ((PySem.W.looks_findIn KI nf).at (wpAny_bind (l0.at ?_))))))
 show wpAny _ _ (storeInOwnDict (.ref x) (.ref C) (.str f tk) f v false) _ _ _
 obtain ⟨c1,c2,c3,c4,c5,c6,c7,c8,c9,c10,c11⟩:=cd
 dsimp only at hasd
 subst hasd
 unfold storeInOwnDict ownDictForStores
 repeat (first
   | with_reducible refine store_in_new ?_ ?_
   | with_reducible refine wpAny_loadPart_at gx ?_
   | with_reducible refine lc.at ?_
   | wp_step)
 · exact ⟨_,#[],_,(Heap.get?_update_ne _ _ _ _ other.symm).trans (Heap.get?_push_at rfl rfl),rfl,fun e he=>absurd he (by simp),fun _=>rfl⟩
 · intro h1 tk' ns sb
   have gx1 : (h0.push { cls:=.type "dict",data:=.dict #[] }).get? x = some { cls:=.ref C,data:=.fields fv }:=Heap.get?_push_of_some _ gx
   refine done h1 tk' h0.objs.size (fun b o nb gb=>?_) (Nat.le_refl _) other.symm ?_ ns
   · have e1:=sb.2 b (Nat.ne_of_lt (Heap.lt_size gb))
     exact e1.trans ((Heap.get?_update_ne _ _ _ _ nb).trans (Heap.get?_push_of_some _ gb))
   · have e1:=sb.2 x other
     exact e1.trans (Heap.get?_update_self _ gx1 rfl)
end
/-- what the written part says of such a class -/
structure OexL (K : PySem.W.Frag) (C : Addr) : Prop where
 cls : ∃ nm q N bs bm sn sub ab col dd k0 k1 k2 k3 k5,MroQ bm ∧ K.lookup C = some (excClassObj nm q C N bs bm true sn sub ab col dd k0 k1 k2 k3 k5 "LookupError.__new__")
 sa : PySem.W.findIn K (.ref C) "__setattr__" = some (some (.builtin "object.__setattr__"))
 be : PySem.W.subIn K (.ref C) (.type "BaseException") = some true
 ty : PySem.W.typeIn K (.ref C) = some (.type "type")
 kp : PySem.W.keepIn K (.ref C) = true
section
variable {X : Cx} {pins : List (Addr × Obj)} {σ : L2.St} {H : Hp} {s : Shared} {a C dx : Addr} {f : Str} {y : V} {u : Value} {Q : Unit → Shared → Prop} {E : Value → Shared → Prop} {A : Around}
theorem put_first (T : OexL X.K C) (I : Inv X pins σ H s) (ea : H a = some (exo a C none)) (nf : PySem.W.findIn X.K (.ref C) f = some none) (ry : RelV y u)
   (next : ∀ dx s',H dx = none → dx ≠ a → Inv X pins σ (upd (upd H dx (exd dx [(f,y)])) a (exo a C (some dx))) s' → Q () s') : wpAny (model X.prog X.w) A (setAttr (.ref a) f u) Q E s:=by
 obtain ⟨nm,q,N,bs,bm,sn,sub,ab,col,dd,k0,k1,k2,k3,k5,mq,lC⟩:=T.cls
 have cC : PySem.W.clsIn X.K C = some { name:=nm,bases:=bs,mro:=.ref C :: bm,ns:=N,qualname:=q,hasDict:=true,slotNames:=sn,subclasses:=sub,abstract:=ab,collection:=col,hasDel:=false }:=by
   unfold PySem.W.clsIn
   rw [lC] <;> rfl
 obtain ⟨t1,oa⟩:=exo_at I.hok ea
 obtain ⟨h0,g,d,t,os⟩:=s
 refine PySem.W.set_plain I.kIn (ox:={ cls:=.ref C,dict:=none,data:=.fields #[.ref t1,.none,.none,.none,.bool false,.none] }) (od:=none) ⟨oa,rfl,rfl,trivial⟩ T.sa ?_
 refine set_first I.kIn oa cC (mroq_ref mq) rfl nf (fun h1 tk' dx kp big ndx gx ns=>?_)
 have free : H dx = none:=I.hok.fresh big
 have old : ∀ {b : Addr} {o : Obj},h0.get? b = some o → b ≠ dx:=fun {b o} z=>Nat.ne_of_lt (Nat.lt_of_lt_of_le (Heap.lt_size z) big)
 have nota : ∀ {b : Addr},H b = none → b ≠ a:=fun {b} n z=>by
   rw [z,ea] at n
   cases n
 have grown : Un X.fs [] H (upd (upd H dx (exd dx [(f,y)])) a (exo a C (some dx))) h0 h1:=by
   refine ⟨fun b o z n _ _=>kp b o (nota n) z,fun b o z n _ _=>⟨o.slots,kp b o (nota n) z⟩,fun b o z n _=>?_,fun b o z _=>?_,fun b xs z=>?_,fun b o v z=>?_,fun b ps z=>⟨#[],?_⟩⟩
   · rw [upd_ne (nota n),upd_ne (old z)]
     exact n
   · by_cases e : b = a
     · exact ⟨_,by rw [e]; exact gx⟩
     · exact ⟨o,kp b o e z⟩
   · rw [upd_ne (at_ne ea z exo_tup),upd_ne (ne_of_none z free)]
     exact z
   · rw [upd_ne (at_ne ea z exo_frz),upd_ne (ne_of_none z free)]
     exact z
   · rw [upd_ne (at_ne ea z exo_tbl),upd_ne (ne_of_none z free),z]
     simp
 refine next dx _ free ndx (I.un (t':=tk') grown fun b o z=>?_)
 by_cases e : b = a
 · subst e
   rw [upd_same] at z
   cases z
   exact exo_ok gx
 · rw [upd_ne e] at z
   by_cases e2 : b = dx
   · subst e2
     rw [upd_same] at z
     cases z
     exact exd_ok ns (relO_put (fs:=[]) ry fun _=>True.intro)
   · rw [upd_ne e2] at z
     refine (I.hok b o z).stay (fun c v hc y=>kp c v (?_ : c ≠ a) y) (fun c hc=>?_) (fun c xs hc=>?_)
     · rcases hc with hc | hc
       · rw [hc]; exact e
       · exact at_ne ea hc exo_own
     · rw [upd_ne (at_ne ea hc exo_own),upd_ne (ne_of_none hc free)]
       exact hc
     · rw [upd_ne (at_ne ea hc exo_tup),upd_ne (ne_of_none hc free)]
       exact hc
end
/-- self.f = e,the first field -/
def tFirst (K : PySem.W.Frag) (f : Str) (to te : TE) : TS:=fun De σ H=>te σ H fun y H1=>to σ H1 fun x H2=>∃ a C : Addr,x = .ref a ∧ OexL K C ∧ PySem.W.findIn K (.ref C) f = some none ∧
 H2 a = some (exo a C none) ∧ ∀ dx,H2 dx = none → dx ≠ a → De.nx σ (upd (upd H2 dx (exd dx [(f,y)])) a (exo a C (some dx)))
section
variable {X : Cx} {o e : Expr} {es : List Expr} {to te : TE} {ta : TA} {f : Str} {p p' pos : Pos}
theorem ps_first (po : PE X o to) (pe : PE X e te) (sw : swapsWith e (some (.Attribute o f p')) pos.line X.env = pure false:=by rfl) : PS X (.Assign [.Attribute o f p'] e pos) (tFirst X.K f to te):=by
 refine ⟨fun pins s σ H De I h=>plainObj_wpAny_Assign_Attribute (thn (pe.run pins s σ H _ I h) fun v s1 ⟨y,H1,I1,r1,q1⟩=>thn (po.run pins s1 σ H1 _ I1 q1) fun u s2 z=>?_) sw⟩
 obtain ⟨x,H2,I2,r2,a,C,ex,T,nf,ea,q⟩:=z
 subst ex
 obtain rfl : u = Value.ref a:=r2
 exact put_first T I2 ea nf r1 fun dx s' n ne J=>⟨σ,_,J,q dx n ne⟩
theorem pmk_oexL {CX : CXT} {x : Str} {C fI : Addr} {k : Nat} {fd : FuncData} {ps : List Str} {sp : Sp} (T : OexL X.K C) (iC : PySem.W.findIn X.K (.ref C) "__init__" = some (some (.ref fI))) (tI : PySem.W.typeIn X.K (.ref fI) = some (.type "function"))
   (G : FnOk X.prog X.w X.K X.mg X.base CX k fI fd ps sp) (hr : Room (k + 1) X.A) (hb : Binds X.K fd ps []) (hx : Passes CX X (fun _ _ _=>False)) (hg : Gl X x) (hm : X.mg x = some (.ref C)) (ha : PA X (e :: es) ta)
   (hdb : (x == ("__debug__" : Str)) = false:=by decide) (he : starEach (e :: es) X.env = (false,eval e X.env) :: starEach es X.env:=by rfl) (hpl : (backTo pos (starEach es X.env)).any (·.1) = false:=by rfl) :
   PMk X (.Call (.Name x p) (e :: es) [] pos) (tMkO C sp [] ta):=by
 intro pins s σ H Q I h
 obtain ⟨nm,q,N,bs,bm,sn,sub,ab,col,dd,k0,k1,k2,k3,k5,mq,lC⟩:=T.cls
 refine wpAny_Call_Name_kw (ld_glob I hg hm ?_ hdb)
 refine PySem.W.callWith_K (h₀:=X.base) I.ok.mod.kin T.kp (thn (ha.run pos pins s σ H _ I h) fun us s1 z=>?_) he hpl
 obtain ⟨vs,H1,I1,r1,hz,q1⟩:=z
 refine ⟨I1.kIn,?_⟩
 show wpAny _ _ (call (.ref C) us) _ _ _
 obtain ⟨h0,g,dr,tk,os⟩:=s1
 have up : h0.objs.size ≤ h0.objs.size + 1:=Nat.le_succ _
 have na : H1 (h0.objs.size + 1) = none:=I1.hok.fresh up
 have hq:=q1 (h0.objs.size + 1) na
 have keep : ∀ b o,h0.get? b = some o → ((h0.push (PySem.W.kdv_tup us)).push (PySem.HandSPX.excO C h0.objs.size)).get? b = some o:=fun b o z=>Heap.get?_push_of_some _ (Heap.get?_push_of_some _ z)
 have got : ((h0.push (PySem.W.kdv_tup us)).push (PySem.HandSPX.excO C h0.objs.size)).get? (h0.objs.size + 1) = some (PySem.HandSPX.excO C h0.objs.size):=by heap_get
 have I2:=I1.laid (t':=tk) (a:=h0.objs.size + 1) (o:=exo (h0.objs.size + 1) C none) (h':=(h0.push (PySem.W.kdv_tup us)).push (PySem.HandSPX.excO C h0.objs.size)) keep up (exo_ok got)
 have r2 : Vals (V.ref (h0.objs.size + 1) :: (vs ++ [])) (Value.ref (h0.objs.size + 1) :: (us ++ [])):=.cons rfl (r1.append .nil)
 have ln : (Value.ref (h0.objs.size + 1) :: us ++ []).length = ps.length:=by
   have z:=r2.length
   rw [G.len _ _ _ _ hq] at z
   exact z.symm
 have ul : us.length ≤ sizeLine:=by
   rw [← Paired.length r1,sizeLine_eq]
   omega
 have I2 : Inv X pins σ (upd H1 (h0.objs.size + 1) (exo (h0.objs.size + 1) C none)) ⟨(h0.push (PySem.W.kdv_tup us)).push (PySem.HandSPX.excO C h0.objs.size),g,dr,tk,os⟩:=I2
 have bt:=hb _ (Value.ref (h0.objs.size + 1) :: us) I2.kIn ln
 rw [List.cons_append] at bt
 refine wpAny_call (PySem.HandSPX.call_own F.excBase_LookupError (fun Y=>mq.le Y) (I1.kIn _ _ lC) (PySem.W.looks_findIn I1.kIn iC) (fun self=>PySem.W.bind_fn I1.kIn self tI) ul
   (codeAny_mono (G.run _ X.stack _ _ ⟨Value.ref (h0.objs.size + 1) :: us,[]⟩ (Value.ref (h0.objs.size + 1) :: (us ++ [])) _ _ (fun _ _ _=>False) (hr.make C us []) (I2.env0.make C us [])
     bt r2 hq) fun r s' hq'=>?_))
 cases r with
 | error er=>exact hx pins σ _ _ er s' I2 hq'
 | ok fl =>
   cases fl with
   | ret u =>
     obtain ⟨v,H2,os2,bare2,un2,hok2,rv,ev,d,fs,ea,ed,hd1,q2⟩:=hq'
     subst ev
     obtain ⟨h2,g2,d2,t2,os'⟩:=s'
     exact ⟨rv,mk_end (raises_own T.be T.ty) I1 up keep un2 hok2 os2 bare2 ea ed hd1 q2⟩
   | next=>exact False.elim hq'
   | brk=>exact False.elim hq'
   | cont=>exact False.elim hq'
end
section
variable {P : Program} {w : World} {K : PySem.W.Frag} {mg : Str → Option Value} {base : Heap} {C fI : Addr} {fd : FuncData} {c f : Str}
/-- over LookupError: one field -/
theorem exm_le1 (gC : mg c = some (.ref C)) (T : OexL K C) (iC : PySem.W.findIn K (.ref C) "__init__" = some (some (.ref fI))) (tI : PySem.W.typeIn K (.ref fI) = some (.type "function"))
   (G : FnOk P w K mg base CX0 1 fI fd ["self",f] (spI1 K C f)) (hb : Binds K fd ["self",f] []) : ExM P w K mg base c [f] :=
 ⟨C,gC,fun X h1 h2 h3 h4 h5 hr hg hdb e es p q ta mono ha he hpl=>by
   subst h1; subst h2; subst h3; subst h4; subst h5
   exact weakMk (pmk_oexL T iC tI G hr hb pass0 hg gC ha hdb he hpl) fun σ H Q h=>tEx1 mono h⟩
end
end VL
namespace VL
open PySem PySem.Spec PyProof.Rows L2 TB
section
variable {X : Cx} {E : XK} {es : List Expr} {fs : En → AS → Out (List D)} {t : TA} {pos : Pos}
@[simp] def gTupF (ds : List D) (st : AS) : Out D:=if ds.length ≤ sizeLine then .ok (.ctp ds) st else .bad
end
end VL
namespace VL
open PySem PySem.Spec PyProof.Rows L2 TB
abbrev VEx (X : Cx) (E : L2.St → XK) (e : Expr) (f : En → AS → Out D) : Prop:=PE X e fun σ H Q=>tG X.K X.mgw (rD X.K) (E σ) f σ H Q
def tVSx (K : PySem.W.Frag) (mg : MG) (E : L2.St → XK) (f : En → AS → Fl) : TS:=fun De σ H=>∃ (β : Bt) (env : En) (st : AS),EnvR K H β env σ ∧ Sim K mg β st H ∧ PostS K mg (E σ) β H De (f env st)
abbrev VSx (X : Cx) (E : L2.St → XK) (s : Stmt) (f : En → AS → Fl) : Prop:=PS X s (tVSx X.K X.mgw E f)
abbrev VSsx (X : Cx) (E : L2.St → XK) (s : List Stmt) (f : En → AS → Fl) : Prop:=PSs X s (tVSx X.K X.mgw E f)
section
variable {X : Cx} {E : L2.St → XK} {e : Expr} {es : List Expr} {s : Stmt} {ss : List Stmt} {fe : En → AS → Out D} {fs fk : En → AS → Out (List D)} {f g : En → AS → Fl} {pos p : Pos}
section
variable {k n m : Nat} {f : Addr} {fd : FuncData} {ps ks : List Str} {F : List D → AS → Out D} {dvs : List V} {ds : List D} {sr : List Src} {x : Str} {kws : List Keyword}
theorem run_Vx {pins : List (Addr × Obj)} {σ : L2.St} {H : Hp} {s : Shared} {Q : VK} {us ws : List Value} {vs zs : List V} {sp : Sp} {E : XK} (G : FnG X.prog X.w X.K X.mg X.base (L2.CX X.prog X.w) k f fd ps sp) (gd : X.A.guards = some []) (hr : Room k X.A) (hb : BindV X.K fd ps n ks dvs sr) (hx : PassesAt (L2.CX X.prog X.w) X σ E)
   (I : Inv X pins σ H s) (r : Vals vs us) (rz : Vals zs ws) (l1 : vs.length = n) (l2 : zs.length = ks.length) (h : sp (asm vs zs dvs sr) H Q E) : wpAny (model X.prog X.w) X.A (call (.ref f) us (ks.zip ws)) (EP X pins σ Q) X.xe s:=by
 obtain ⟨ds',rd,hb⟩:=hb s us ws I.kIn (r.length.symm.trans l1) (rz.length.symm.trans l2)
 refine wpAny_call (codeAny_mono (G.run X.A gd hr X.stack s H I.env0 ⟨us,ks.zip ws⟩ _ _ hb (Vals.asm r rz rd sr) Q E h) ?_)
 intro res s' hq
 match res,hq with
 | .error e,hq=>exact hx pins H s e s' I hq
 | .ok (.ret u),hq=>exact I.after hq
 | .ok .next,hq=>exact hq.elim
 | .ok .brk,hq=>exact hq.elim
 | .ok .cont,hq=>exact hq.elim
theorem vex_callP {N : Nat} (G : FnG X.prog X.w X.K X.mg X.base (L2.CX X.prog X.w) k f fd ps (spV X.K X.mgw N F)) (gd : X.A.guards = some []) (hr : Room k X.A) (hg : Gl X x) (hm : X.mg x = some (.ref f)) (hk : PySem.W.keepIn X.K (.ref f) = true)
   (hb : BindV X.K fd ps n [] dvs sr) (hN : ∀ us ws : List V,us.length = n → ws.length = 0 → (asm us ws dvs sr).length = N) (hd : ∀ H β,Reps X.K H β ds dvs) (hx : ∀ σ,PassesAt (L2.CX X.prog X.w) X σ (E σ)) (ha : ∀ E',VA X E' (e :: es) fs)
   (he : starEach (e :: es) X.env = (false,eval e X.env) :: starEach es X.env:=by rfl) (hdb : (x == ("__debug__" : Str)) = false:=by decide) (hpl : (backTo pos (starEach es X.env)).any (·.1) = false:=by rfl) :
   VEx X E (.Call (.Name x p) (e :: es) [] pos) (vCallA n 0 ds sr F fs vNil):=by
 constructor
 intro pins s σ H Q I h
 have h:=use_V (E:=E σ) hN hd h
 refine wpAny_Call_Name_kw (ld_glob I hg hm (PySem.W.callWith_K (h₀:=X.base) I.ok.mod.kin hk (thn ((ha (E σ)).run pos pins s σ H _ I h) ?_) he hpl) hdb)
 rintro us s1 ⟨vs,H1,I1,r,q⟩
 obtain ⟨zs,H2,I2,rz,q2⟩ : ∃ zs H2,Inv X pins σ H2 s1 ∧ Vals zs ([] : List Value) ∧ (vs.length = n ∧ zs.length = 0 ∧ spV X.K X.mgw N F (asm vs zs dvs sr) H2 Q (E σ)):=by
   obtain ⟨β,env,st,hE,hS,q⟩:=q
   exact ⟨[],H1,I1,.nil,q.here hS .nil⟩
 exact ⟨I2.kIn,run_Vx G gd hr hb (hx σ) I2 r rz q2.1 q2.2.1 q2.2.2⟩
end
theorem vssx_one (h : VSx X E s f) : VSsx X E [s] f:=pss_one h
theorem vsx_expr (he : VEx X E e fe) (hs : swapsWith e none pos.line X.env = pure false:=by rfl) : VSx X E (.Expr e pos) (sExpr fe) :=
 weakS (ps_expr he hs) fun De σ H ⟨β,env,st,he,hs,h⟩=>fl_bind he hs h fun a st1 β1 H1 u x s1 e1 r1 h1=>h1 β1 H1 σ (Ext.refl _ _) s1 e1
end
def Fl.quiet : Fl → Fl
 | .exc _ _ _=>.bad
 | o=>o
@[simp] theorem Fl.quiet_nx (env : En) (st : AS) : (Fl.nx env st).quiet = .nx env st:=rfl
@[simp] theorem Fl.quiet_rt (d : D) (st : AS) : (Fl.rt d st).quiet = .rt d st:=rfl
@[simp] theorem Fl.quiet_bk (env : En) (st : AS) : (Fl.bk env st).quiet = .bk env st:=rfl
@[simp] theorem Fl.quiet_ct (env : En) (st : AS) : (Fl.ct env st).quiet = .ct env st:=rfl
/-- what is done with an error of the body -/
def Fl.catch (o : Fl) (k : Str → List (Str × D) → AS → Fl) : Fl:=match o with
 | .exc c fs st=>k c fs st
 | .nx env st=>.nx env st
 | .rt d st=>.rt d st
 | .bk env st=>.bk env st
 | .ct env st=>.ct env st
 | .bad=>.bad
@[simp] theorem Fl.catch_exc (c : Str) (fs : List (Str × D)) (st : AS) (k : Str → List (Str × D) → AS → Fl) : (Fl.exc c fs st).catch k = k c fs st:=rfl
@[simp] theorem Fl.catch_nx (env : En) (st : AS) (k : Str → List (Str × D) → AS → Fl) : (Fl.nx env st).catch k = .nx env st:=rfl
@[simp] theorem Fl.catch_rt (d : D) (st : AS) (k : Str → List (Str × D) → AS → Fl) : (Fl.rt d st).catch k = .rt d st:=rfl
abbrev Isa:=List (Str × Bool)
/-- try .. except C as n (slot i) -/
@[simp] def sTryAs (i : Nat) (L : Isa) (fb : En → AS → Fl) (fh : Str → List (Str × D) → En → AS → Fl) (env : En) (st : AS) : Fl:=(fb env st).catch fun c fs st=>match L.lookup c with
 | some true=>if i < env.length then (fh c fs (env.set i none) st).quiet.kill [i] else .bad
 | some false=>.exc c fs st
 | none=>.bad
/-- try .. except C -/
@[simp] def sTry (L : Isa) (fb : En → AS → Fl) (fh : En → AS → Fl) (env : En) (st : AS) : Fl:=(fb env st).catch fun c fs st=>match L.lookup c with
 | some true=>(fh env st).quiet
 | some false=>.exc c fs st
 | none=>.bad
abbrev E0 : XK:=fun _ _ _=>False
/-- what is known of the caught one: its slot,its place,its class,its dict; its name,its fields -/
structure Zi where
 i : Nat
 a : Addr
 cls : Value
 d : Option Addr
 c : Str
 fs : List (Str × D)
def ZiOk (K : PySem.W.Frag) (mg : MG) (z : Zi) (β : Bt) (σ : L2.St) (H : Hp) : Prop:=σ[z.i]? = some (some (.ref z.a)) ∧ XRep K mg H β z.c z.fs z.cls z.d
def tGX {α ρ : Type} (K : PySem.W.Frag) (mg : MG) (z : Zi) (R : Hp → Bt → α → ρ → Prop) (f : En → AS → Out α) : L2.St → Hp → (ρ → Hp → Prop) → Prop :=
 fun σ H Q=>∃ (β : Bt) (env : En) (st : AS),EnvR K H β env σ ∧ Sim K mg β st H ∧ ZiOk K mg z β σ H ∧ Post K mg R E0 β H Q (f env st)
def tVSX (K : PySem.W.Frag) (mg : MG) (z : Zi) (f : En → AS → Fl) : TS:=fun De σ H=>∃ (β : Bt) (env : En) (st : AS),EnvR K H β env σ ∧ Sim K mg β st H ∧ ZiOk K mg z β σ H ∧ PostS K mg E0 β H De (f env st)
theorem XRep.ext {K : PySem.W.Frag} {mg : MG} {β β' : Bt} {H H' : Hp} {c : Str} {fs : List (Str × D)} {cls : Value} {d : Option Addr} (x : Ext β H β' H') (h : XRep K mg H β c fs cls d) : XRep K mg H' β' c fs cls d:=by
 obtain ⟨Ca,dx,vs,h1,h2,h3,h4,h5,h6⟩:=h
 obtain ⟨k1,k2⟩:=x.kept dx _ h5 h4
 exact ⟨Ca,dx,vs,h1,h2,h3,k2,k1,h6.ext x⟩
theorem ZiOk.ext {K : PySem.W.Frag} {mg : MG} {z : Zi} {β β' : Bt} {σ : L2.St} {H H' : Hp} (x : Ext β H β' H') (h : ZiOk K mg z β σ H) : ZiOk K mg z β' σ H':=⟨h.1,h.2.ext x⟩
section
variable {X : Cx} {E : XK} {body suite : List Stmt} {b0 : Stmt} {x n : Str} {cv : Value} {i : Nat} {np pos pos' : Pos} {fb : En → AS → Fl}
theorem vs_tryAs {L : Isa} {fh : Str → List (Str × D) → En → AS → Fl} (h1 : X.stack = X.env :: X.outer) (h2 : X.env.frame = some X.env.locals) (h3 : X.N.Nodup) (h4 : X.N[i]? = some n) (h5 : X.env.kindOf n = some NameKind.local) (h6 : Names X x cv)
   (tk : Takes X fun cls d _ H=>E cls d H) (hL : ∀ p ∈ L,∃ Ca,X.mg p.1 = some (.ref Ca) ∧ PySem.W.exmOne X.K (.ref Ca) cv = some p.2)
   (hbody : ∀ (W : WX) (pn : List (Addr × Obj)) (xe : Value → Shared → Prop),Takes (X.tr pn xe) W → VSsx (X.tr pn xe) (fun σ cls d H=>W cls d σ H) body fb)
   (hsuite : ∀ (a : Addr) (oe : Obj) (cls : Value) (d : Option Addr) (pn : List (Addr × Obj)) (c : Str) (fs : List (Str × D)),Zc cls d oe → (∃ vs,oe.data = Data.fields vs) → PSs (X.suite a ((a,oe) :: pn)) (b0 :: suite) (tVSX X.K X.mgw ⟨i,a,cls,d,c,fs⟩ (fh c fs))) :
   VS X E (.Try body [.ExceptHandler (some (.Name x np)) (some n) (b0 :: suite) pos'] [] [] pos) (sTryAs i L fb fh):=by
 refine weakS (ps_try_as (tb:=fun W=>tVSx X.K X.mgw (fun σ cls d H=>W cls d σ H) fb) (ts:=fun a cls d De σ H=>∃ c fs,tVSX X.K X.mgw ⟨i,a,cls,d,c,fs⟩ (fh c fs) De σ H) h1 h2 h3 h4 h5 h6 tk
   (fun W pn xe tk' _=>hbody W pn xe tk') fun a oe cls d pn hz hf=>⟨fun pins s σ H De I q=>?_⟩) fun De σ H hh=>?_
 · obtain ⟨c,fs,q⟩:=q
   exact (hsuite a oe cls d pn c fs hz hf).run pins s σ H De I q
 obtain ⟨β,env,st,he,hs,h⟩:=hh
 refine ⟨β,env,st,he,hs,?_⟩
 unfold sTryAs at h
 cases o : fb env st with
 | nx e s=>rw [o] at h; exact h
 | rt d s=>rw [o] at h; exact h
 | bk e s=>rw [o] at h; exact h
 | ct e s=>rw [o] at h; exact h
 | bad=>rw [o] at h; exact h
 | exc c fs st1 =>
   rw [o] at h
   dsimp only [Fl.catch] at h
   intro β' H' cls d x1 s1 xr
   obtain ⟨Ca,dx,vs,rfl,gC,rfl,q4,q5,q6⟩:=xr
   cases lk : L.lookup c with
   | none=>rw [lk] at h; exact h.elim
   | some b =>
     rw [lk] at h
     have hm : (c,b) ∈ L:=by
       clear h hL
       induction L with
       | nil=>cases lk
       | cons p L ih =>
         rw [show p :: L = (p.1,p.2) :: L from rfl,List.lookup_cons] at lk
         split at lk
         · rename_i e
           cases lk
           rw [beq_iff_eq.mp e]
           exact List.mem_cons_self
         · exact List.mem_cons_of_mem _ (ih lk)
     obtain ⟨Ca2,g2,ex⟩:=hL _ hm
     obtain rfl : Ca = Ca2:=by
       have gC : X.mg c = _:=gC
       have g2 : X.mg c = _:=g2
       rw [gC] at g2
       cases g2
       rfl
     refine ⟨b,ex,fun e a na=>?_,fun e=>?_⟩
     · subst e
       dsimp only at h
       have il : i < env.length:=by
         by_cases il : i < env.length
         · exact il
         · rw [if_neg il] at h; exact h.elim
       rw [if_pos il] at h
       have he2 : EnvR X.K H' β' (env.set i none) (σ.set i (some (.ref a))):=by
         refine ⟨by rw [List.length_set,List.length_set]; exact he.len,fun j dd hj=>?_⟩
         by_cases ij : j = i
         · subst ij
           by_cases hl : j < env.length
           · rw [List.getElem?_set_self hl] at hj; cases hj
           · rw [List.getElem?_eq_none (by rw [List.length_set]; omega)] at hj; cases hj
         · rw [List.getElem?_set_ne (Ne.symm ij)] at hj
           obtain ⟨u,e1,e2⟩:=(he.ext x1).get j dd hj
           exact ⟨u,by rw [List.getElem?_set_ne (Ne.symm ij)]; exact e1,e2⟩
       have sl : i < σ.length:=by rw [← he.len]; exact il
       refine ⟨c,fs,β',env.set i none,st1,he2,s1,⟨List.getElem?_set_self sl,Ca,dx,vs,rfl,gC,rfl,q4,q5,q6⟩,?_⟩
       have h:=PostS.ext x1 h
       have kl : ∀ {β2 : Bt} {H2 : Hp} {env2 : En} {σ2 : L2.St},EnvR X.K H2 β2 env2 σ2 → EnvR X.K H2 β2 (killE [i] env2) (σ2.set i none):=fun {β2 H2 env2 σ2} q=>by
         refine ⟨by rw [killE,killE,List.length_set,List.length_set]; exact q.len,fun j dd hj=>?_⟩
         rw [killE,killE] at hj
         by_cases ij : j = i
         · subst ij
           by_cases hl : j < env2.length
           · rw [List.getElem?_set_self hl] at hj; cases hj
           · rw [List.getElem?_eq_none (by rw [List.length_set]; omega)] at hj; cases hj
         · rw [List.getElem?_set_ne (Ne.symm ij)] at hj
           obtain ⟨u,e1,e2⟩:=q.get j dd hj
           exact ⟨u,by rw [List.getElem?_set_ne (Ne.symm ij)]; exact e1,e2⟩
       cases o2 : fh c fs (env.set i none) st1 with
       | nx e s=>rw [o2] at h; exact fun β2 H2 σ2 x2 s2 e2=>h β2 H2 _ x2 s2 (kl e2)
       | bk e s=>rw [o2] at h; exact fun β2 H2 σ2 x2 s2 e2=>h β2 H2 _ x2 s2 (kl e2)
       | ct e s=>rw [o2] at h; exact fun β2 H2 σ2 x2 s2 e2=>h β2 H2 _ x2 s2 (kl e2)
       | rt d s=>rw [o2] at h; exact h
       | exc _ _ _=>rw [o2] at h; exact h.elim
       | bad=>rw [o2] at h; exact h.elim
     · subst e
       dsimp only at h
       exact h β' H' (.ref Ca) (some dx) x1 s1 ⟨Ca,dx,vs,rfl,gC,rfl,q4,q5,q6⟩
theorem isa_mem {c : Str} {b : Bool} : ∀ {L : Isa},L.lookup c = some b → (c,b) ∈ L
 | [],h=>by cases h
 | p :: L,h=>by
   rw [show p :: L = (p.1,p.2) :: L from rfl,List.lookup_cons] at h
   split at h
   · rename_i e
     cases h
     rw [beq_iff_eq.mp e]
     exact List.mem_cons_self
   · exact List.mem_cons_of_mem _ (isa_mem h)
end
section
variable {X : Cx} {z : Zi}
abbrev VEX (X : Cx) (z : Zi) (e : Expr) (f : En → AS → Out D) : Prop:=PE X e (tGX X.K X.mgw z (rD X.K) f)
abbrev VTX (X : Cx) (z : Zi) (e : Expr) (f : En → AS → Out Bool) : Prop:=PT X e (tGX X.K X.mgw z rB f)
abbrev VWX (X : Cx) (z : Zi) (e : Expr) (f : En → AS → Out Bool) : Prop:=PW X e (tGX X.K X.mgw z rB f)
abbrev VAX (X : Cx) (z : Zi) (es : List Expr) (f : En → AS → Out (List D)) : Prop:=PA X es (tGX X.K X.mgw z (rDs X.K) f)
abbrev VSX (X : Cx) (z : Zi) (s : Stmt) (f : En → AS → Fl) : Prop:=PS X s (tVSX X.K X.mgw z f)
abbrev VSsX (X : Cx) (z : Zi) (s : List Stmt) (f : En → AS → Fl) : Prop:=PSs X s (tVSX X.K X.mgw z f)
theorem tGX_bind {α ρ γ τ : Type} {K : PySem.W.Frag} {mg : MG} {R : Hp → Bt → α → ρ → Prop} {R' : Hp → Bt → γ → τ → Prop} {β : Bt} {H : Hp} {Q : τ → Hp → Prop} {Q' : ρ → Hp → Prop}
   {f : En → AS → Out α} {k : α → AS → Out γ} {env : En} {st : AS} {σ : L2.St} (he : EnvR K H β env σ) (hs : Sim K mg β st H) (hz : ZiOk K mg z β σ H) (h : Post K mg R' E0 β H Q ((f env st).bind k))
   (hk : ∀ a st1 β1 H1 u,Ext β H β1 H1 → Sim K mg β1 st1 H1 → EnvR K H1 β1 env σ → ZiOk K mg z β1 σ H1 → R H1 β1 a u → Post K mg R' E0 β1 H1 Q (k a st1) → Q' u H1) : tGX K mg z R f σ H Q':=by
 refine ⟨β,env,st,he,hs,hz,?_⟩
 cases e : f env st with
 | ok a st1 =>
   rw [e] at h
   exact fun β1 H1 u x s r=>hk a st1 β1 H1 u x s (he.ext x) (hz.ext x) r (Post.ext x h)
 | exc c fs st1 =>
   rw [e] at h
   exact h
 | bad =>
   rw [e] at h
   exact h
theorem flX_bind {α ρ : Type} {K : PySem.W.Frag} {mg : MG} {R : Hp → Bt → α → ρ → Prop} {Q' : ρ → Hp → Prop} {f : En → AS → Out α} {k : α → AS → Fl} {β : Bt} {H : Hp} {De : Ends} {env : En} {st : AS} {σ : L2.St} (he : EnvR K H β env σ) (hs : Sim K mg β st H) (hz : ZiOk K mg z β σ H) (h : PostS K mg E0 β H De ((f env st).fl k))
   (hk : ∀ a st1 β1 H1 u,Ext β H β1 H1 → Sim K mg β1 st1 H1 → EnvR K H1 β1 env σ → ZiOk K mg z β1 σ H1 → R H1 β1 a u → PostS K mg E0 β1 H1 De (k a st1) → Q' u H1) : tGX K mg z R f σ H Q' :=
 ⟨β,env,st,he,hs,hz,fl_post h fun a st1 β1 H1 u x s1 r q=>hk a st1 β1 H1 u x s1 (he.ext x) (hz.ext x) r q⟩
variable {e a b : Expr} {es : List Expr} {rest : List Expr} {s : Stmt} {ss : List Stmt} {fe fa fb : En → AS → Out D} {fs : En → AS → Out (List D)} {ga gb : En → AS → Out Bool} {f g : En → AS → Fl} {pos : Pos}
theorem vxe_of (h : VE X E0 e fe) : VEX X z e fe:=weakE h fun σ H Q ⟨β,env,st,he,hs,_,h⟩=>⟨β,env,st,he,hs,h⟩
theorem vxss_of (h : VSs X E0 ss f) : VSsX X z ss f:=weakSs h fun De σ H ⟨β,env,st,he,hs,_,h⟩=>⟨β,env,st,he,hs,h⟩
theorem vxa_nil : VAX X z [] vNil:=weakA pa_nil fun σ H Q ⟨β,env,st,he,hs,_,h⟩=>h β H [] (Ext.refl _ _) hs .nil
theorem vxa_cons (ha : VEX X z e fe) (hr : VAX X z es fs) (hs : starEach (e :: es) X.env = (false,eval e X.env) :: starEach es X.env:=by rfl) : VAX X z (e :: es) (vCons fe fs):=by
 refine weakA (pa_cons ha hr hs) fun σ H Q ⟨β,env,st,he,hs,hz,h⟩=>?_
 refine tGX_bind he hs hz h fun a st1 β1 H1 u x1 s1 e1 z1 r1 h1=>?_
 refine tGX_bind e1 s1 z1 h1 fun as st2 β2 H2 us x2 s2 e2 z2 r2 h2=>?_
 exact h2 β2 H2 _ (Ext.refl _ _) s2 (.cons (r1.ext x2) r2)
theorem vxe_tup {x1} (h : VAX X z es fs) : VEX X z (.Tuple es x1 pos) (vA gTup fs):=by
 refine weakE (pe_tup h) fun σ H Q ⟨β,env,st,he,hs,hz,h⟩=>?_
 refine tGX_bind he hs hz h fun ds st1 β1 H1 us x1 s1 e1 z1 r1 h1=>?_
 obtain ⟨hl,h2⟩:=h1.ite
 exact ⟨by rw [r1.length]; exact hl,new_tup h2 s1 r1⟩
theorem vxw_and1 (ha : VTX X z a ga) : VWX X z (.BoolOp .And [a] pos) ga:=pw_and1 ha
theorem vxw_and (ha : VTX X z a ga) (hb : VWX X z (.BoolOp .And (b :: rest) pos) gb) : VWX X z (.BoolOp .And (a :: b :: rest) pos) (vAnd ga gb):=by
 refine weakW (pw_and ha hb) fun σ H Q ⟨β,env,st,he,hs,hz,h⟩=>?_
 refine tGX_bind he hs hz h fun x st1 β1 H1 u x1 s1 e1 z1 r1 h1=>?_
 obtain rfl : x = u:=r1
 cases x with
 | true=>exact ⟨β1,env,st1,e1,s1,z1,h1⟩
 | false=>exact h1.here s1 rfl
theorem vxt_not (ha : VTX X z a ga) : VTX X z (.UnaryOp .Not a pos) (vNot ga):=by
 refine weakT (pt_not ha) fun σ H Q ⟨β,env,st,he,hs,hz,h⟩=>?_
 refine tGX_bind he hs hz h fun x st1 β1 H1 u x1 s1 e1 z1 r1 h1=>?_
 obtain rfl : x = u:=r1
 exact h1.here s1 rfl
theorem vxt_val {e : Expr} (h : VEX X z e fa) (he : ∀ whole,isTrue e X.env whole = (do let v ← whole; standAt e.pos; holding [v] (truthy v)):=by intro _; rfl) : VTX X z e (v1 truD fa):=by
 refine weakT (pt_truth h (he)) fun σ H Q ⟨β,env,st,he,hs,hz,h⟩=>?_
 exact tGX_bind he hs hz h fun x st1 β1 H1 u x1 s1 e1 z1 r1 h1=>truD_ok s1 r1 h1
theorem vxs_ret (he : VEX X z e fe) : VSX X z (.Return (some e) pos) (sRet fe) :=
 weakS (ps_ret he) fun De σ H ⟨β,env,st,he,hs,hz,h⟩=>flX_bind he hs hz h fun a st1 β1 H1 u x s1 e1 z1 r1 h1=>h1 β1 H1 u (Ext.refl _ _) s1 r1
theorem vxs_if {c : Expr} {a b : List Stmt} {fc : En → AS → Out Bool} (hc : VTX X z c fc) (ha : VSsX X z a f) (hb : VSsX X z b g) : VSX X z (.If c a b pos) (sIf fc f g) :=
 weakS (ps_if hc ha hb) fun De σ H ⟨β,env,st,he,hs,hz,h⟩=>flX_bind he hs hz h fun k st1 β1 H1 u x s1 e1 z1 r1 h1=>by
   obtain rfl : k = u:=r1
   cases k with
   | true=>exact ⟨β1,env,st1,e1,s1,z1,h1⟩
   | false=>exact ⟨β1,env,st1,e1,s1,z1,h1⟩
theorem vxss_one (h : VSX X z s f) : VSsX X z [s] f:=pss_one h
theorem vxss_expr (he : VE X E0 e fe) (hr : VSsX X z ss g) (hs : swapsWith e none pos.line X.env = pure false:=by rfl) : VSsX X z (.Expr e pos :: ss) (sSeq (sExpr fe) g):=by
 refine weakSs (pss_cons (ps_expr (vxe_of (z:=z) he) hs) hr) fun De σ H ⟨β,env,st,he,hs,hz,h⟩=>?_
 have h : PostS X.K X.mgw E0 β H De ((fe env st).fl fun _ st=>g env st):=by
   have e : sSeq (sExpr fe) g env st = (fe env st).fl fun _ st=>g env st:=by
     simp only [sSeq,sExpr]
     cases fe env st <;> rfl
   rw [← e]
   exact h
 exact flX_bind he hs hz h fun a st1 β1 H1 u x s1 e1 z1 r1 h1=>⟨β1,env,st1,e1,s1,z1,h1⟩
end
theorem repf_get {K : PySem.W.Frag} {H : Hp} {β : Bt} {f : Str} {d : D} : ∀ {fs : List (Str × D)} {vs : List (Str × V)},RepF K H β fs vs → fs.lookup f = some d → ∃ v,vs.lookup f = some v ∧ Rep K H β d v
 | [],vs,_,h=>by cases h
 | p :: fs,[],h,_=>by
   have:=h.1
   cases this
 | p :: fs,q :: vs,h,e=>by
   obtain ⟨h1,h2⟩:=h
   rw [List.map_cons,List.map_cons] at h1 h2
   injection h1 with h1 h3
   cases h2 with
   | cons r t =>
     rw [show p :: fs = (p.1,p.2) :: fs from rfl,List.lookup_cons] at e
     rw [show q :: vs = (q.1,q.2) :: vs from rfl,List.lookup_cons,← h1]
     split at e
     · cases e
       exact ⟨_,rfl,r⟩
     · exact repf_get ⟨h3,t⟩ e
section
variable {X : Cx} {z : Zi} {oe : Obj} {pn : List (Addr × Obj)} {n f : Str} {eT : Expr} {v : V} {cv : Value} {p pos : Pos}
/-- e.f -/
@[simp] def xFld (Lc : List Str) (c : Str) (fs : List (Str × D)) (f : Str) (_ : En) (st : AS) : Out D:=if c ∈ Lc then (match fs.lookup f with
 | some d=>.ok d st
 | none=>.bad) else .bad
/-- isinstance(e,C) -/
@[simp] def xIs (L : Isa) (c : Str) (_ : En) (st : AS) : Out D:=match L.lookup c with
 | some b=>.ok (.bl b) st
 | none=>.bad
theorem vxe_fld {Lc : List Str} (hz : Zc z.cls z.d oe) (hf : ∃ vs, oe.data = Data.fields vs) (hc : ∀ c ∈ Lc, ∃ Ca, X.mg c = some (.ref Ca) ∧ XfC X.K Ca ∧ PySem.W.findIn X.K (.ref Ca) f = some none)
   (hi : X.N[z.i]? = some n) (hv : Vis X.env.scope n) (hd : (n == ("__debug__" : Str)) = false:=by decide) (hcd : (n == ("__classdict__" : Str)) = false:=by decide)
   (hb : attributeBase (.Name n p) f (X.suite z.a ((z.a,oe) :: pn)).env (eval (.Name n p) (X.suite z.a ((z.a,oe) :: pn)).env) = eval (.Name n p) (X.suite z.a ((z.a,oe) :: pn)).env:=by rfl) :
   VEX (X.suite z.a ((z.a,oe) :: pn)) z (.Attribute (.Name n p) f pos) (xFld Lc z.c z.fs f):=by
 by_cases hm : z.c ∈ Lc
 · obtain ⟨Ca,g,T,no⟩:=hc _ hm
   refine weakE (pe_xf T no hz hf (pe_var (i:=z.i) hi hv hd hcd) hb) fun σ H Q ⟨β,env,st,he,hs,⟨h1,Ca2,dx,vs,k1,k2,k3,k4,k5,k6⟩,h⟩=>?_
   have g2 : X.mg z.c = some (.ref Ca2):=k2
   rw [g] at g2
   cases g2
   unfold xFld at h
   rw [if_pos hm] at h
   cases e : z.fs.lookup f with
   | none=>rw [e] at h; exact h.elim
   | some d =>
     rw [e] at h
     obtain ⟨v,l,r⟩:=repf_get k6 e
     exact ⟨_,h1,rfl,k1,dx,vs,v,k3,k5,l,h β H v (Ext.refl _ _) hs r⟩
 · refine ⟨fun pins s σ H Q I ⟨β,env,st,he,hs,_,h⟩=>?_⟩
   unfold xFld at h
   rw [if_neg hm] at h
   exact h.elim
theorem never_is {K : PySem.W.Frag} {mg : MG} {L : Isa} (hn : L.lookup z.c = none) {σ : L2.St} {H : Hp} {Q : VK} (h : tGX K mg z (rD K) (xIs L z.c) σ H Q) : False:=by
 obtain ⟨β,env,st,he,hs,_,h⟩:=h
 unfold xIs at h
 rw [hn] at h
 exact h
theorem vxe_is {L : Isa} (hz : Zc z.cls z.d oe) (hf : ∃ vs, oe.data = Data.fields vs) (kc : ClsV v cv) (hT : PE (X.suite z.a ((z.a, oe) :: pn)) eT (tC v)) (hc : ∀ q ∈ L, ∃ Ca, X.mg q.1 = some (.ref Ca) ∧ IsC X.K Ca ∧ PySem.W.kitOne X.K (.ref Ca) cv = some q.2)
   (hg : Gl X "isinstance") (hm : X.mg "isinstance" = none) (hi : X.N[z.i]? = some n) (hv : Vis X.env.scope n) (hd : (n == ("__debug__" : Str)) = false:=by decide) (hcd : (n == ("__classdict__" : Str)) = false:=by decide)
   (s1 : starEach [.Name n p,eT] X.env = (false,eval (.Name n p) X.env) :: starEach [eT] X.env:=by rfl) (s2 : starEach [eT] X.env = (false,eval eT X.env) :: starEach [] X.env:=by rfl) {pf : Pos} (hpl : (backTo pos (starEach [eT] X.env)).any (·.1) = false:=by rfl) :
   VEX (X.suite z.a ((z.a,oe) :: pn)) z (.Call (.Name "isinstance" pf) [.Name n p,eT] [] pos) (xIs L z.c):=by
 cases e : L.lookup z.c with
 | none=>exact ⟨fun pins s σ H Q I h=>(never_is e h).elim⟩
 | some b =>
   obtain ⟨Ca,g,T,ko⟩:=hc _ (isa_mem e)
   refine weakE (pe_callB (call_isX hz hf) (show Gl (X.suite z.a ((z.a,oe) :: pn)) "isinstance" from hg) hm (by decide +kernel) (pa_cons (pe_var (i:=z.i) hi hv hd hcd) (pa_cons hT pa_nil s2) s1) (by decide) (by decide) s1 hpl) fun σ H Q ⟨β,env,st,he,hs,⟨h1,Ca2,dx,vs,k1,k2,k3,k4,k5,k6⟩,h⟩=>?_
   have g2 : X.mg z.c = some (.ref Ca2):=k2
   rw [g] at g2
   cases g2
   unfold xIs at h
   rw [e] at h
   exact ⟨_,h1,Ca,dx,vs,v,cv,b,rfl,k1,k3,k5,T,kc,ko,h.here hs (.bl b)⟩
/-- isinstance(e,(C,..)) -/
theorem vxe_isT {L : Isa} {tT : TE} {cs : List V} {us : List Value} (hz : Zc z.cls z.d oe) (hf : ∃ vs, oe.data = Data.fields vs) (kc : Paired ClsV cs us) (hT : PE (X.suite z.a ((z.a, oe) :: pn)) eT tT)
   (hw : ∀ σ H (Q : VK),(∀ tp,H tp = none → Q (.ref tp) (upd H tp (.tup cs))) → tT σ H Q) (hc : ∀ q ∈ L,∃ Ca,X.mg q.1 = some (.ref Ca) ∧ IsC X.K Ca ∧ PySem.W.kitAny X.K (.ref Ca) us = some q.2)
   (hg : Gl X "isinstance") (hm : X.mg "isinstance" = none) (hi : X.N[z.i]? = some n) (hv : Vis X.env.scope n) (hd : (n == ("__debug__" : Str)) = false:=by decide) (hcd : (n == ("__classdict__" : Str)) = false:=by decide)
   (s1 : starEach [.Name n p,eT] X.env = (false,eval (.Name n p) X.env) :: starEach [eT] X.env:=by rfl) (s2 : starEach [eT] X.env = (false,eval eT X.env) :: starEach [] X.env:=by rfl) {pf : Pos} (hpl : (backTo pos (starEach [eT] X.env)).any (·.1) = false:=by rfl) :
   VEX (X.suite z.a ((z.a,oe) :: pn)) z (.Call (.Name "isinstance" pf) [.Name n p,eT] [] pos) (xIs L z.c):=by
 cases e : L.lookup z.c with
 | none=>exact ⟨fun pins s σ H Q I h=>(never_is e h).elim⟩
 | some b =>
   obtain ⟨Ca,g,T,ko⟩:=hc _ (isa_mem e)
   refine weakE (pe_callB (call_isXT hz hf) (show Gl (X.suite z.a ((z.a,oe) :: pn)) "isinstance" from hg) hm (by decide +kernel) (pa_cons (pe_var (i:=z.i) hi hv hd hcd) (pa_cons hT pa_nil s2) s1) (by decide) (by decide) s1 hpl) fun σ H Q ⟨β,env,st,he,hs,⟨h1,Ca2,dx,vs,k1,k2,k3,k4,k5,k6⟩,h⟩=>?_
   have g2 : X.mg z.c = some (.ref Ca2):=k2
   rw [g] at g2
   cases g2
   unfold xIs at h
   rw [e] at h
   refine ⟨_,h1,hw _ _ _ fun tp nt=>?_⟩
   have sm:=same_upd (o:=.tup cs) nt
   exact ⟨Ca,dx,tp,vs,cs,us,b,rfl,k1,k3,sm _ _ k5,T,upd_same,kc,ko,h β _ _ (Ext.same sm) (hs.same sm) (.bl b)⟩
end
end VL
namespace G
open PySem VL
noncomputable def B_menu_row : En → AS → Fl :=
   (sSeq (sFor (v1 itD (vVar 0)) (kName 2) (sKill [2] (sIf (vB (v2 (eqD false) (v2 ixD (vVar 2) (vC (.int 0))) (vVar 1))) (sRet (vVar 2)) sNext)))
   (sRaise1 "NoItem" "item" (vVar 1)))
noncomputable def F_menu_row : List D → AS → Out D:=vFn 3 0 B_menu_row
noncomputable def B_price : En → AS → Fl :=
   (sSeq (sSet 3 (v2 ixD (vCallA 2 0 [] [.pos 0,.pos 1] F_menu_row (vCons (vVar 0) (vCons (vVar 1) vNil)) vNil) (vC (.int 2))))
   (sRet (v2 ixD (vLc false [4,5] (v1 itD (vVar 3)) (kTup 2 (kCons (kName 4) (kCons (kName 5) kNil))) (vB (v2 leD (vVar 4) (vVar 2))) (vVar 5)) (v1 negD (vC (.int 1))))))
noncomputable def F_price : List D → AS → Out D:=vFn 6 0 B_price
noncomputable def B_minutes_of : En → AS → Fl :=
   (sRet (v2 ixD (vCallA 2 0 [] [.pos 0,.pos 1] F_menu_row (vCons (vVar 0) (vCons (vVar 1) vNil)) vNil) (vC (.int 1))))
noncomputable def F_minutes_of : List D → AS → Out D:=vFn 2 0 B_minutes_of
end G
namespace Kd
open PySem VL TB G
/-- what is small enough to be looked at -/
structure Ok (m k j : Nat) (d : D) : Prop where
 p : pln d = true
 f : Fit m k j d.py
theorem ats_str {j : Nat} {x : Str} (h : Ats j (.str x)) : asc x ∧ x.length ≤ 20 + j:=by
 simpa [Ats] using h
def risWD (d : D) : Bool:=match d with
 | .tup ds=>ds.all wordD && risS ds
 | _=>false
def offD (d : D) : Bool:=match d with
 | .tup [a,.int i,.int j,.int p]=>risWD a && (decide (0 ≤ i) && decide (0 ≤ j) && decide (0 ≤ p) && decide (p ≤ 100))
 | _=>false
end Kd
namespace Kd
open PySem VL TB G
end Kd
namespace Kd
open PySem VL TB G
theorem pys_map (ds : List D) : D.pys ds = ds.map D.py:=D.pys_eq ds
theorem Ok.mem {m k j : Nat} {ds : List D} (h : Ok m (k + 1) j (.tup ds)) : ∀ x ∈ ds,Ok m k j x:=fun x hx=>by
 have hp:=h.p
 rw [pln,plns_eq,List.all_eq_true] at hp
 have hf:=h.f
 rw [D.py,pys_map] at hf
 exact ⟨hp x hx,hf.mem (List.mem_map_of_mem hx)⟩
theorem Ok.fit {m k j : Nat} {d : D} (h : Ok m k j d) (hj : j ≤ 100) (hk : k ≤ 60) : d.fit = true:=by
 unfold D.fit
 rw [pln_pure h.p,h.f.shaped hj hk]
 rfl
end Kd
namespace G
open PySem VL
noncomputable def B__law_prices_33c9 : En → AS → Fl :=
   (sSeq (sPar 1 2 (vCons (vA (gLst true) vNil) (vCons (vC (.int 0)) vNil)))
   (sSeq (sFor (vA rng1 (vCons (v2 (addD false) (vC (.int 1)) (vCallA 2 0 [] [.pos 0,.pos 1] F__law_draw_ed7e (vCons (vVar 0) (vCons (vC (.int 4)) vNil)) vNil)) vNil)) (kName 3) (sKill [3,4] (sSeq (sSet 4 (vA gTup (vCons (vC (.int 0)) (vCons (vC (.int 1)) (vCons (vCallA 2 0 [] [.pos 0,.pos 1] F__law_draw_ed7e (vCons (vVar 0) (vCons (vC (.int 100)) vNil)) vNil) (vCons (v2 subD (vC (.int 100000)) (vCallA 2 0 [] [.pos 0,.pos 1] F__law_draw_ed7e (vCons (vVar 0) (vCons (vC (.int 3)) vNil)) vNil)) (vCons (vCallA 2 0 [] [.pos 0,.pos 1] F__law_draw_ed7e (vCons (vVar 0) (vCons (vC (.int 100001)) vNil)) vNil) vNil)))))))
   (sSeq (sExpr (vML appD (vVar 1) (vCons (vA gTup (vCons (vVar 2) (vCons (v2 ixD (vVar 4) (vCallA 2 0 [] [.pos 0,.pos 1] F__law_draw_ed7e (vCons (vVar 0) (vCons (vC (.int 5)) vNil)) vNil)) vNil))) vNil)))
   (sAug 2 (iiD fun a b=>.int (a + b)) (v2 (addD false) (vC (.int 1)) (v2 ixD (vA gTup (vCons (vC (.int 0)) (vCons (vCallA 2 0 [] [.pos 0,.pos 1] F__law_draw_ed7e (vCons (vVar 0) (vCons (vC (.int 90)) vNil)) vNil) (vCons (vCallA 2 0 [] [.pos 0,.pos 1] F__law_draw_ed7e (vCons (vVar 0) (vCons (vC (.int 30000)) vNil)) vNil) vNil)))) (vCallA 2 0 [] [.pos 0,.pos 1] F__law_draw_ed7e (vCons (vVar 0) (vCons (vC (.int 3)) vNil)) vNil))))))))
   (sRet (vA (g1 tupD) (vCons (vVar 1) vNil)))))
noncomputable def F__law_prices_33c9 : List D → AS → Out D:=vFn 5 0 B__law_prices_33c9
noncomputable def B__law_menu_3a71 : En → AS → Fl :=
   (sSeq (sSet 2 (vA (gLst true) vNil))
   (sSeq (sFor (vA rng1 (vCons (vVar 1) vNil)) (kName 3) (sKill [3] (sExpr (vML appD (vVar 2) (vCons (vCallA 2 0 [] [.pos 0,.pos 1] F__law_word_8a86 (vCons (vVar 0) (vCons (vVar 2) vNil)) vNil) vNil)))))
   (sRet (vA (g1 tupD) (vCons (vLc false [4] (v1 itD (vA (g1 (sortD false)) (vCons (vVar 2) vNil))) (kName 4) tYesV (vA gTup (vCons (vVar 4) (vCons (vCallA 2 0 [] [.pos 0,.pos 1] F__law_draw_ed7e (vCons (vVar 0) (vCons (vC (.int 61)) vNil)) vNil) (vCons (vCallA 1 0 [] [.pos 0] F__law_prices_33c9 (vCons (vVar 0) vNil) vNil) vNil))))) vNil)))))
noncomputable def F__law_menu_3a71 : List D → AS → Out D:=vFn 5 0 B__law_menu_3a71
end G
namespace Kd
open PySem VL TB G
theorem eqv_lst_nil (ds : List D) : eqvD (.lst ds) (.lst []) = decide (ds = []):=by
 unfold eqvD
 rw [D.py,D.py]
 cases ds with
 | nil=>simp [D.pys,PyData.eqv,PyData.eqvAll]
 | cons n r=>simp [D.pys,PyData.eqv,PyData.eqvAll]
end Kd
namespace Kd
open PySem VL TB G
/-- strictly rising -/
def ris : List Str → Bool
 | x :: y :: r=>ltStr x y && ris (y :: r)
 | _=>true
theorem risS_map : ∀ xs : List Str,risS (xs.map D.str) = ris xs
 | []=>by simp [risS,ris]
 | [x]=>by simp [risS,ris]
 | x :: y :: r=>by
   have ih:=risS_map (y :: r)
   simp only [List.map_cons] at ih ⊢
   simp only [risS,ris,ih]
theorem ltStr_trans {a b c : Str} (h1 : ltStr a b = true) (h2 : ltStr b c = true) : ltStr a c = true:=by
 unfold ltStr at *
 rw [decide_eq_true_eq] at *
 exact List.lt_trans h1 h2
theorem ltStr_irrefl (a : Str) : ltStr a a = false:=by
 unfold ltStr
 rw [decide_eq_false_iff_not]
 exact List.lt_irrefl _
theorem ris_pw : ∀ {xs : List Str},ris xs = true → xs.Pairwise fun a b=>ltStr a b = true
 | [],_=>List.Pairwise.nil
 | [x],_=>List.pairwise_singleton _ _
 | x :: y :: r,h=>by
   simp only [ris,Bool.and_eq_true] at h
   have ih:=ris_pw h.2
   refine List.pairwise_cons.mpr ⟨fun z hz=>?_,ih⟩
   rcases List.mem_cons.mp hz with e | e
   · rw [e]; exact h.1
   · exact ltStr_trans h.1 ((List.pairwise_cons.mp ih).1 z e)
theorem pw_ris : ∀ {xs : List Str},(xs.Pairwise fun a b=>ltStr a b = true) → ris xs = true
 | [],_=>by simp [ris]
 | [x],_=>by simp [ris]
 | x :: y :: r,h=>by
   obtain ⟨h1,h2⟩:=List.pairwise_cons.mp h
   simp only [ris,Bool.and_eq_true]
   exact ⟨h1 y List.mem_cons_self,pw_ris h2⟩
theorem le_ne {a b : Str} (h : leStr a b = true) (n : a ≠ b) : ltStr a b = true:=by
 unfold ltStr
 rw [decide_eq_true_eq]
 rw [leStr_iff] at h
 apply Classical.byContradiction
 intro z
 exact n (str_ext (List.le_antisymm (List.not_lt.mp h) (List.not_lt.mp z)))
end Kd
namespace K02
def Lt (c : Nat) : Prop:=97 ≤ c ∧ c ≤ 122
/-- the next word of as many letters,written backwards -/
def incR : List Nat → List Nat
 | []=>[]
 | [c]=>[if c = 122 then 97 else c + 1]
 | c :: d :: r=>if c = 122 then 97 :: incR (d :: r) else (c + 1) :: d :: r
def aft (cs : List Nat) : List Nat:=if cs.length < 8 then cs ++ [97] else (incR cs.reverse).reverse
def valR : List Nat → Nat
 | []=>0
 | c :: r=>(c - 97) + 26 * valR r
theorem incR_len : ∀ l : List Nat,(incR l).length = l.length
 | []=>rfl
 | [c]=>rfl
 | c :: d :: r=>by
   unfold incR
   by_cases h : c = 122
   · rw [if_pos h,List.length_cons,incR_len (d :: r)]
     rfl
   · rw [if_neg h]
     rfl
theorem incR_lt : ∀ {l : List Nat},(∀ c ∈ l,Lt c) → ∀ c ∈ incR l,Lt c
 | [],_,c,h=>by cases h
 | [c],hl,x,hx=>by
   unfold incR at hx
   have hc:=hl c List.mem_cons_self
   unfold Lt at *
   rw [List.mem_singleton.mp hx]
   by_cases h : c = 122
   · rw [if_pos h]
     omega
   · rw [if_neg h]
     omega
 | c :: d :: r,hl,x,hx=>by
   unfold incR at hx
   have hc:=hl c List.mem_cons_self
   by_cases h : c = 122
   · rw [if_pos h] at hx
     rcases List.mem_cons.mp hx with rfl | hx
     · exact ⟨by omega,by omega⟩
     · exact incR_lt (fun y hy=>hl y (List.mem_cons_of_mem _ hy)) x hx
   · rw [if_neg h] at hx
     rcases List.mem_cons.mp hx with rfl | hx
     · unfold Lt at *
       omega
     · exact hl x (List.mem_cons_of_mem _ hx)
theorem valR_lt : ∀ {l : List Nat},(∀ c ∈ l,Lt c) → valR l < 26 ^ l.length
 | [],_=>by decide
 | c :: r,h=>by
   have hc:=h c List.mem_cons_self
   have hr:=valR_lt fun y hy=>h y (List.mem_cons_of_mem _ hy)
   unfold Lt at hc
   rw [List.length_cons,Nat.pow_succ]
   show c - 97 + 26 * valR r < _
   omega
/-- one more,or all the way round -/
theorem valR_inc : ∀ {l : List Nat},l ≠ [] → (∀ c ∈ l,Lt c) → valR (incR l) = (valR l + 1) % 26 ^ l.length
 | [],h,_=>absurd rfl h
 | [c],_,h=>by
   have hc:=h c List.mem_cons_self
   unfold Lt at hc
   unfold incR
   by_cases z : c = 122
   · rw [if_pos z,z]
     rfl
   · rw [if_neg z]
     show c + 1 - 97 + 26 * 0 = (c - 97 + 26 * 0 + 1) % 26 ^ 1
     omega
 | c :: d :: r,_,h=>by
   have hc:=h c List.mem_cons_self
   have ht : ∀ y ∈ d :: r,Lt y:=fun y hy=>h y (List.mem_cons_of_mem _ hy)
   have vl:=valR_lt ht
   unfold Lt at hc
   unfold incR
   have e : 26 ^ (c :: d :: r).length = 26 * 26 ^ (d :: r).length:=by rw [List.length_cons,Nat.pow_succ,Nat.mul_comm]
   rw [e]
   by_cases z : c = 122
   · rw [if_pos z,z]
     show 97 - 97 + 26 * valR (incR (d :: r)) = (122 - 97 + 26 * valR (d :: r) + 1) % (26 * 26 ^ (d :: r).length)
     rw [valR_inc (by intro y; cases y) ht]
     have e2 : 122 - 97 + 26 * valR (d :: r) + 1 = 26 * (valR (d :: r) + 1):=by omega
     rw [e2,Nat.mul_mod_mul_left]
     omega
   · rw [if_neg z]
     show c + 1 - 97 + 26 * valR (d :: r) = (c - 97 + 26 * valR (d :: r) + 1) % (26 * 26 ^ (d :: r).length)
     generalize 26 ^ (d :: r).length = B at *
     rw [Nat.mod_eq_of_lt (by omega)]
     omega
/-- a word -/
structure Wd (cs : List Nat) : Prop where
 n0 : 0 < cs.length
 n1 : cs.length ≤ 8
 lt : ∀ c ∈ cs,Lt c
theorem Wd.aft {cs : List Nat} (h : Wd cs) : Wd (aft cs):=by
 unfold K02.aft
 by_cases c : cs.length < 8
 · rw [if_pos c]
   refine ⟨by rw [List.length_append]; exact Nat.lt_of_lt_of_le h.n0 (Nat.le_add_right _ _),by rw [List.length_append]; show _ + 1 ≤ 8; omega,fun x hx=>?_⟩
   rcases List.mem_append.mp hx with z | z
   · exact h.lt x z
   · rw [List.mem_singleton.mp z]
     exact ⟨by decide,by decide⟩
 · rw [if_neg c]
   refine ⟨by rw [List.length_reverse,incR_len,List.length_reverse]; exact h.n0,by rw [List.length_reverse,incR_len,List.length_reverse]; exact h.n1,fun x hx=>?_⟩
   exact incR_lt (fun y hy=>h.lt y (List.mem_reverse.mp hy)) x (List.mem_reverse.mp hx)
def it (cs : List Nat) : Nat → List Nat
 | 0=>cs
 | k + 1=>aft (it cs k)
theorem Wd.it {cs : List Nat} (h : Wd cs) : ∀ k,Wd (it cs k)
 | 0=>h
 | k + 1=>(Wd.it h k).aft
theorem aft_len {cs : List Nat} (h : Wd cs) : (aft cs).length = min 8 (cs.length + 1):=by
 have:=h.n1
 unfold aft
 by_cases c : cs.length < 8
 · rw [if_pos c,List.length_append]
   show _ + 1 = _
   omega
 · rw [if_neg c,List.length_reverse,incR_len,List.length_reverse]
   omega
theorem it_len {cs : List Nat} (h : Wd cs) : ∀ k,(it cs k).length = min 8 (cs.length + k)
 | 0=>by
   have:=h.n1
   show cs.length = _
   omega
 | k + 1=>by
   show (aft (it cs k)).length = _
   rw [aft_len (h.it k),it_len h k]
   omega
theorem aft_val {cs : List Nat} (h : Wd cs) (h8 : cs.length = 8) : valR (aft cs).reverse = (valR cs.reverse + 1) % 26 ^ 8:=by
 unfold aft
 rw [if_neg (by omega),List.reverse_reverse,valR_inc (fun z=>by
   have : cs.reverse.length = 0:=by rw [z]; rfl
   rw [List.length_reverse] at this
   omega) (fun y hy=>h.lt y (List.mem_reverse.mp hy)),List.length_reverse,h8]
theorem it_val {cs : List Nat} (h : Wd cs) {i : Nat} (h8 : (it cs i).length = 8) : ∀ k,valR (it cs (i + k)).reverse = (valR (it cs i).reverse + k) % 26 ^ 8
 | 0=>by
   have:=valR_lt (l:=(it cs i).reverse) fun y hy=>(h.it i).lt y (List.mem_reverse.mp hy)
   rw [List.length_reverse,h8] at this
   rw [Nat.add_zero,Nat.add_zero,Nat.mod_eq_of_lt this]
 | k + 1=>by
   have l8 : (it cs (i + k)).length = 8:=by
     rw [it_len h] at h8 ⊢
     omega
   show valR (aft (it cs (i + k))).reverse = _
   rw [aft_val (h.it _) l8,it_val h h8 k]
   omega
/-- of so few steps no two meet -/
theorem it_ne {cs : List Nat} (h : Wd cs) {i k : Nat} (hk : 0 < k) (h1 : k < 1000) : it cs i ≠ it cs (i + k):=fun e=>by
 have hl:=congrArg List.length e
 rw [it_len h,it_len h] at hl
 have l8 : (it cs i).length = 8:=by
   rw [it_len h]
   omega
 have v:=it_val h l8 k
 rw [← e] at v
 have b:=valR_lt (l:=(it cs i).reverse) fun y hy=>(h.it i).lt y (List.mem_reverse.mp hy)
 rw [List.length_reverse,l8] at b
 omega
theorem sub_len {α : Type} [DecidableEq α] : ∀ {l F : List α},l.Nodup → (∀ x ∈ l,x ∈ F) → l.length ≤ F.length
 | [],_,_,_=>Nat.zero_le _
 | x :: l,F,nd,h=>by
   have hx:=h x List.mem_cons_self
   obtain ⟨n1,n2⟩:=List.nodup_cons.mp nd
   have:=sub_len (F:=F.erase x) n2 fun y hy=>(List.mem_erase_of_ne (fun (z : y = x)=>n1 (z ▸ hy))).mpr (h y (List.mem_cons_of_mem _ hy))
   rw [List.length_erase_of_mem hx] at this
   have : 0 < F.length:=List.length_pos_of_mem hx
   rw [List.length_cons]
   omega
/-- not all of the first n are among fewer -/
theorem it_out {cs : List Nat} (h : Wd cs) {F : List (List Nat)} {n : Nat} (hn : F.length < n) (h1 : n < 1000) : ¬ ∀ k,k < n → it cs k ∈ F:=fun all=>by
 have nd : ((List.range n).map (it cs)).Nodup:=by
   refine List.pairwise_map.mpr ?_
   refine List.Pairwise.imp_of_mem ?_ (List.pairwise_lt_range (n:=n))
   intro a b ha hb hab e
   have:=List.mem_range.mp hb
   obtain ⟨k,rfl⟩ : ∃ k,b = a + k:=⟨b - a,by omega⟩
   exact it_ne h (by omega) (by omega) e
 have:=sub_len nd fun x hx=>by
   obtain ⟨k,hk,rfl⟩:=List.mem_map.mp hx
   exact all k (List.mem_range.mp hk)
 rw [List.length_map,List.length_range] at this
 omega
end K02
namespace Kd
open PySem VL TB G
mutual
theorem pure_low (n : Nat) : ∀ {d : D},d.pure = true → d.low n = true
 | .tup ds,h=>by rw [D.pure] at h; rw [D.low]; exact pures_low n h
 | .ctp ds,h=>by rw [D.pure] at h; rw [D.low]; exact pures_low n h
 | .lst ds,h=>by rw [D.pure] at h; rw [D.low]; exact pures_low n h
 | .fzl _,h=>by simp [D.pure] at h
 | .ref _,h=>by simp [D.pure] at h
 | .cv _,h=>by simp [D.pure] at h
 | .non,_=>by simp [D.low]
 | .bl _,_=>by simp [D.low]
 | .int _,_=>by simp [D.low]
 | .str _,_=>by simp [D.low]
theorem pures_low (n : Nat) : ∀ {ds : List D},D.pures ds = true → D.lows n ds = true
 | [],_=>by rw [D.lows]
 | d :: ds,h=>by
   rw [D.pures,Bool.and_eq_true] at h
   rw [D.lows,pure_low n h.1,pures_low n h.2]
   rfl
end
theorem map_same {α : Type} {f : α → α} : ∀ {l : List α},(∀ x ∈ l,f x = x) → l.map f = l
 | [],_=>rfl
 | x :: l,h=>by rw [List.map_cons,h x List.mem_cons_self,map_same fun y hy=>h y (List.mem_cons_of_mem _ hy)]
theorem pure_frz (st : AS) (n : Nat) : ∀ (k : Nat) (d : D),d.pure = true → frzD st n k d = d
 | 0,d,_=>rfl
 | k + 1,d,h=>by
   cases d with
   | tup ds =>
     rw [D.pure,D.pures_eq,List.all_eq_true] at h
     show D.tup (ds.map (frzD st n k)) = _
     rw [map_same fun x hx=>pure_frz st n k x (h x hx)]
   | lst ds =>
     rw [D.pure,D.pures_eq,List.all_eq_true] at h
     show D.lst (ds.map (frzD st n k)) = _
     rw [map_same fun x hx=>pure_frz st n k x (h x hx)]
   | ref i=>simp [D.pure] at h
   | _=>rfl
/-- the feed -/
structure Fd (i : Nat) (ns : List Int) (n : Nat) (st : AS) : Prop where
 h : ∃ a b c,st[i]? = some (feedC ns a b c) ∧ 0 ≤ a ∧ 0 ≤ c ∧ c ≤ n
theorem Fd.mono {i : Nat} {ns : List Int} {n m : Nat} {st : AS} (h : Fd i ns n st) (hm : n ≤ m) : Fd i ns m st:=by
 obtain ⟨a,b,c,h1,h2,h3,h4⟩:=h.h
 exact ⟨a,b,c,h1,h2,h3,by omega⟩
theorem Fd.lt {i : Nat} {ns : List Int} {n : Nat} {st : AS} (h : Fd i ns n st) : i < st.length:=by
 obtain ⟨a,b,c,h1,_⟩:=h.h
 exact (List.getElem?_eq_some_iff.mp h1).1
theorem Fd.to {i : Nat} {ns : List Int} {n : Nat} {st st' : AS} (h : Fd i ns n st) (e : st'[i]? = st[i]?) : Fd i ns n st':=by
 obtain ⟨a,b,c,h1,h2,h3,h4⟩:=h.h
 exact ⟨a,b,c,by rw [e]; exact h1,h2,h3,h4⟩
theorem Fd.push {i : Nat} {ns : List Int} {n : Nat} {st : AS} (h : Fd i ns n st) (c : C) : Fd i ns n (st ++ [c]):=h.to (List.getElem?_append_left h.lt)
theorem Fd.put {i j : Nat} {ns : List Int} {n : Nat} {st : AS} (h : Fd i ns n st) (c : C) (hj : j ≠ i) : Fd i ns n (st.set j c):=h.to (List.getElem?_set_ne hj)
/-- a step that changes the feed alone -/
structure Dr (i : Nat) (ns : List Int) (n : Nat) (st st' : AS) : Prop where
 fd : Fd i ns n st'
 len : st'.length = st.length
 at_ : ∀ j,j ≠ i → st'[j]? = st[j]?
theorem Dr.refl {i : Nat} {ns : List Int} {n : Nat} {st : AS} (h : Fd i ns n st) : Dr i ns n st st:=⟨h,rfl,fun _ _=>rfl⟩
theorem Dr.trans {i : Nat} {ns : List Int} {n m : Nat} {a b c : AS} (h : Dr i ns n a b) (k : Dr i ns m b c) : Dr i ns m a c:=⟨k.fd,k.len.trans h.len,fun j hj=>(k.at_ j hj).trans (h.at_ j hj)⟩
theorem draw_ok {i : Nat} {ns : List Int} {n : Nat} {st : AS} {m : Int} (h : Fd i ns n st) (hn : n < 1000000000000) (h0 : 0 < m) (h1 : m < 4611686018427387904) :
   ∃ r st1,F__law_draw_ed7e [.ref i,.int m] st = .ok (.int r) st1 ∧ 0 ≤ r ∧ r < m ∧ Dr i ns (n + 1) st st1:=by
 obtain ⟨a,b,c,e,ha,hc,hcn⟩:=h.h
 have p60 : (2 : Int) ^ 60 = 1152921504606846976:=by decide
 have p62 : (2 : Int) ^ 62 = 4611686018427387904:=by decide
 obtain ⟨r,a',b',q,r0,r1,ha'⟩:=draw_eq (m:=m) e h0 (by omega) ha hc (by omega)
 have hl : i < st.length:=(List.getElem?_eq_some_iff.mp e).1
 exact ⟨r,_,q,r0,r1,⟨⟨a',b',c + 1,List.getElem?_set_self hl,ha',by omega,by omega⟩,by simp,fun j hj=>List.getElem?_set_ne (Ne.symm hj)⟩⟩
theorem atI_in {α : Type} {xs : List α} {i : Int} (h : 0 ≤ i) (h2 : i < xs.length) : ∃ x,L2.atI xs i = some x ∧ x ∈ xs:=by
 rw [atI_pos h h2]
 have hl : i.toNat < xs.length:=by omega
 exact ⟨xs[i.toNat],List.getElem?_eq_getElem hl,List.getElem_mem hl⟩
theorem szs_sub : ∀ {a b : List PyData},a.Sublist b → szs a ≤ szs b:=by
 intro a b h
 induction h with
 | slnil=>exact Nat.le_refl _
 | cons x _ ih=>simp only [szs]; omega
 | cons_cons x _ ih=>simp only [szs]; omega
theorem Ok.lst {m k j : Nat} {ds es : List D} (h : Ok m (k + 1) j (.tup ds)) (hs : es.Sublist ds) : Ok m (k + 1) j (.lst es):=by
 have hp:=h.p
 rw [pln,plns_eq,List.all_eq_true] at hp
 have hf:=h.f
 rw [D.py,pys_map] at hf
 have h1:=hf.sz
 rw [sz_tup] at h1
 refine ⟨?_,?_⟩
 · rw [pln,plns_eq,List.all_eq_true]
   exact fun x hx=>hp x (hs.subset hx)
 · rw [D.py,pys_map]
   have hss:=szs_sub (hs.map D.py)
   have h2:=hf.dp
   rw [dep_tup] at h2
   have h3:=dep_all.mp (show PyData.depthAll (ds.map D.py) ≤ k by omega)
   have h4:=Ats.tup.mp hf.at_
   obtain ⟨m',rfl⟩ : ∃ m',m = m' + 1:=⟨m - 1,by omega⟩
   refine fit_lst (by omega) fun d hd=>?_
   have hm : d ∈ ds.map D.py:=(hs.map D.py).subset hd
   exact ⟨h3 d hm,h4 d hm⟩
end Kd
namespace Kd
open PySem PySem.Spec PyProof.Rows L2 TB VL G K02
def abc : Str:="abcdefghijklmnopqrstuvwxyz"
def mkS (cs : List Nat) : Str:=⟨cs.toArray⟩
def nxt (c : Nat) : Nat:=if c = 122 then 97 else c + 1
theorem mkS_len (cs : List Nat) : (mkS cs).length = cs.length:=by
 show cs.toArray.size = _
 simp
theorem mkS_cps (cs : List Nat) : (mkS cs).cps.toList = cs:=by
 show cs.toArray.toList = _
 simp
theorem mkS_app (as bs : List Nat) : mkS as ++ mkS bs = mkS (as ++ bs):=by
 show (⟨as.toArray ++ bs.toArray⟩ : Str) = ⟨(as ++ bs).toArray⟩
 simp
theorem abc_at : ∀ k : Fin 26,atI abc.cps.toList ((k.val : Nat) : Int) = some (97 + k.val):=by decide +kernel
theorem abc_find : ∀ k : Fin 26,Builtin.Str.occurrences abc (mkS [97 + k.val]) 0 abc.length 1 = [k.val]:=by decide +kernel
theorem a_times : ∀ k : Fin 8,Txt.mul (Str.ofString "a") ((k.val : Nat) : Int) = mkS (List.replicate k.val 97) ∧ PySem.MulOk (Str.ofString "a") ((k.val : Nat) : Int):=by
 unfold PySem.MulOk
 decide +kernel
theorem incR_run : ∀ (n c : Nat) (r : List Nat),(r = [] ∨ c ≠ 122) → incR (List.replicate n 122 ++ c :: r) = List.replicate n 97 ++ nxt c :: r
 | 0,c,r,h=>by
   show incR (c :: r) = nxt c :: r
   cases r with
   | nil=>rfl
   | cons d r =>
     rcases h with z | z
     · cases z
     · unfold incR nxt
       rw [if_neg z,if_neg z]
 | n + 1,c,r,h=>by
   have ih:=incR_run n c r h
   rw [List.replicate_succ,List.replicate_succ,List.cons_append,List.cons_append,← ih]
   cases n with
   | zero=>rfl
   | succ n=>rfl
/-- as the law writes it -/
theorem aft_cut {cs : List Nat} {a c : Nat} (h8 : cs.length = 8) (ha : a ≤ 7) (hc : cs[a]? = some c) (hz : ∀ i, a < i → i ≤ 7 → cs[i]? = some 122) (h : a = 0 ∨ c ≠ 122) :
   aft cs = (cs.take a ++ [nxt c]) ++ List.replicate (7 - a) 97:=by
 have e : cs = cs.take a ++ c :: List.replicate (7 - a) 122:=by
   refine List.ext_getElem? fun i=>?_
   by_cases i1 : i < a
   · rw [List.getElem?_append_left (by rw [List.length_take]; omega),List.getElem?_take_of_lt i1]
   · have tl : (cs.take a).length = a:=by rw [List.length_take]; omega
     rw [List.getElem?_append_right (by omega),tl]
     by_cases i2 : i = a
     · rw [i2,Nat.sub_self]
       exact hc
     · obtain ⟨k,rfl⟩ : ∃ k,i = a + 1 + k:=⟨i - a - 1,by omega⟩
       have e1 : a + 1 + k - a = k + 1:=by omega
       rw [e1,List.getElem?_cons_succ]
       by_cases i3 : a + 1 + k ≤ 7
       · rw [hz _ (by omega) i3,List.getElem?_replicate,if_pos (by omega)]
       · rw [List.getElem?_eq_none (by omega),List.getElem?_replicate,if_neg (by omega)]
 unfold aft
 rw [if_neg (by omega)]
 have er : cs.reverse = List.replicate (7 - a) 122 ++ c :: (cs.take a).reverse:=by
   conv=>lhs; rw [e]
   rw [List.reverse_append,List.reverse_cons,List.reverse_replicate,List.append_assoc]
   rfl
 rw [er,incR_run _ _ _ (by
   rcases h with z | z
   · left
     rw [z]
     rfl
   · exact .inr z),List.reverse_append,List.reverse_cons,List.reverse_replicate,List.reverse_reverse]
theorem mkS_self (x : Str) : mkS x.cps.toList = x:=by
 unfold mkS
 cases x
 simp
theorem word_mk {x : Str} (h : wordS x = true) : ∃ cs,x = mkS cs ∧ Wd cs:=by
 unfold wordS at h
 simp only [Bool.and_eq_true,decide_eq_true_eq,List.all_eq_true] at h
 obtain ⟨h1,h2,h3⟩:=h
 have hl : x.cps.toList.length = x.length:=by
   rw [Array.length_toList]
   rfl
 refine ⟨x.cps.toList,(mkS_self x).symm,by omega,by omega,fun c hc=>?_⟩
 have:=h3 c hc
 simp only [letter,Bool.and_eq_true,decide_eq_true_eq] at this
 exact this
theorem mk_word {cs : List Nat} (h : Wd cs) : wordS (mkS cs) = true:=by
 unfold wordS
 simp only [Bool.and_eq_true,decide_eq_true_eq,List.all_eq_true]
 rw [mkS_len,mkS_cps]
 refine ⟨h.n0,h.n1,fun c hc=>?_⟩
 have:=h.lt c hc
 simp only [letter,Bool.and_eq_true,decide_eq_true_eq]
 exact this
theorem mkS_inj {a b : List Nat} (h : mkS a = mkS b) : a = b:=by
 have:=congrArg (fun z : Str=>z.cps.toList) h
 rwa [mkS_cps,mkS_cps] at this
theorem one_mk (c : Nat) : (⟨#[c]⟩ : Str) = mkS [c]:=rfl
theorem ofs_z : (Str.ofString "z") = mkS [122]:=by decide +kernel
theorem ofs_a : (Str.ofString "a") = mkS [97]:=by decide +kernel
theorem after_while {cs : List Nat} (h8 : cs.length = 8) (st : AS) : ∀ a : Nat, a ≤ 7 → (∀ i, a < i → i ≤ 7 → cs[i]? = some 122) → ∃ b c : Nat, b ≤ 7 ∧ cs[b]? = some c ∧ (∀ i, b < i → i ≤ 7 → cs[i]? = some 122) ∧ (b = 0 ∨ c ≠ 122) ∧
   whL (vAnd (vB (v2 gtD (vVar 2) (vC (.int 0)))) (vB (v2 (eqD false) (v2 ixD (vVar 0) (vVar 2)) (vC (.str "z"))))) (sAug 2 (iiD fun a b=>.int (a - b)) (vC (.int 1))) (a + 1) [some (.str (mkS cs)),some (.str "abcdefghijklmnopqrstuvwxyz"),some (.int (a : Int)),none] st = .nx [some (.str (mkS cs)),some (.str "abcdefghijklmnopqrstuvwxyz"),some (.int (b : Int)),none] st:=by
 intro a
 induction a with
 | zero =>
   intro _ hz
   have hc : cs[0]? = some (cs.getD 0 0):=by
     rw [List.getElem?_eq_getElem (by omega),List.getD_eq_getElem?_getD,List.getElem?_eq_getElem (by omega)]
     rfl
   exact ⟨0,_,by omega,hc,hz,.inl rfl,by simp [whL]⟩
 | succ a ih =>
   intro ha hz
   have hc : cs[a + 1]? = some (cs.getD (a + 1) 0):=by
     rw [List.getElem?_eq_getElem (by omega),List.getD_eq_getElem?_getD,List.getElem?_eq_getElem (by omega)]
     rfl
   generalize cs.getD (a + 1) 0 = x at *
   have hat : L2.atI (mkS cs).cps.toList ((a + 1 : Nat) : Int) = some x:=by
     rw [mkS_cps]
     exact atI_nat hc
   have szc : (mkS cs).length ≤ sizeLine:=by rw [mkS_len,sizeLine_eq]; omega
   have g0 : (0 : Int) < ((a + 1 : Nat) : Int):=by omega
   by_cases x2 : x = 122
   · obtain ⟨b, c, h1, h2, h3, h4, h5⟩ := ih (by omega) fun i h1 h2 => by
       by_cases e : i = a + 1
       · rw [e,hc,x2]
       · exact hz i (by omega) h2
     refine ⟨b,c,h1,h2,h3,h4,?_⟩
     have e1 : ((a + 1 : Nat) : Int) - 1 = (a : Int):=by omega
     rw [whL]
     rw [x2] at hat
     have e1' : (a : Int) + 1 - 1 = a:=by omega
     simp -implicitDefEqProofs only [Int.natCast_add,Int.cast_ofNat_Int] at hat g0 e1
     have h6:=h5
     simp only [vB] at h6
     simp -implicitDefEqProofs [g0,hat,szc,ofs_z.symm,one_mk,Fl.turn,e1',h6]
   · refine ⟨a + 1,x,ha,hc,hz,.inr x2,?_⟩
     rw [whL]
     have ne : ¬ mkS [x] = Str.ofString "z":=fun z=>x2 (List.cons.inj (mkS_inj (z.trans ofs_z))).1
     simp -implicitDefEqProofs only [Int.natCast_add,Int.cast_ofNat_Int] at hat g0
     simp -implicitDefEqProofs [g0,hat,szc,one_mk,ne]
theorem f_after {cs : List Nat} (st : AS) (h : Wd cs) : F__law_after [.str (mkS cs)] st = .ok (.str (mkS (aft cs))) st:=by
 have hl:=h.n1
 have sz : ∀ {n : Nat},n ≤ 1000 → n ≤ sizeLine:=fun {n} h=>by rw [sizeLine_eq]; omega
 have l1 : (mkS cs).length ≤ sizeLine:=by rw [mkS_len,sizeLine_eq]; omega
 by_cases h7 : cs.length < 8
 · have l2 : ((mkS cs).length : Int) < 8:=by rw [mkS_len]; omega
   have l3 : (mkS (cs ++ [97])).length ≤ sizeLine:=sz (by rw [mkS_len,List.length_append]; show cs.length + 1 ≤ 1000; omega)
   have l4 : (mkS cs).length + (mkS [97]).length ≤ sizeLine:=sz (by rw [mkS_len,mkS_len]; show cs.length + 1 ≤ 1000; omega)
   have e : aft cs = cs ++ [97]:=if_pos h7
   simp -implicitDefEqProofs [F__law_after,B__law_after,l1,l2,ofs_a,l3,l4,mkS_app,e]
 · obtain ⟨a,x,ha,hc,hz,hx,hw⟩:=after_while (show cs.length = 8 by omega) st 7 (by omega) (fun i _ _=>by omega)
   have w:=sWhile_eq hw (by simp)
   simp -implicitDefEqProofs only [Int.cast_ofNat_Int,vB] at w
   have l2 : ¬ ((mkS cs).length : Int) < 8:=by rw [mkS_len]; omega
   have lt:=h.lt _ (List.mem_of_getElem? hc)
   have hat : L2.atI (mkS cs).cps.toList (a : Int) = some x:=by
     rw [mkS_cps]
     exact atI_nat hc
   obtain ⟨k,rfl,hk⟩ : ∃ k : Nat,x = 97 + k ∧ k < 26:=⟨x - 97,by have:=lt.1; omega,by have:=lt.2; omega⟩
   have fnd:=abc_find ⟨k,hk⟩
   have abl : abc.length ≤ sizeLine:=sz (by decide +kernel)
   have hn : L2.atI abc.cps.toList (((k : Int) + 1) % 26) = some (nxt (97 + k)):=by
     by_cases e : k = 25
     · subst e
       decide +kernel
     · have e1 : ((k : Int) + 1) % 26 = ((k + 1 : Nat) : Int):=by omega
       rw [e1,abc_at ⟨k + 1,by omega⟩]
       unfold nxt
       rw [if_neg (by omega)]
       rfl
   have ecut : cutS (mkS cs) none (some (a : Int)) = mkS (cs.take a):=by
     unfold cutS
     rw [HT.sIx_nat,HT.sIx_none,List.drop_zero,Nat.sub_zero,mkS_cps,mkS_len]
     show mkS (cs.take (min a cs.length)) = _
     rw [Nat.min_eq_left (by omega)]
   obtain ⟨em,mo⟩:=a_times ⟨7 - a,by omega⟩
   have e7 : ((7 - a : Nat) : Int) = 7 - (a : Int):=by omega
   simp only [e7] at em mo
   have ab : (Str.ofString "abcdefghijklmnopqrstuvwxyz") = abc:=rfl
   have g1 : (mkS (cs.take a)).length + (mkS [nxt (97 + k)]).length ≤ sizeLine:=sz (by rw [mkS_len,mkS_len,List.length_take]; show _ + 1 ≤ 1000; omega)
   have g2 : (mkS (cs.take a)).length + (mkS [nxt (97 + k)]).length + (mkS (List.replicate (7 - a) 97)).length ≤ sizeLine:=sz (by rw [mkS_len,mkS_len,mkS_len,List.length_take,List.length_replicate]; show _ + 1 + _ ≤ 1000; omega)
   rw [← ab] at fnd abl hn
   have g3 : (mkS (cs.take a) ++ mkS [nxt (97 + k)]).length + (mkS (List.replicate (7 - a) 97)).length ≤ sizeLine:=sz (by rw [mkS_app,mkS_len,mkS_len,List.length_append,List.length_take,List.length_replicate]; show _ + 1 + _ ≤ 1000; omega)
   have fin : aft cs = (cs.take a ++ [nxt (97 + k)]) ++ List.replicate (7 - a) 97:=aft_cut (by omega) ha hc hz hx
   have fin2 : mkS (cs.take a) ++ mkS [nxt (97 + k)] ++ mkS (List.replicate (7 - a) 97) = mkS (aft cs):=by rw [fin,mkS_app,mkS_app]
   simp -implicitDefEqProofs [F__law_after,B__law_after,l1,l2,w,hat,one_mk,fnd,abl,hn,ecut,em,mo,g1,g2,g3,fin2]
end Kd
namespace G
open PySem VL
end G
namespace Kd
open PySem VL TB G
theorem eqv_lst_nil2 (ds : List D) : eqvD (.lst ds) (.lst []) = ds.isEmpty:=by
 rw [eqv_lst_nil]
 cases ds <;> simp
/-- ds != [] -/
theorem ne_nil {m k j : Nat} {ds : List D} (st : AS) (h : Ok m k j (.lst ds)) (hj : j ≤ 100) (hk : k ≤ 60) : eqD true (.lst ds) (.lst []) st = .ok (.bl (!ds.isEmpty)) st:=by
 have h1:=h.fit hj hk
 simp [eqD,scalD,h1,fit_nil,eqv_lst_nil2]
theorem Ok.str {m k j : Nat} {x : Str} (h : Ok m k j (.str x)) (hj : j ≤ 100) : asc x ∧ x.length ≤ sizeLine:=by
 have:=h.f.at_
 rw [D.py] at this
 obtain ⟨h1,h2⟩:=ats_str this
 exact ⟨h1,by rw [sizeLine_eq]; omega⟩
theorem Ok.len {m k j : Nat} {ds : List D} (h : Ok m k j (.tup ds)) : ds.length + 1 ≤ m:=by
 have hf:=h.f
 rw [D.py,pys_map] at hf
 have h1:=hf.sz
 rw [sz_tup] at h1
 have h2:=szs_len (ds.map D.py)
 rw [List.length_map] at h2
 omega
theorem szs_strs : ∀ xs : List Str,szs ((xs.map D.str).map D.py) = xs.length
 | []=>by simp [szs]
 | x :: xs=>by
   have:=szs_strs xs
   simp only [List.map_cons,szs,List.length_cons,this,D.py,sz]
   omega
theorem pures_strs : ∀ xs : List Str,D.pures (xs.map D.str) = true
 | []=>by simp [D.pures]
 | x :: xs=>by simp [D.pures,D.pure,pures_strs xs]
theorem fit_strs {j : Nat} (xs : List Str) (hl : xs.length ≤ 15000000) (hj : j ≤ 100) (h : ∀ x ∈ xs,asc x ∧ x.length ≤ 20 + j) : (D.lst (xs.map D.str)).fit = true:=by
 unfold D.fit
 rw [D.pure,pures_strs,D.py,pys_map]
 have : Fit (15000000 + 1) 1 j (.list ((xs.map D.str).map D.py)):=fit_lst (by rw [szs_strs]; exact hl) fun d hd=>by
   simp only [List.mem_map] at hd
   obtain ⟨e,⟨x,hx,rfl⟩,rfl⟩:=hd
   rw [D.py]
   exact ⟨by simp [PyData.depth],by simp only [Ats]; exact h x hx⟩
 rw [this.shaped hj (by decide)]
 rfl
end Kd
namespace Kd
open PySem PySem.Spec PyProof.Rows L2 TB VL G K02
theorem abc_len : Str.length (Str.ofString "abcdefghijklmnopqrstuvwxyz") ≤ sizeLine:=by rw [sizeLine_eq]; decide +kernel
theorem abc_ix {r : Int} (h0 : 0 ≤ r) (h1 : r < 26) : L2.atI (Str.ofString "abcdefghijklmnopqrstuvwxyz").cps.toList r = some (97 + r.toNat):=by
 have:=abc_at ⟨r.toNat,by omega⟩
 have e : ((r.toNat : Nat) : Int) = r:=by omega
 simp only [e] at this
 exact this
noncomputable abbrev gro : En → AS → Fl:=(sKill [5] (sSet 4 (v2 (addD false) (vVar 4) (v2 ixD (vVar 2) (vCallA 2 0 [] [.pos 0,.pos 1] F__law_draw_ed7e (vCons (vVar 0) (vCons (vC (.int 26)) vNil)) vNil)))))
theorem word_grow {i : Nat} {ns : List Int} {d : D} {r1 : Int} : ∀ (ds : List D) (cs : List Nat) (n : Nat) (st : AS), Fd i ns n st → n + ds.length < 1000000000 → (∀ c ∈ cs, Lt c) → 0 < cs.length → cs.length + ds.length ≤ 8 →
   ∃ cs' st',forL (kName 5) gro [] ds [some (.ref i),some d,some (.str "abcdefghijklmnopqrstuvwxyz"),some (.int r1),some (.str (mkS cs)),none,none] st = .nx [some (.ref i),some d,some (.str "abcdefghijklmnopqrstuvwxyz"),some (.int r1),some (.str (mkS cs')),none,none] st' ∧ Wd cs' ∧ Dr i ns (n + ds.length) st st'
 | [],cs,n,st,hf,_,hc,h0,h8=>⟨cs,st,by simp [forL],⟨h0,h8,hc⟩,Dr.refl hf⟩
 | x :: ds,cs,n,st,hf,hn,hc,h0,h8=>by
   simp only [List.length_cons] at h8 hn
   obtain ⟨r,s1,e,q0,q1,d1⟩:=draw_ok (m:=26) hf (by omega) (by omega) (by omega)
   have lt : Lt (97 + r.toNat):=⟨by omega,by omega⟩
   obtain ⟨cs',s2,e2,w2,d2⟩:=word_grow (d:=d) (r1:=r1) ds (cs ++ [97 + r.toNat]) (n + 1) s1 d1.fd (by omega) (fun c hc'=>(List.mem_append.mp hc').elim (hc c) fun z=>by rw [List.mem_singleton.mp z]; exact lt) (by simp) (by simp; omega)
   refine ⟨cs',s2,?_,w2,by rw [List.length_cons,show n + (ds.length + 1) = n + 1 + ds.length by omega]; exact d1.trans d2⟩
   have ix:=abc_ix q0 q1
   have al:=abc_len
   have l4 : (mkS cs).length + (mkS [97 + r.toNat]).length ≤ sizeLine:=by rw [mkS_len,mkS_len,sizeLine_eq]; show cs.length + 1 ≤ _; omega
   rw [forL,if_pos gd_nilOk]
   simp -implicitDefEqProofs [e,ix,al,one_mk,l4,mkS_app]
   exact e2
/-- a thing that tells a list of texts: a value,or a cell beside the feed -/
def Wl (i : Nat) (st : AS) (d : D) (xs : List Str) : Prop:=d = .lst (xs.map D.str) ∨ ∃ j,d = .ref j ∧ j ≠ i ∧ st[j]? = some (.lst (xs.map D.str))
theorem Wl.dr {i : Nat} {st st' : AS} {d : D} {xs : List Str} (h : Wl i st d xs) (k : ∀ j,j ≠ i → st'[j]? = st[j]?) : Wl i st' d xs:=by
 rcases h with h | ⟨j,h1,h2,h3⟩
 · exact .inl h
 · exact .inr ⟨j,h1,h2,(k j h2).trans h3⟩
theorem Wl.in_ {i : Nat} {st : AS} {d : D} {xs : List Str} (h : Wl i st d xs) (n : Bool) (x : Str) : inD n (.str x) d st = .ok (.bl (xor n (decide (x ∈ xs)))) st:=by
 rcases h with rfl | ⟨j,rfl,h2,h3⟩
 · exact in_lst n x xs st
 · have h1:=all_str xs
   have h2:=any_str x xs
   simp only [inD,seqOf,VL.listOf,h3,scalD,h1,h2,Bool.and_self,if_true]
theorem Wl.seq {i : Nat} {st : AS} {d : D} {xs : List Str} (h : Wl i st d xs) : seqOf st d = some (xs.map D.str):=by
 rcases h with rfl | ⟨j,rfl,h2,h3⟩
 · rfl
 · simp [h3]
theorem Wl.ix {i : Nat} {st : AS} {d : D} {xs : List Str} (h : Wl i st d xs) {r : Int} (h0 : 0 ≤ r) (h1 : r < xs.length) : ∃ x,x ∈ xs ∧ ixD d (.int r) st = .ok (.str x) st:=by
 obtain ⟨y,e,hy⟩:=atI_in (xs:=xs.map D.str) h0 (by simpa using h1)
 obtain ⟨x,hx,rfl⟩:=List.mem_map.mp hy
 have hs:=h.seq
 refine ⟨x,hx,?_⟩
 unfold ixD
 rw [hs]
 simp [e]
theorem Wl.len {i : Nat} {st : AS} {d : D} {xs : List Str} (h : Wl i st d xs) (hl : xs.length ≤ 1000) : lenD d st = .ok (.int xs.length) st:=by
 have hs:=h.seq
 unfold lenD
 rw [hs]
 have : xs.length ≤ sizeLine:=by rw [sizeLine_eq]; omega
 simp [this]
theorem Wl.nil {i : Nat} {st : AS} {d : D} {xs : List Str} (h : Wl i st d xs) (hl : xs.length ≤ 1000) (hw : ∀ x ∈ xs,wordS x = true) : eqD false d (.lst []) st = .ok (.bl xs.isEmpty) st:=by
 have hx : ∀ x ∈ xs,asc x ∧ x.length ≤ 20 + 0:=fun x hx=>by
   obtain ⟨cs,rfl,w⟩:=word_mk (hw x hx)
   have:=w.n1
   refine ⟨fun c hc=>?_,by rw [mkS_len]; omega⟩
   rw [mkS_cps] at hc
   have:=(w.lt c hc).2
   omega
 have f1:=fit_strs xs (by omega) (by omega) hx
 have ev:=eqv_lst_nil2 (xs.map D.str)
 have hv : valD st d = .lst (xs.map D.str):=by
   rcases h with rfl | ⟨j,rfl,h2,h3⟩
   · rfl
   · simp [h3]
 have sc : scalD d = false:=by
   rcases h with rfl | ⟨j,rfl,h2,h3⟩ <;> rfl
 have e2 : (List.map D.str xs).isEmpty = xs.isEmpty:=by cases xs <;> rfl
 unfold eqD
 rw [sc,hv]
 simp [f1,fit_nil,ev,e2]
noncomputable abbrev sek : En → AS → Fl := (sKill [5] (sSeq (sIf (vB (v2 (inD true) (vVar 4) (vVar 1))) sBreak sNext)
   (sSet 4 (vCallA 1 0 [] [.pos 0] F__law_after (vCons (vVar 4) vNil) vNil))))
theorem word_seek {i : Nat} {d : D} {r1 : Int} {st : AS} {xs : List Str} {cs : List Nat} {o : Option D} (hw : Wd cs) (hl : Wl i st d xs) : ∀ (ds : List D) (k : Nat), (∀ m, m < k → mkS (it cs m) ∈ xs) →
   ∃ k',forL (kName 5) sek [] ds [some (.ref i),some d,some (.str "abcdefghijklmnopqrstuvwxyz"),some (.int r1),some (.str (mkS (it cs k))),none,o] st = .nx [some (.ref i),some d,some (.str "abcdefghijklmnopqrstuvwxyz"),some (.int r1),some (.str (mkS (it cs k'))),none,o] st ∧ (mkS (it cs k') ∉ xs ∨ (k' = k + ds.length ∧ ∀ m,m < k' → mkS (it cs m) ∈ xs))
 | [],k,hk=>⟨k,by simp [forL],.inr ⟨rfl,hk⟩⟩
 | x :: ds,k,hk=>by
   have hi:=hl.in_ true (mkS (it cs k))
   by_cases hm : mkS (it cs k) ∈ xs
   · obtain ⟨k', e, h⟩ := word_seek (o:=o) (r1:=r1) hw hl ds (k + 1) fun m h => by
       by_cases z : m = k
       · rw [z]; exact hm
       · exact hk m (by omega)
     refine ⟨k',?_,h.imp id fun ⟨a,b⟩=>⟨by rw [List.length_cons]; omega,b⟩⟩
     have af:=f_after st (hw.it k)
     rw [forL,if_pos gd_nilOk]
     simp -implicitDefEqProofs [hi,hm,af]
     exact e
   · refine ⟨k,?_,.inl hm⟩
     rw [forL,if_pos gd_nilOk]
     simp -implicitDefEqProofs [hi,hm]
end Kd
namespace Kd
open PySem PySem.Spec PyProof.Rows L2 TB VL G K02
theorem rng1_ex {j : Int} (h0 : 0 ≤ j) (h1 : j ≤ 1000000) : ∃ ds : List D,ds.length = j.toNat ∧ (∀ st,rng1 [.int j] st = .ok (ds,[]) st) ∧ ∀ d ∈ ds,∃ k : Nat,d = .int k ∧ (k : Int) < j :=
 ⟨(List.range j.toNat).map fun (k : Nat)=>D.int (k : Int),by simp,fun st=>rng1_ok (by omega) (by omega),fun d hd=>by
   obtain ⟨k,hk,rfl⟩:=List.mem_map.mp hd
   have:=List.mem_range.mp hk
   exact ⟨k,rfl,by omega⟩⟩
theorem cutS_to (cs : List Nat) (n : Nat) : cutS (mkS cs) none (some (n : Int)) = mkS (cs.take n):=by
 unfold cutS
 rw [HT.sIx_nat,HT.sIx_none,List.drop_zero,Nat.sub_zero,mkS_cps,mkS_len]
 show mkS (cs.take (min n cs.length)) = _
 by_cases c : n ≤ cs.length
 · rw [Nat.min_eq_left c]
 · rw [Nat.min_eq_right (by omega),List.take_length,List.take_of_length_le (by omega)]
theorem abc_ixD {r : Int} (h0 : 0 ≤ r) (h1 : r < 26) (st : AS) : ixD (.str "abcdefghijklmnopqrstuvwxyz") (.int r) st = .ok (.str (mkS [97 + r.toNat])) st:=by
 have al:=abc_len
 have ix:=abc_ix h0 h1
 simp [al,ix,one_mk]
theorem f_word {i : Nat} {ns : List Int} {n : Nat} {st : AS} {d : D} {xs : List Str} (hf : Fd i ns n st) (hn : n < 1000000) (hl : Wl i st d xs) (hx : ∀ x ∈ xs, wordS x = true) (h50 : xs.length ≤ 50) :
   ∃ x st',F__law_word_8a86 [.ref i,d] st = .ok (.str x) st' ∧ wordS x = true ∧ x ∉ xs ∧ Dr i ns (n + 12) st st':=by
 obtain ⟨r1,s1,e1,p1,q1,d1⟩:=draw_ok (m:=5) hf (by omega) (by omega) (by omega)
 obtain ⟨r2,s2,e2,p2,q2,d2⟩:=draw_ok (m:=26) d1.fd (by omega) (by omega) (by omega)
 have hl2:=hl.dr (d1.trans d2).at_
 have nil:=hl2.nil (by omega) hx
 have al:=abc_len
 have ix2:=abc_ix p2 q2
 obtain ⟨d60,l60,r60,_⟩:=rng1_ex (j:=60) (by omega) (by omega)
 have fin : ∀ (s : AS) (cs : List Nat) (o : Option D) (r1 : Int),Wd cs → Wl i s d xs → ∃ x,forL (kName 5) sek [] d60 [some (.ref i),some d,some (.str "abcdefghijklmnopqrstuvwxyz"),some (.int r1),some (.str (mkS cs)),none,o] s = .nx [some (.ref i),some d,some (.str "abcdefghijklmnopqrstuvwxyz"),some (.int r1),some (.str x),none,o] s ∧ wordS x = true ∧ x ∉ xs:=by
   intro s cs o r1 wd hl
   obtain ⟨k',e,h⟩:=word_seek (o:=o) (r1:=r1) wd hl d60 0 (fun m h=>by omega)
   refine ⟨_,e,mk_word (wd.it k'),?_⟩
   rcases h with h | ⟨h1,h2⟩
   · exact h
   · have:=it_out wd (F:=xs.map fun x=>x.cps.toList) (n:=60) (by rw [List.length_map]; omega) (by omega)
     exact absurd (fun k hk=>List.mem_map.mpr ⟨_,h2 k (by rw [h1,l60]; show k < 0 + 60; omega),mkS_cps _⟩) this
 by_cases c : 1 < r1 ∨ xs.isEmpty = true
 · obtain ⟨r3,s3,e3,p3,q3,d3⟩:=draw_ok (m:=8) d2.fd (by omega) (by omega) (by omega)
   obtain ⟨d8,l8,r8,_⟩:=rng1_ex (j:=r3) p3 (by omega)
   have lt : Lt (97 + r2.toNat):=⟨by omega,by omega⟩
   obtain ⟨cs,s4,e4,w4,d4⟩:=word_grow (d:=d) (r1:=r1) d8 [97 + r2.toNat] _ s3 d3.fd (by omega) (fun c hc=>by rw [List.mem_singleton.mp hc]; exact lt) (by simp) (by simp; omega)
   have dd:=((d1.trans d2).trans d3).trans d4
   obtain ⟨x,e5,w5,n5⟩:=fin s4 cs none r1 w4 (hl.dr dd.at_)
   refine ⟨x,s4,?_,w5,n5,⟨dd.fd.mono (by omega),dd.len,dd.at_⟩⟩
   simp only [gro,sek,vB] at e4 e5
   have rt : ∀ x,VL.ret 0 st (D.str x) s4 = .ok (.str x) s4:=fun x=>ret_len dd.len
   rcases c with c | c
   · have c' : decide (1 < r1) = true:=decide_eq_true c
     simp -implicitDefEqProofs [F__law_word_8a86,B__law_word_8a86,e1,e2,al,ix2,one_mk,c,e3,r8,e4,r60,e5,rt]
   · by_cases c' : 1 < r1
     · simp -implicitDefEqProofs [F__law_word_8a86,B__law_word_8a86,e1,e2,al,ix2,one_mk,c',e3,r8,e4,r60,e5,rt]
     · simp -implicitDefEqProofs [F__law_word_8a86,B__law_word_8a86,e1,e2,al,ix2,one_mk,c',nil,c,e3,r8,e4,r60,e5,rt]
 · have c1 : ¬ 1 < r1:=fun z=>c (.inl z)
   have c2 : xs.isEmpty = false:=Bool.eq_false_iff.mpr fun z=>c (.inr z)
   have hp : 0 < xs.length:=by cases xs with | nil=>simp at c2 | cons _ _=>simp
   obtain ⟨r3,s3,e3,p3,q3,d3⟩:=draw_ok (m:=(xs.length : Int)) d2.fd (by omega) (by omega) (by omega)
   have hl3:=hl2.dr d3.at_
   have len2:=hl2.len (by omega)
   obtain ⟨own,ho,eo⟩:=hl3.ix p3 q3
   obtain ⟨cs,rfl,wd⟩:=word_mk (hx own ho)
   have ol : (mkS cs).length ≤ sizeLine:=by rw [mkS_len,sizeLine_eq]; have:=wd.n1; omega
   have n0:=wd.n0
   have n1:=wd.n1
   by_cases c3 : r1 = 0
   · obtain ⟨r4,s4,e4,p4,q4,d4⟩:=draw_ok (m:=((mkS cs).length : Int)) d3.fd (by omega) (by rw [mkS_len]; omega) (by rw [mkS_len]; omega)
     rw [mkS_len] at q4
     have ct : cutS (mkS cs) none (some (1 + r4)) = mkS (cs.take (1 + r4.toNat)):=by
       rw [← cutS_to]
       congr 2
       omega
     have dd:=((d1.trans d2).trans d3).trans d4
     have wt : Wd (cs.take (1 + r4.toNat)):=⟨by rw [List.length_take]; omega,by rw [List.length_take]; omega,fun c hc=>wd.lt c (List.mem_of_mem_take hc)⟩
     obtain ⟨x,e5,w5,n5⟩:=fin s4 _ (some (.str (mkS cs))) r1 wt (hl.dr dd.at_)
     refine ⟨x,s4,?_,w5,n5,⟨dd.fd.mono (by omega),dd.len,dd.at_⟩⟩
     simp only [gro,sek,vB] at e5
     have rt : ∀ x,VL.ret 0 st (D.str x) s4 = .ok (.str x) s4:=fun x=>ret_len dd.len
     subst c3
     have ab2:=abc_ixD p2 q2 s2
     have len4 : ∀ s,lenD (.str (mkS cs)) s = .ok (.int ((mkS cs).length : Int)) s:=fun s=>by simp [ol]
     simp -implicitDefEqProofs [-ixD,-lenD,F__law_word_8a86,B__law_word_8a86,e1,e2,ab2,nil,c2,len2,e3,eo,ol,len4,e4,ct,r60,e5,rt]
   · obtain ⟨r4,s4,e4,p4,q4,d4⟩:=draw_ok (m:=26) d3.fd (by omega) (by omega) (by omega)
     have ct : cutS (mkS cs) none (some 7) = mkS (cs.take 7):=cutS_to cs 7
     have dd:=((d1.trans d2).trans d3).trans d4
     have wt : Wd (cs.take 7 ++ [97 + r4.toNat]):=⟨by simp,by rw [List.length_append,List.length_take]; show _ + 1 ≤ 8; omega,fun c hc=>(List.mem_append.mp hc).elim (fun z=>wd.lt c (List.mem_of_mem_take z)) fun z=>by rw [List.mem_singleton.mp z]; exact ⟨by omega,by omega⟩⟩
     obtain ⟨x,e5,w5,n5⟩:=fin s4 _ (some (.str (mkS cs))) r1 wt (hl.dr dd.at_)
     refine ⟨x,s4,?_,w5,n5,⟨dd.fd.mono (by omega),dd.len,dd.at_⟩⟩
     simp only [gro,sek,vB] at e5
     have rt : ∀ x,VL.ret 0 st (D.str x) s4 = .ok (.str x) s4:=fun x=>ret_len dd.len
     have ab2:=abc_ixD p2 q2 s2
     have ab4:=abc_ixD p4 q4 s4
     have l7 : (mkS (cs.take 7)).length + (mkS [97 + r4.toNat]).length ≤ sizeLine:=by rw [mkS_len,mkS_len,List.length_take,sizeLine_eq]; show _ + 1 ≤ _; omega
     simp -implicitDefEqProofs [-ixD,-lenD,F__law_word_8a86,B__law_word_8a86,e1,e2,ab2,nil,c1,c2,c3,len2,e3,eo,ol,e4,ct,ab4,l7,mkS_app,r60,e5,rt]
end Kd
namespace G
open PySem VL
end G
namespace G
open PySem VL
end G
namespace G
open PySem VL
abbrev Menu:=List (Str × Int × List (Int × Int))
abbrev Offs:=List (List Str × Int × Int × Int)
def ePr (p : Int × Int) : D:=.tup [.int p.1,.int p.2]
def eRow (r : Str × Int × List (Int × Int)) : D:=.tup [.str r.1,.int r.2.1,.tup (r.2.2.map ePr)]
def eMenu (m : Menu) : D:=.tup (m.map eRow)
def eOff (o : List Str × Int × Int × Int) : D:=.tup [.tup (o.1.map D.str),.int o.2.1,.int o.2.2.1,.int o.2.2.2]
def eOffs (o : Offs) : D:=.tup (o.map eOff)
def rowOf (m : Menu) (item : Str):=m.find? fun r=>decide (r.1 = item)
theorem f_menu_row (m : Menu) (item : Str) (st : AS) {r : Str × Int × List (Int × Int)} (h : rowOf m item = some r) : F_menu_row [eMenu m,.str item] st = .ok (eRow r) st:=by
 simp -implicitDefEqProofs [F_menu_row,B_menu_row,eMenu]
 rw [for_find eRow (fun r=>decide (r.1 = item)) eRow ok_nil m ?c,show m.find? (fun r=>decide (r.1 = item)) = some r from h]
 · simp
 case c =>
   intro x _
   refine ⟨_,rfl,?_⟩
   by_cases hx : x.1 = item <;> simp [eRow,hx]
def pct (o : Offs) (item : Str) (minute : Int) : Int :=
 let ns:=(o.filter fun x=>decide (item ∈ x.1) && (decide (x.2.1 ≤ minute) && decide (minute < x.2.2.1))).map fun x=>x.2.2.2
 if ns = [] then 0 else maxI ns
def lastP (r : Str × Int × List (Int × Int)) (minute : Int) : Option Int:=((r.2.2.filter fun p=>decide (p.1 ≤ minute)).map (·.2)).getLast?
theorem f_price (m : Menu) (item : Str) (minute : Int) (st : AS) {r : Str × Int × List (Int × Int)} {p : Int} (h : rowOf m item = some r) (hp : lastP r minute = some p) (hl : r.2.2.length ≤ 1000000) : F_price [eMenu m,.str item,.int minute] st = .ok (.int p) st:=by
 have hs : r.2.2.length ≤ sizeLine:=line_ge (by omega)
 have e1:=f_menu_row m item st h
 simp -implicitDefEqProofs [F_price,B_price,e1,eRow,hs]
 rw [comp_en ePr (fun p=>decide (p.1 ≤ minute)) (fun p=>.int p.2) ok_nil r.2.2 ?c,map_int]
 · have hn : (r.2.2.filter fun p => decide (p.1 ≤ minute)).map (·.2) ≠ [] := by
     intro z
     rw [lastP,z] at hp
     cases hp
   have hn' : ((r.2.2.filter fun p=>decide (p.1 ≤ minute)).map (·.2)).map D.int ≠ []:=fun z=>hn (List.map_eq_nil_iff.mp z)
   have ha:=atI_last hn'
   rw [List.getLast?_map] at ha
   unfold lastP at hp
   rw [hp] at ha
   simp only [Out.bind_ok,ha]
   simp
 case c =>
   intro x _
   refine ⟨_,by simp [ePr]; rfl,by simp,fun _=>by simp⟩
def costT (m : Menu) (o : Offs) (item : Str) (minute : Int) : Int:=(((rowOf m item).bind fun r=>lastP r minute).getD 0 * (100 - pct o item minute) + 100 - 1) / 100
/-- a house that can be reckoned with -/
structure OkMenu (m : Menu) : Prop where
 len : ∀ r ∈ m,r.2.2.length ≤ 1000000
 zero : ∀ r ∈ m,∃ p,p ∈ r.2.2 ∧ p.1 = 0
structure OkOffs (o : Offs) : Prop where
 len : o.length ≤ 1000000
 pc : ∀ x ∈ o,0 ≤ x.2.2.2 ∧ x.2.2.2 ≤ 100
theorem OkMenu.last {m : Menu} (h : OkMenu m) {item : Str} {r : Str × Int × List (Int × Int)} (hr : rowOf m item = some r) {minute : Int} (hm : 0 ≤ minute) : ∃ p,lastP r minute = some p:=by
 obtain ⟨p,h1,h2⟩:=h.zero r (List.mem_of_find?_eq_some hr)
 have : (r.2.2.filter fun p=>decide (p.1 ≤ minute)).map (·.2) ≠ []:=by
   intro z
   rw [List.map_eq_nil_iff,List.filter_eq_nil_iff] at z
   exact z p h1 (by simp [h2,hm])
 exact ⟨_,List.getLast?_eq_some_getLast this⟩
theorem OkOffs.pct {o : Offs} (h : OkOffs o) (item : Str) (minute : Int) : 0 ≤ G.pct o item minute ∧ G.pct o item minute ≤ 100:=by
 unfold G.pct
 dsimp only
 split
 · omega
 · rename_i hn
   obtain ⟨x,hx,e⟩:=List.mem_map.mp (maxI_mem hn).1
   rw [← e]
   exact h.pc x ((List.mem_filter.mp hx).1)
end G
namespace Kd
open PySem PySem.Spec PyProof.Rows L2 TB VL G K02
theorem feed_low (n : Nat) (ns : List Int) (a b c : Int) : C.low n (feedC ns a b c) = true:=by
 have h:=pures_low n (pures_ints ns)
 simp [C.low,D.lows,D.low,h]
theorem ret_dr {frz : Nat} {st st' : AS} {d d' : D} {i : Nat} {ns : List Int} {n : Nat} (hd : frzD st' st.length frz d = d') (hp : d'.pure = true) (hd0 : st'.length = st.length → d = d') (hf : Fd i ns n st') (hi : i < st.length)
   (hat : ∀ j,j < st.length → j ≠ i → st'[j]? = st[j]?) (hl : st.length ≤ st'.length) : ∃ st2,VL.ret frz st d st' = .ok d' st2 ∧ Dr i ns n st st2:=by
 have dr : Dr i ns n st (st'.take st.length):=⟨hf.to (List.getElem?_take_of_lt hi),by rw [List.length_take]; omega,fun j hj=>by
   by_cases c : j < st.length
   · rw [List.getElem?_take_of_lt c]
     exact hat j c hj
   · rw [List.getElem?_eq_none (by rw [List.length_take]; omega),List.getElem?_eq_none (by omega)]⟩
 unfold VL.ret
 split
 · rename_i e
   refine ⟨st',by rw [hd0 e],?_⟩
   have : st'.take st.length = st':=by rw [← e,List.take_length]
   rwa [this] at dr
 · rw [hd]
   have ok : OkOver st st':=fun j c hj e=>by
     by_cases z : j = i
     · subst z
       obtain ⟨a,b,c',h1,_⟩:=hf.h
       rw [h1] at e
       cases e
       exact .inr (feed_low _ _ _ _ _)
     · rw [hat j hj z] at e
       exact .inl e
   rw [if_pos ⟨pure_low _ hp,ok⟩]
   exact ⟨_,rfl,dr⟩
/-- .. of a thing that is pure -/
theorem ret_drP {frz : Nat} {st st' : AS} {d : D} {i : Nat} {ns : List Int} {n : Nat} (hp : d.pure = true) (hf : Fd i ns n st') (hi : i < st.length)
   (hat : ∀ j,j < st.length → j ≠ i → st'[j]? = st[j]?) (hl : st.length ≤ st'.length) : ∃ st2,VL.ret frz st d st' = .ok d st2 ∧ Dr i ns n st st2 :=
 ret_dr (pure_frz _ _ _ _ hp) hp (fun _=>rfl) hf hi hat hl
structure PrOk (ps : List (Int × Int)) (b : Int) : Prop where
 b0 : 0 ≤ b
 mem : ∀ p ∈ ps,0 ≤ p.1 ∧ p.1 < b ∧ 0 ≤ p.2 ∧ p.2 ≤ 100000
 pw : ps.Pairwise fun p q=>p.1 < q.1
 hd : ∀ p r,ps = p :: r → p.1 = 0
 no : ps = [] → b = 0
 bl : b ≤ 40000 * ps.length
theorem PrOk.add {ps : List (Int × Int)} {b v x : Int} (h : PrOk ps b) (v0 : 0 ≤ v) (v1 : v ≤ 100000) (x0 : 0 ≤ x) (x1 : x ≤ 30000) : PrOk (ps ++ [(b,v)]) (b + (1 + x)):=by
 have:=h.b0
 refine ⟨by omega,fun p hp=>?_,?_,fun p r e=>?_,fun e=>by simp at e,?_⟩
 · rcases List.mem_append.mp hp with z | z
   · obtain ⟨a1,a2,a3,a4⟩:=h.mem p z
     exact ⟨a1,by omega,a3,a4⟩
   · rw [List.mem_singleton.mp z]
     exact ⟨h.b0,by show b < _; omega,v0,v1⟩
 · refine List.pairwise_append.mpr ⟨h.pw,List.pairwise_singleton _ _,fun p hp q hq=>?_⟩
   rw [List.mem_singleton.mp hq]
   exact (h.mem p hp).2.1
 · cases ps with
   | nil =>
     simp at e
     rw [← e.1]
     exact h.no rfl
   | cons q r' =>
     simp at e
     rw [← e.1]
     exact h.hd q r' rfl
 · rw [List.length_append]
   have:=h.bl
   show _ ≤ 40000 * ((ps.length + 1 : Nat) : Int)
   omega
noncomputable abbrev prB : En → AS → Fl := (sKill [3, 4] (sSeq (sSet 4 (vA gTup (vCons (vC (.int 0)) (vCons (vC (.int 1)) (vCons (vCallA 2 0 [] [.pos 0, .pos 1] F__law_draw_ed7e (vCons (vVar 0) (vCons (vC (.int 100)) vNil)) vNil) (vCons (v2 subD (vC (.int 100000)) (vCallA 2 0 [] [.pos 0, .pos 1] F__law_draw_ed7e (vCons (vVar 0) (vCons (vC (.int 3)) vNil)) vNil)) (vCons (vCallA 2 0 [] [.pos 0, .pos 1] F__law_draw_ed7e (vCons (vVar 0) (vCons (vC (.int 100001)) vNil)) vNil) vNil)))))))
   (sSeq (sExpr (vML appD (vVar 1) (vCons (vA gTup (vCons (vVar 2) (vCons (v2 ixD (vVar 4) (vCallA 2 0 [] [.pos 0,.pos 1] F__law_draw_ed7e (vCons (vVar 0) (vCons (vC (.int 5)) vNil)) vNil)) vNil))) vNil)))
   (sAug 2 (iiD fun a b=>.int (a + b)) (v2 (addD false) (vC (.int 1)) (v2 ixD (vA gTup (vCons (vC (.int 0)) (vCons (vCallA 2 0 [] [.pos 0,.pos 1] F__law_draw_ed7e (vCons (vVar 0) (vCons (vC (.int 90)) vNil)) vNil) (vCons (vCallA 2 0 [] [.pos 0,.pos 1] F__law_draw_ed7e (vCons (vVar 0) (vCons (vC (.int 30000)) vNil)) vNil) vNil)))) (vCallA 2 0 [] [.pos 0,.pos 1] F__law_draw_ed7e (vCons (vVar 0) (vCons (vC (.int 3)) vNil)) vNil)))))))
theorem prices_loop {i j : Nat} {ns : List Int} (hij : j ≠ i) : ∀ (ds : List D) (ps : List (Int × Int)) (b : Int) (n : Nat) (st : AS), Fd i ns n st → n + 8 * ds.length < 100000000 → ps.length + ds.length ≤ 1000 → st[j]? = some (.lst (ps.map ePr)) → PrOk ps b →
   ∃ ps' b' st',forL (kName 3) prB [] ds [some (.ref i),some (.ref j),some (.int b),none,none] st = .nx [some (.ref i),some (.ref j),some (.int b'),none,none] st' ∧ st'[j]? = some (.lst (ps'.map ePr)) ∧ PrOk ps' b' ∧ ps'.length = ps.length + ds.length ∧ Fd i ns (n + 8 * ds.length) st' ∧ st'.length = st.length ∧ ∀ k,k ≠ i → k ≠ j → st'[k]? = st[k]?
 | [],ps,b,n,st,hf,_,_,hj,hp=>⟨ps,b,st,by simp [forL],hj,hp,rfl,hf,rfl,fun _ _ _=>rfl⟩
 | d :: ds,ps,b,n,st,hf,hn,hl,hj,hp=>by
   simp only [List.length_cons] at hn hl
   obtain ⟨r1,s1,e1,p1,q1,d1⟩:=draw_ok (m:=100) hf (by omega) (by omega) (by omega)
   obtain ⟨r2,s2,e2,p2,q2,d2⟩:=draw_ok (m:=3) d1.fd (by omega) (by omega) (by omega)
   obtain ⟨r3,s3,e3,p3,q3,d3⟩:=draw_ok (m:=100001) d2.fd (by omega) (by omega) (by omega)
   obtain ⟨r4,s4,e4,p4,q4,d4⟩:=draw_ok (m:=5) d3.fd (by omega) (by omega) (by omega)
   have dd:=((d1.trans d2).trans d3).trans d4
   have hj4 : s4[j]? = some (.lst (ps.map ePr)):=(dd.at_ j hij).trans hj
   obtain ⟨x,ex,hx⟩:=atI_in (xs:=[D.int 0,D.int 1,D.int r1,D.int (100000 - r2),D.int r3]) p4 (by simp; omega)
   obtain ⟨v,rfl,v0,v1⟩ : ∃ v,x = .int v ∧ 0 ≤ v ∧ v ≤ 100000:=by
     simp only [List.mem_cons,List.not_mem_nil,or_false] at hx
     rcases hx with rfl | rfl | rfl | rfl | rfl <;> exact ⟨_,rfl,by omega,by omega⟩
   have hj3 : s3[j]? = some (.lst (ps.map ePr)):=(((d1.trans d2).trans d3).at_ j hij).trans hj
   have hjl : j < s4.length:=(List.getElem?_eq_some_iff.mp hj4).1
   have f5 : Fd i ns _ (s4.set j (.lst (ps.map ePr ++ [.tup [.int b,.int v]]))):=dd.fd.put _ hij
   obtain ⟨r5,s5,e5,p5,q5,d5⟩:=draw_ok (m:=90) f5 (by omega) (by omega) (by omega)
   obtain ⟨r6,s6,e6,p6,q6,d6⟩:=draw_ok (m:=30000) d5.fd (by omega) (by omega) (by omega)
   obtain ⟨r7,s7,e7,p7,q7,d7⟩:=draw_ok (m:=3) d6.fd (by omega) (by omega) (by omega)
   have dd2:=(d5.trans d6).trans d7
   obtain ⟨y,ey,hy⟩:=atI_in (xs:=[D.int 0,D.int r5,D.int r6]) p7 (by simp; omega)
   obtain ⟨u,rfl,u0,u1⟩ : ∃ v,y = .int v ∧ 0 ≤ v ∧ v ≤ 30000:=by
     simp only [List.mem_cons,List.not_mem_nil,or_false] at hy
     rcases hy with rfl | rfl | rfl <;> exact ⟨_,rfl,by omega,by omega⟩
   have hj7 : s7[j]? = some (.lst ((ps ++ [(b,v)]).map ePr)):=by
     rw [dd2.at_ j hij,List.getElem?_set_self hjl,List.map_append]
     rfl
   obtain ⟨ps',b',s8,e8,h1,h2,h3,h4,h5,h6⟩:=prices_loop hij ds (ps ++ [(b,v)]) (b + (1 + u)) _ s7 dd2.fd (by omega) (by rw [List.length_append]; show ps.length + 1 + _ ≤ _; omega) hj7 (hp.add v0 v1 u0 u1)
   refine ⟨ps',b',s8,?_,h1,h2,by rw [List.length_append] at h3; simp only [List.length_cons,List.length_nil] at h3 ⊢; omega,h4.mono (by rw [List.length_cons]; omega),?_,fun k hk hk2=>?_⟩
   · have l5 : (5 : Nat) ≤ sizeLine:=by rw [sizeLine_eq]; omega
     have l2 : (2 : Nat) ≤ sizeLine:=by rw [sizeLine_eq]; omega
     have l3 : (3 : Nat) ≤ sizeLine:=by rw [sizeLine_eq]; omega
     have lp : ps.length < sizeLine:=by rw [sizeLine_eq]; omega
     rw [forL,if_pos gd_nilOk]
     simp -implicitDefEqProofs [e1,e2,e3,e4,ex,hj3,hj4,l5,l2,l3,lp,e5,e6,e7,ey]
     exact e8
   · rw [h5,dd2.len,List.length_set,dd.len]
   · rw [h6 k hk hk2,dd2.at_ k hk,List.getElem?_set_ne (Ne.symm hk2),dd.at_ k hk]
theorem pures_prs : ∀ ps : List (Int × Int),D.pures (ps.map ePr) = true
 | []=>by simp [D.pures]
 | p :: ps=>by simp [D.pures,D.pure,ePr,pures_prs ps]
theorem f_prices {i : Nat} {ns : List Int} {n : Nat} {st : AS} (hf : Fd i ns n st) (hn : n < 10000000) : ∃ ps b st',F__law_prices_33c9 [.ref i] st = .ok (.tup (ps.map ePr)) st' ∧ PrOk ps b ∧ 1 ≤ ps.length ∧ ps.length ≤ 4 ∧ Dr i ns (n + 33) st st':=by
 have hi:=hf.lt
 have hf0:=hf.push (.lst [])
 obtain ⟨r1,s1,e1,p1,q1,d1⟩:=draw_ok (m:=4) hf0 (by omega) (by omega) (by omega)
 obtain ⟨d4,l4,r4,_⟩:=rng1_ex (j:=1 + r1) (by omega) (by omega)
 have hij : st.length ≠ i:=by omega
 have hj : s1[st.length]? = some (.lst (([] : List (Int × Int)).map ePr)):=by
   rw [d1.at_ _ hij]
   simp
 obtain ⟨ps,b,s2,e2,h1,h2,h3,h4,h5,h6⟩:=prices_loop hij d4 [] 0 _ s1 d1.fd (by omega) (by simp; omega) hj ⟨by omega,by simp,by simp,by simp,by simp,by simp⟩
 have hl2 : s2.length = st.length + 1:=by rw [h5,d1.len]; simp
 obtain ⟨s3,e3,d3⟩:=ret_drP (frz:=0) (st:=st) (d:=.tup (ps.map ePr)) (by rw [D.pure]; exact pures_prs ps) h4 hi (fun j hj hn=>by
   rw [h6 j hn (by omega),d1.at_ j hn,List.getElem?_append_left hj]) (by omega)
 refine ⟨ps,b,s3,?_,h2,by rw [h3]; simp; omega,by rw [h3]; simp; omega,d3.fd.mono (by omega),d3.len,d3.at_⟩
 have lp : ps.length ≤ sizeLine:=by rw [h3,sizeLine_eq]; simp; omega
 simp only [prB] at e2
 simp -implicitDefEqProofs [F__law_prices_33c9,B__law_prices_33c9,mk,e1,r4,e2,h1,lp,e3]
end Kd
namespace Kd
open PySem PySem.Spec PyProof.Rows L2 TB VL G K02
noncomputable abbrev mwB : En → AS → Fl:=(sKill [3] (sExpr (vML appD (vVar 2) (vCons (vCallA 2 0 [] [.pos 0,.pos 1] F__law_word_8a86 (vCons (vVar 0) (vCons (vVar 2) vNil)) vNil) vNil))))
theorem words_loop {i j : Nat} {ns : List Int} {m : Int} (hij : j ≠ i) : ∀ (ds : List D) (ws : List Str) (n : Nat) (st : AS), Fd i ns n st → n + 12 * ds.length < 1000000 → ws.length + ds.length ≤ 40 → st[j]? = some (.lst (ws.map D.str)) → (∀ x ∈ ws, wordS x = true) → ws.Nodup →
   ∃ (ws' : List Str) (st' : AS),forL (kName 3) mwB [] ds [some (.ref i),some (.int m),some (.ref j),none,none] st = .nx [some (.ref i),some (.int m),some (.ref j),none,none] st' ∧ st'[j]? = some (.lst (ws'.map D.str)) ∧ (∀ x ∈ ws',wordS x = true) ∧ ws'.Nodup ∧ ws'.length = ws.length + ds.length ∧ Fd i ns (n + 12 * ds.length) st' ∧ st'.length = st.length ∧ ∀ k,k ≠ i → k ≠ j → st'[k]? = st[k]?
 | [],ws,n,st,hf,_,_,hj,hw,hn=>⟨ws,st,by simp [forL],hj,hw,hn,rfl,hf,rfl,fun _ _ _=>rfl⟩
 | d :: ds,ws,n,st,hf,hn,hl,hj,hw,hnd=>by
   simp only [List.length_cons] at hn hl
   obtain ⟨x,s1,e1,wx,nx,d1⟩:=f_word hf (by omega) (.inr ⟨j,rfl,hij,hj⟩) hw (by omega)
   have hj1 : s1[j]? = some (.lst (ws.map D.str)):=(d1.at_ j hij).trans hj
   have hjl : j < s1.length:=(List.getElem?_eq_some_iff.mp hj1).1
   have hj2 : (s1.set j (.lst (ws.map D.str ++ [.str x])))[j]? = some (.lst ((ws ++ [x]).map D.str)):=by
     rw [List.getElem?_set_self hjl,List.map_append]
     rfl
   obtain ⟨ws',s2,e2,h1,h2,h3,h4,h5,h6,h7⟩:=words_loop (m:=m) hij ds (ws ++ [x]) _ _ (d1.fd.put (.lst (ws.map D.str ++ [.str x])) hij) (by omega) (by rw [List.length_append]; show ws.length + 1 + _ ≤ _; omega) hj2 (fun y hy=>(List.mem_append.mp hy).elim (hw y) fun z=>by rw [List.mem_singleton.mp z]; exact wx)
     (List.nodup_append.mpr ⟨hnd,List.nodup_cons.mpr ⟨by simp,List.nodup_nil⟩,fun a ha b hb=>by
       rw [List.mem_singleton.mp hb]
       exact fun z=>nx (z ▸ ha)⟩)
   refine ⟨ws',s2,?_,h1,h2,h3,by rw [List.length_append] at h4; simp only [List.length_cons,List.length_nil] at h4 ⊢; omega,h5.mono (by rw [List.length_cons]; omega),by rw [h6,List.length_set,d1.len],fun k hk hk2=>by rw [h7 k hk hk2,List.getElem?_set_ne (Ne.symm hk2),d1.at_ k hk]⟩
   have lw : ws.length < sizeLine:=by rw [sizeLine_eq]; omega
   rw [forL,if_pos gd_nilOk]
   simp -implicitDefEqProofs [e1,hj,hj1,lw]
   exact e2
structure RowOk (r : Str × Int × List (Int × Int)) : Prop where
 w : wordS r.1 = true
 m0 : 0 ≤ r.2.1
 m1 : r.2.1 ≤ 60
 p : ∃ b,PrOk r.2.2 b
 l0 : 1 ≤ r.2.2.length
 l1 : r.2.2.length ≤ 4
structure MOk (m : Menu) : Prop where
 row : ∀ r ∈ m,RowOk r
 ris : ris (m.map (·.1)) = true
noncomputable abbrev mrB : En → AS → Out D:=(vA gTup (vCons (vVar 4) (vCons (vCallA 2 0 [] [.pos 0,.pos 1] F__law_draw_ed7e (vCons (vVar 0) (vCons (vC (.int 61)) vNil)) vNil) (vCons (vCallA 1 0 [] [.pos 0] F__law_prices_33c9 (vCons (vVar 0) vNil) vNil) vNil))))
theorem rows_comp {i j : Nat} {ns : List Int} {m : Int} : ∀ (ws : List Str) (n : Nat) (st : AS), Fd i ns n st → n + 34 * ws.length < 1000000 → (∀ x ∈ ws, wordS x = true) →
   ∃ (ms : Menu) (st' : AS),compL (kName 4) tYesV mrB [some (.ref i),some (.int m),some (.ref j),none,none] [] (ws.map D.str) st = .ok (ms.map eRow) st' ∧ ms.map (·.1) = ws ∧ (∀ r ∈ ms,RowOk r) ∧ Dr i ns (n + 34 * ws.length) st st'
 | [],n,st,hf,_,_=>⟨[],st,by simp [compL],rfl,by simp,Dr.refl hf⟩
 | w :: ws,n,st,hf,hn,hw=>by
   simp only [List.length_cons] at hn
   obtain ⟨r1,s1,e1,p1,q1,d1⟩:=draw_ok (m:=61) hf (by omega) (by omega) (by omega)
   obtain ⟨ps,b,s2,e2,hp,l0,l1,d2⟩:=f_prices d1.fd (by omega)
   obtain ⟨ms,s3,e3,h1,h2,d3⟩:=rows_comp (j:=j) (m:=m) ws _ s2 d2.fd (by omega) fun x hx=>hw x (List.mem_cons_of_mem _ hx)
   refine ⟨(w,r1,ps) :: ms,s3,?_,by simp [h1],fun r hr=>?_,?_⟩
   · have l3 : (3 : Nat) ≤ sizeLine:=by rw [sizeLine_eq]; omega
     rw [List.map_cons,compL,if_pos gd_nilOk]
     simp -implicitDefEqProofs [e1,e2,l3]
     simp only [mrB] at e3
     simp [e3,eRow]
   · rcases List.mem_cons.mp hr with rfl | hr
     · exact ⟨hw w List.mem_cons_self,p1,by show r1 ≤ 60; omega,⟨b,hp⟩,l0,l1⟩
     · exact h2 r hr
   · have:=(d1.trans d2).trans d3
     exact ⟨this.fd.mono (by rw [List.length_cons]; omega),this.len,this.at_⟩
theorem pures_rows : ∀ ms : Menu,D.pures (ms.map eRow) = true
 | []=>by simp [D.pures]
 | p :: ps=>by simp [D.pures,D.pure,eRow,pures_prs,pures_rows ps]
theorem sort_ris {ws : List Str} (nd : ws.Nodup) : ris (sortS ws) = true:=by
 apply pw_ris
 have pw:=sortS_pw ws
 have nd2 : (sortS ws).Nodup:=(sortS_perm ws).nodup_iff.mpr nd
 exact (pw.and nd2).imp fun ⟨a,b⟩=>le_ne a b
theorem f_menu {i : Nat} {ns : List Int} {n : Nat} {st : AS} {k : Int} (hf : Fd i ns n st) (hn : n < 900000) (k0 : 1 ≤ k) (k1 : k ≤ 12) :
   ∃ (m : Menu) (st' : AS),F__law_menu_3a71 [.ref i,.int k] st = .ok (eMenu m) st' ∧ m.length = k.toNat ∧ MOk m ∧ Dr i ns (n + 600) st st':=by
 have hi:=hf.lt
 have hf0:=hf.push (.lst [])
 obtain ⟨d4,l4,r4,_⟩:=rng1_ex (j:=k) (by omega) (by omega)
 have hij : st.length ≠ i:=by omega
 have hj : (st ++ [C.lst []])[st.length]? = some (.lst (([] : List Str).map D.str)):=by simp
 obtain ⟨ws,s2,e2,h1,h2,h3,h4,h5,h6,h7⟩:=words_loop (m:=k) hij d4 [] _ _ hf0 (by omega) (by simp; omega) hj (by simp) List.nodup_nil
 simp only [List.length_nil,Nat.zero_add] at h4
 have hperm:=sortS_perm ws
 have hlen : (sortS ws).length = ws.length:=hperm.length_eq
 obtain ⟨ms,s3,e3,g1,g2,d3⟩:=rows_comp (j:=st.length) (m:=k) (sortS ws) _ s2 h5 (by omega) fun x hx=>h2 x (hperm.mem_iff.mp hx)
 have hl2 : s2.length = st.length + 1:=by rw [h6]; simp
 obtain ⟨s4,e4,d4'⟩:=ret_drP (frz:=0) (st:=st) (d:=eMenu ms) (by rw [eMenu,D.pure]; exact pures_rows ms) d3.fd hi (fun j hj hn=>by
   rw [d3.at_ j hn,h7 j hn (by omega),List.getElem?_append_left hj]) (by rw [d3.len]; omega)
 have ml : ms.length = ws.length:=by rw [← hlen,← g1,List.length_map]
 refine ⟨ms,s4,?_,by omega,⟨g2,by rw [g1]; exact sort_ris h3⟩,d4'.fd.mono (by omega),d4'.len,d4'.at_⟩
 have lw : ws.length ≤ sizeLine:=by rw [sizeLine_eq]; omega
 have lws : (sortS ws).length ≤ sizeLine:=by rw [hlen]; exact lw
 have lm : ms.length ≤ sizeLine:=by rw [sizeLine_eq]; omega
 simp only [mwB] at e2
 simp only [mrB] at e3
 have io : ws ≠ [] → intsOf (ws.map D.str) = none:=fun z=>by
   cases ws with
   | nil=>exact absurd rfl z
   | cons x r=>rfl
 have ne : ws ≠ []:=by
   intro z
   rw [z] at h4
   simp at h4
   omega
 have l1000 : ws.length < 64:=by omega
 simp only [eMenu] at e4 ⊢
 simp -implicitDefEqProofs [F__law_menu_3a71,B__law_menu_3a71,mk,r4,e2,h1,io ne,lw,l1000,e3,lm,lws,e4]
end Kd
namespace Kd
open PySem PySem.Spec PyProof.Rows L2 TB VL G K02
structure OffOk (o : List Str × Int × Int × Int) : Prop where
 w : ∀ x ∈ o.1,wordS x = true
 ris : ris o.1 = true
 len : o.1.length ≤ 13
 a0 : 0 ≤ o.2.1
 a1 : o.2.1 ≤ 100000
 b0 : 0 ≤ o.2.2.1
 b1 : o.2.2.1 ≤ 200000
 c0 : 0 ≤ o.2.2.2
 c1 : o.2.2.2 ≤ 100
theorem ris_nodup {xs : List Str} (h : ris xs = true) : xs.Nodup:=(ris_pw h).imp fun {a b} q e=>by
 subst e
 rw [ltStr_irrefl] at q
 cases q
end Kd
namespace Kd
open PySem PySem.Spec PyProof.Rows L2 TB VL G K02
theorem word_at {x : Str} (h : wordS x = true) : Ats 0 (.str x):=by
 obtain ⟨cs,rfl,w⟩:=word_mk h
 have:=w.n1
 simp only [Ats]
 refine ⟨fun c hc=>?_,by rw [mkS_len]; omega⟩
 rw [mkS_cps] at hc
 have:=(w.lt c hc).2
 omega
theorem big690 {i : Int} {j : Nat} (h : i.natAbs < 2 ^ 64) : i.natAbs < 2 ^ (700 + j):=Nat.lt_of_lt_of_le h (Nat.pow_le_pow_right (by decide) (by omega))
theorem ok_int {m k j : Nat} {i : Int} (h : i.natAbs < 2 ^ (700 + j)) : Ok (m + 1) k j (.int i):=⟨by simp [pln],by rw [D.py]; exact ⟨by simp [sz],by simp [PyData.depth],by simpa [Ats] using h⟩⟩
/-- a tuple,a list of things that are Ok -/
theorem szs_le {c : Nat} : ∀ {ds : List PyData},(∀ d ∈ ds,sz d ≤ c) → szs ds ≤ ds.length * c
 | [],_=>by simp [szs]
 | d :: ds,h=>by
   have h1:=h d List.mem_cons_self
   have h2:=szs_le fun x hx=>h x (List.mem_cons_of_mem _ hx)
   simp only [szs,List.length_cons,Nat.add_mul]
   omega
theorem ok_tup {c k j : Nat} {ds : List D} (h : ∀ d ∈ ds,Ok c k j d) : Ok (ds.length * c + 1) (k + 1) j (.tup ds):=by
 refine ⟨by rw [pln,plns_eq,List.all_eq_true]; exact fun d hd=>(h d hd).p,?_⟩
 rw [D.py,pys_map]
 refine fit_tup (by
   have:=szs_le (c:=c) (ds:=ds.map D.py) fun d hd=>by
     obtain ⟨x,hx,rfl⟩:=List.mem_map.mp hd
     exact (h x hx).f.sz
   rwa [List.length_map] at this) fun d hd=>?_
 obtain ⟨x,hx,rfl⟩:=List.mem_map.mp hd
 exact ⟨(h x hx).f.dp,(h x hx).f.at_⟩
theorem Ok.mono {m k j m' k' j' : Nat} {d : D} (h : Ok m k j d) (a : m ≤ m') (b : k ≤ k') (c : j ≤ j') : Ok m' k' j' d:=⟨h.p,h.f.mono a b c⟩
theorem ok_str {m k j : Nat} {x : Str} (h : Ats j (.str x)) : Ok (m + 1) k j (.str x):=⟨by simp [pln],by rw [D.py]; exact ⟨by simp [sz],by simp [PyData.depth],h⟩⟩
theorem OffOk.ok {o : List Str × Int × Int × Int} (h : OffOk o) : Ok 18 2 0 (eOff o):=by
 obtain ⟨its,a,b,c⟩:=o
 have hl:=h.len
 have h1 : Ok (its.length * 1 + 1) 1 0 (.tup (its.map D.str)):=by
   have:=ok_tup (c:=1) (k:=0) (j:=0) (ds:=its.map D.str) fun d hd=>by
     obtain ⟨x,hx,rfl⟩:=List.mem_map.mp hd
     exact ok_str (m:=0) (word_at (h.w x hx))
   rwa [List.length_map] at this
 have i1 : Ok 1 1 0 (.int a):=ok_int (m:=0) (big690 (by have:=h.a0; have:=h.a1; simp only at *; omega))
 have i2 : Ok 1 1 0 (.int b):=ok_int (m:=0) (big690 (by have:=h.b0; have:=h.b1; simp only at *; omega))
 have i3 : Ok 1 1 0 (.int c):=ok_int (m:=0) (big690 (by have:=h.c0; have:=h.c1; simp only at *; omega))
 simp only at hl
 have hpl:=h1.p
 rw [pln] at hpl
 refine ⟨by simp [eOff,pln,plns,hpl],?_⟩
 rw [eOff,D.py,pys_map]
 refine fit_tup (m:=17) (k:=1) ?_ fun d hd=>?_
 · have z1:=h1.f.sz
   have z2:=i1.f.sz
   have z3:=i2.f.sz
   have z4:=i3.f.sz
   simp only [List.map_cons,List.map_nil,szs]
   omega
 · simp only [List.map_cons,List.map_nil,List.mem_cons,List.not_mem_nil,or_false] at hd
   rcases hd with rfl | rfl | rfl | rfl
   · exact ⟨h1.f.dp,h1.f.at_⟩
   · exact ⟨i1.f.dp,i1.f.at_⟩
   · exact ⟨i2.f.dp,i2.f.at_⟩
   · exact ⟨i3.f.dp,i3.f.at_⟩
theorem OffOk.off {o : List Str × Int × Int × Int} (h : OffOk o) : offD (eOff o) = true:=by
 have h1 : (o.1.map D.str).all wordD = true:=List.all_eq_true.mpr fun d hd=>by
   obtain ⟨x,hx,rfl⟩:=List.mem_map.mp hd
   exact h.w x hx
 have a0:=h.a0
 have b0:=h.b0
 have c0:=h.c0
 have c1:=h.c1
 have hr:=h.ris
 simp only [eOff,offD,risWD,h1,risS_map,hr,a0,b0,c0,c1,decide_true,Bool.and_true]
end Kd
namespace VL
open PySem
abbrev XQ:=Str → List (Str × D) → AS → Prop
abbrev noX : XQ:=fun _ _ _=>False
/-- marks: simp does not look into what a type leans on -/
inductive Mk2 {α : Type} (Q : α → AS → Prop) (X : XQ) : Type | mk
inductive Mk5 (N : En → AS → Prop) (R : D → AS → Prop) (B T : En → AS → Prop) (X : XQ) : Type | mk
/-- what simp leaves alone -/
inductive MkP (p : Prop) : Type | mk
abbrev Hold (p : Prop) (_ : MkP p:=.mk) : Prop:=p
def Out.wp {α : Type} (o : Out α) (Q : α → AS → Prop) (X : XQ) (_ : Mk2 Q X:=.mk) : Prop:=match o with
 | .ok a s=>Q a s
 | .exc c fs s=>X c fs s
 | .bad=>False
def Fl.wp (o : Fl) (N : En → AS → Prop) (R : D → AS → Prop) (B T : En → AS → Prop) (X : XQ) (_ : Mk5 N R B T X:=.mk) : Prop:=match o with
 | .nx e s=>N e s
 | .rt d s=>R d s
 | .bk e s=>B e s
 | .ct e s=>T e s
 | .exc c fs s=>X c fs s
 | .bad=>False
section
variable {α β : Type} {Q : α → AS → Prop} {X : XQ} {N B T : En → AS → Prop} {R : D → AS → Prop} {env : En} {st : AS}
@[simp] theorem wp_ok {a : α} : (Out.ok a st).wp Q X = Q a st:=rfl
@[simp] theorem wp_exc {c : Str} {fs : List (Str × D)} : (Out.exc c fs st : Out α).wp Q X = X c fs st:=rfl
@[simp] theorem wp_bad : (Out.bad : Out α).wp Q X = False:=rfl
@[simp] theorem wp_nx : (Fl.nx env st).wp N R B T X = N env st:=rfl
@[simp] theorem wp_rt {d : D} : (Fl.rt d st).wp N R B T X = R d st:=rfl
@[simp] theorem wp_bk : (Fl.bk env st).wp N R B T X = B env st:=rfl
@[simp] theorem wp_ct : (Fl.ct env st).wp N R B T X = T env st:=rfl
@[simp] theorem wp_fexc {c : Str} {fs : List (Str × D)} : (Fl.exc c fs st).wp N R B T X = X c fs st:=rfl
@[simp] theorem wp_fbad : (Fl.bad).wp N R B T X = False:=rfl
theorem A1 {o : Out β} {k : β → AS → Out α} : (o.bind k).wp Q X = o.wp (fun b s=>(k b s).wp Q X) X:=by cases o <;> rfl
theorem wp_ext {o : Out α} {Q' : α → AS → Prop} (h : ∀ a s,Q a s = Q' a s) : o.wp Q X = o.wp Q' X:=by
 cases o with
 | ok a s=>exact h a s
 | exc _ _ _=>rfl
 | bad=>rfl
theorem A8 {o : Out β} {k : β → AS → Fl} : (o.fl k).wp N R B T X = o.wp (fun b s=>(k b s).wp N R B T X) X:=by cases o <;> rfl
theorem wp_fseq {o : Fl} {g : En → AS → Fl} : (o.seq g).wp N R B T X = o.wp (fun e s=>(g e s).wp N R B T X) R B T X:=by cases o <;> rfl
theorem wp_turn {o : Fl} {g : En → AS → Fl} : (o.turn g).wp N R B T X = o.wp (fun e s=>(g e s).wp N R B T X) R N (fun e s=>(g e s).wp N R B T X) X:=by cases o <;> rfl
theorem wp_kill {o : Fl} {ks : List Nat} : (o.kill ks).wp N R B T X = o.wp (fun e s=>N (killE ks e) s) R (fun e s=>B (killE ks e) s) (fun e s=>T (killE ks e) s) X:=by cases o <;> rfl
theorem wp_fin {o : Fl} {frz : Nat} {st0 : AS} {Q : D → AS → Prop} : (o.fin frz st0).wp Q X = o.wp (fun _ s=>(ret frz st0 .non s).wp Q X) (fun d s=>(ret frz st0 d s).wp Q X) (fun _ _=>False) (fun _ _=>False) X:=by cases o <;> rfl
theorem B1 {p : Prop} [Decidable p] {a b : Out α} : (if p then a else b).wp Q X = ((p → a.wp Q X) ∧ (¬ p → b.wp Q X)):=by
 by_cases h : p <;> simp [h]
theorem A7 {p : Prop} [Decidable p] {a b : Fl} : (if p then a else b).wp N R B T X = ((p → a.wp N R B T X) ∧ (¬ p → b.wp N R B T X)):=by
 by_cases h : p <;> simp [h]
theorem Out.wp.mono {o : Out α} {Q' : α → AS → Prop} {X' : XQ} (h : o.wp Q X) (f : ∀ a s,Q a s → Q' a s) (g : ∀ c fs s,X c fs s → X' c fs s) : o.wp Q' X':=by
 cases o with
 | ok a s=>exact f _ _ h
 | exc c fs s=>exact g _ _ _ h
 | bad=>exact h
theorem Out.wp.imp {o : Out α} {Q' : α → AS → Prop} (h : o.wp Q X) (f : ∀ a s,Q a s → Q' a s) : o.wp Q' X:=h.mono f fun _ _ _ h=>h
theorem Fl.wp.imp {o : Fl} {N' B' T' : En → AS → Prop} {R' : D → AS → Prop} (h : o.wp N R B T X) (hN : ∀ e s,N e s → N' e s) (hR : ∀ d s,R d s → R' d s) (hB : ∀ e s,B e s → B' e s) (hT : ∀ e s,T e s → T' e s) : o.wp N' R' B' T' X:=by
 cases o with
 | nx e s=>exact hN _ _ h
 | rt e s=>exact hR _ _ h
 | bk e s=>exact hB _ _ h
 | ct e s=>exact hT _ _ h
 | exc c fs s=>exact h
 | bad=>exact h
/-- what is known of it is an equation -/
theorem Out.wp.eq {o : Out α} (h : o.wp Q noX) : ∃ a s,o = .ok a s ∧ Q a s:=by
 cases o with
 | ok a s=>exact ⟨a,s,rfl,h⟩
 | exc c fs s=>exact h.elim
 | bad=>exact h.elim
theorem wp_of {o : Out α} {a : α} {s : AS} (e : o = .ok a s) (h : Q a s) : o.wp Q X:=by rw [e]; exact h
theorem Fl.wp.eq {o : Fl} (h : o.wp N (fun _ _=>False) (fun _ _=>False) (fun _ _=>False) noX) : ∃ e s,o = .nx e s ∧ N e s:=by
 cases o with
 | nx e s=>exact ⟨e,s,rfl,h⟩
 | _=>exact h.elim
variable {f g : En → AS → Out D} {c t : En → AS → Out Bool} {p q : En → AS → Fl} {fs fk : En → AS → Out (List D)}
theorem C6 {g : D → AS → Out α} : (v1 g f env st).wp Q X = (f env st).wp (fun a s=>(g a s).wp Q X) X:=A1
theorem C7 {h : D → D → AS → Out α} : (v2 h f g env st).wp Q X = (f env st).wp (fun a s=>(g env s).wp (fun b s=>(h a b s).wp Q X) X) X:=by
 exact A1.trans (wp_ext fun a s=>A1)
theorem D6 {Q : Bool → AS → Prop} : (vB f env st).wp Q X = (f env st).wp (fun a s=>(asB a s).wp Q X) X:=A1
theorem F0 {Q : List D → AS → Prop} : (vNil env st).wp Q X = Q [] st:=rfl
theorem E3 {Q : List D → AS → Prop} : (vCons f fs env st).wp Q X = (f env st).wp (fun a s=>(fs env s).wp (fun r s=>Q (a :: r) s) X) X:=by
 exact A1.trans (wp_ext fun a s=>A1)
theorem C8 {h : List D → AS → Out α} : (vA h fs env st).wp Q X = (fs env st).wp (fun a s=>(h a s).wp Q X) X:=A1
theorem C9 {Q : Bool → AS → Prop} : (vAnd c t env st).wp Q X = (c env st).wp (fun b s=>(if b = true then t env s else .ok false s).wp Q X) X:=A1
theorem F3 {Q : Bool → AS → Prop} : (vOr c t env st).wp Q X = (c env st).wp (fun b s=>(if b = true then .ok true s else t env s).wp Q X) X:=A1
theorem F1 {Q : Bool → AS → Prop} : (vNot c env st).wp Q X = (c env st).wp (fun b s=>Q (!b) s) X:=A1
theorem E6 {Q : D → AS → Prop} : (vIfE c f g env st).wp Q X = (c env st).wp (fun b s=>(if b = true then f env s else g env s).wp Q X) X:=A1
theorem F6 {Q : D → AS → Prop} {h : D → Option Int → Option Int → AS → Out D} {fl fh : En → AS → Out (Option Int)} : (vSl h f fl fh env st).wp Q X = (f env st).wp (fun x s=>(fl env s).wp (fun l s=>(fh env s).wp (fun z s=>(h x l z s).wp Q X) X) X) X:=by
 exact A1.trans (wp_ext fun a s=>A1.trans (wp_ext fun b s=>A1))
theorem E9 {Q : D → AS → Prop} {h : D → List D → AS → Out D} : (vML h f fs env st).wp Q X = (f env st).wp (fun x s=>(if (listOf s x).isSome = true then (fs env s).bind fun xs s=>h x xs s else .bad).wp Q X) X:=A1
theorem E8 {Q : D → AS → Prop} {h : D → List D → AS → Out D} : (vMD h f fs env st).wp Q X = (f env st).wp (fun x s=>(if isDict s x = true then (fs env s).bind fun xs s=>h x xs s else .bad).wp Q X) X:=A1
theorem D9 {Q : D → AS → Prop} {n m : Nat} {ds : List D} {ss : List Src} {F : List D → AS → Out D} : (vCallA n m ds ss F fs fk env st).wp Q X = (fs env st).wp (fun xs s=>(fk env s).wp (fun zs s=>(if xs.length = n ∧ zs.length = m then F (asm xs zs ds ss) s else .bad).wp Q X) X) X:=by
 exact A1.trans (wp_ext fun a s=>A1)
theorem E7 {Q : D → AS → Prop} {k : Bool} {vs : List Nat} {fi : En → AS → Out (List D × Gd)} {h : D → En → AS → Out En} : (vLc k vs fi h t f env st).wp Q X = (fi env st).wp (fun p s=>(if p.1.length ≤ sizeLine then (compL h t f (wipeD env vs) p.2 p.1 s).bind fun ys s=>mk k ys s else .bad).wp Q X) X:=A1
theorem E4 {Q : D → AS → Prop} {prs : List (FE × FE)} : (vDisp prs env st).wp Q X = (vPs prs env st).wp (fun ps s=>(gDisp ps s).wp Q X) X:=A1
theorem F4 {Q : List (D × D) → AS → Prop} : (vPs [] env st).wp Q X = Q [] st:=rfl
theorem F5 {Q : List (D × D) → AS → Prop} {pr : FE × FE} {r : List (FE × FE)} : (vPs (pr :: r) env st).wp Q X = (pr.1 env st).wp (fun x s=>(pr.2 env s).wp (fun y s=>(vPs r env s).wp (fun ps s=>Q ((x,y) :: ps) s) X) X) X:=by
 show ((pr.1 env st).bind fun x s=>(pr.2 env s).bind fun y s=>(vPs r env s).bind fun ps s=>Out.ok ((x,y) :: ps) s).wp Q X = _
 exact A1.trans (wp_ext fun a s=>A1.trans (wp_ext fun b s=>A1))
theorem B5 {Q : En → AS → Prop} {d : D} : (kSub f g d env st).wp Q X = (f env st).wp (fun o s=>(g env s).wp (fun i s=>(setD o i d s).wp (fun _ s=>Q env s) X) X) X:=by
 exact A1.trans (wp_ext fun a s=>A1.trans (wp_ext fun b s=>A1))
theorem B4 {Q : En → AS → Prop} {d : D} {i : Nat} : (kName i d env st).wp Q X = Q (env.set i (some d)) st:=rfl
theorem C2 : (sSeq p q env st).wp N R B T X = (p env st).wp (fun e s=>(q e s).wp N R B T X) R B T X:=wp_fseq
theorem B6 : (sNext env st).wp N R B T X = N env st:=rfl
theorem C0 : (sBreak env st).wp N R B T X = B env st:=rfl
theorem C1 : (sCont env st).wp N R B T X = T env st:=rfl
theorem A6 : (sExpr f env st).wp N R B T X = (f env st).wp (fun _ s=>N env s) X:=A8
theorem B9 : (sRet f env st).wp N R B T X = (f env st).wp (fun d s=>R d s) X:=A8
theorem A9 : (sIf c p q env st).wp N R B T X = (c env st).wp (fun b s=>(if b = true then p env s else q env s).wp N R B T X) X:=A8
theorem C3 {i : Nat} : (sSet i f env st).wp N R B T X = (f env st).wp (fun d s=>N (env.set i (some d)) s) X:=A8
theorem A0 {h : D → En → AS → Out En} : (sAsg f h env st).wp N R B T X = (f env st).wp (fun d s=>(h d env s).wp (fun e s=>N e s) X) X:=by
 exact A8.trans (wp_ext fun a s=>A8)
theorem B7 {i j : Nat} : (sPar i j fs env st).wp N R B T X = (fs env st).wp (fun ds s=>(match ds with | [a,b]=>Fl.nx ((env.set i (some a)).set j (some b)) s | _=>.bad).wp N R B T X) X:=A8
theorem B8 {i j l : Nat} : (sPar3 i j l fs env st).wp N R B T X = (fs env st).wp (fun ds s=>(match ds with | [a,b,c]=>Fl.nx (((env.set i (some a)).set j (some b)).set l (some c)) s | _=>.bad).wp N R B T X) X:=A8
theorem C5 {ks : List Nat} : (sKill ks p env st).wp N R B T X = (p env st).wp (fun e s=>N (killE ks e) s) R (fun e s=>B (killE ks e) s) (fun e s=>T (killE ks e) s) X:=wp_kill
theorem C4 {fi : En → AS → Out (List D × Gd)} {h : D → En → AS → Out En} : (sFor fi h p env st).wp N R B T X = (fi env st).wp (fun q s=>(forL h p q.2 q.1 env s).wp N R B T X) X:=A8
theorem E5 {Q : D → AS → Prop} {n frz : Nat} {ds : List D} : (vFn n frz p ds st).wp Q X = (p (ds.map some ++ List.replicate (n - ds.length) none) st).wp (fun _ s=>(ret frz st .non s).wp Q X) (fun d s=>(ret frz st d s).wp Q X) (fun _ _=>False) (fun _ _=>False) X:=wp_fin
theorem wp_for {h : D → En → AS → Out En} {gs : Gd} (P : List D → En → AS → Prop) : ∀ (ds : List D) (env : En) (st : AS), P ds env st → (∀ ds env st, P ds env st → gs.ok st) →
   (∀ d ds env st,P (d :: ds) env st → (h d env st).wp (fun e s=>(p e s).wp (fun e s=>P ds e s) R (fun e s=>N e s) (fun e s=>P ds e s) X) X) →
   (∀ env st,P [] env st → N env st) → (forL h p gs ds env st).wp N R B T X
 | [],env,st,h0,hg,_,hf=>by
   rw [forL,if_pos (hg _ _ _ h0)]
   exact hf env st h0
 | d :: ds,env,st,h0,hg,hs,hf=>by
   rw [forL,if_pos (hg _ _ _ h0),A8]
   refine (hs d ds env st h0).imp fun e s h1=>?_
   rw [wp_turn]
   exact h1.imp (fun e s h=>wp_for P ds e s h hg hs hf) (fun _ _ h=>h) (fun _ _ h=>h) (fun e s h=>wp_for P ds e s h hg hs hf)
end
theorem wp_for0 {h : D → En → AS → Out En} {p : En → AS → Fl} {N B T : En → AS → Prop} {R : D → AS → Prop} {X : XQ} {ds : List D} {env : En} {st : AS} (P : List D → En → AS → Prop) (h0 : P ds env st)
   (hs : ∀ d ds env st,P (d :: ds) env st → (h d env st).wp (fun e s=>(p e s).wp (fun e s=>P ds e s) R (fun e s=>N e s) (fun e s=>P ds e s) X) X)
   (hf : ∀ env st,P [] env st → N env st) : (forL h p [] ds env st).wp N R B T X:=wp_for P ds env st h0 (fun _ _ _ _=>gd_nilOk) hs hf
section
variable {st X : AS} {L k : Nat} {c : C}
theorem G0 (ln : st.length = L) : (st ++ X)[L + k]? = X[k]?:=by
 rw [List.getElem?_append_right (by omega),← ln]; congr 1; omega
theorem G5 (ln : st.length = L) : (st ++ X)[L]? = X[0]?:=G0 (k:=0) ln
theorem G6 (ln : st.length = L) : (st ++ X).set (L + k) c = st ++ X.set k c:=by
 rw [List.set_append_right _ _ (by omega)]; congr 2; omega
theorem G7 (ln : st.length = L) : (st ++ X).set L c = st ++ X.set 0 c:=G6 (k:=0) ln
theorem F7 {n : Nat} (h : n ≤ 16000000) : (n ≤ sizeLine) = True:=eq_true (by rw [sizeLine_eq]; omega)
theorem F8 {n : Nat} (h : n < 16000000) : (n < sizeLine) = True:=eq_true (by rw [sizeLine_eq]; omega)
end
end VL
namespace G
open PySem VL
def below (limit many hand : Int) : Int:=(limit - hand + many - 1) / many
def dealT (pence : Int) (many : Nat) (begun : Int) : List Int:=(List.range many).map fun (h : Nat)=>below (begun + pence) many h - below begun many h
end G
namespace VL
open PySem PySem.Spec PyProof.Rows L2 TB
section
variable {X : Cx} {E : XK} {pins : List (Addr × Obj)} {σ : L2.St} {H : Hp} {s : Shared}
def KnT (K : PySem.W.Frag) (H : Hp) (a : Addr) (us : List V) : Prop :=
 (∃ (o : Obj) (its : Array Value) (n : Nat),K.lookup a = some o ∧ o.cls = .type "tuple" ∧ o.dict = none ∧ o.data = .seq its n ∧ its.size ≤ sizeLine ∧ Vals us its.toList) ∨ ∃ o,H a = some (.frz o (.tup us)) ∧ o.dict = none
theorem KnT.get {a : Addr} {us : List V} (I : Inv X pins σ H s) (h : KnT X.K H a us) : ∃ its : List Value,Vals us its ∧ PlainSeq "tuple" s.heap a its.toArray ∧ us.length ≤ sizeLine:=by
 rcases h with ⟨ob,its,n,h1,h2,h3,h4,h5,h6⟩ | ⟨ob,h1,h3⟩
 · have z:=I.kIn a ob h1
   refine ⟨its.toList,h6,⟨ob,n,z,h2,h3,by simpa using h4⟩,?_⟩
   have e:=h6.length
   simp at e
   omega
 · obtain ⟨z,hz,its,r,ob',z2,hc,n,hd⟩:=(show ObjOk X.prog X.w H s.heap a (.frz ob (.tup us)) from I.hok a _ h1)
   rw [z] at z2
   cases z2
   exact ⟨its,r,⟨ob,n,z,hc,h3,hd⟩,hz⟩
end
end VL
namespace VL
open PySem PySem.Spec PyProof.Rows L2 TB
def ltKy : Key → Key → Bool
 | .inl i,.inl j=>decide (i < j)
 | .inr x,.inr y=>decide (x.cps.toList < y.cps.toList)
 | .inl _,.inr _=>true
 | .inr _,.inl _=>false
abbrev KK:=Key × Key
def lexK (p q : KK) : Bool:=if p.1 = q.1 then ltKy p.2 q.2 else ltKy p.1 q.1
def leP (p q : KK) : Bool:=!lexK q p
def sortP (ps : List KK) : List KK:=ps.mergeSort leP
def sameK : Key → Key → Bool
 | .inl _,.inl _=>true
 | .inr _,.inr _=>true
 | _,_=>false
def Typed (ps : List KK) : Prop:=∀ p ∈ ps,∀ q ∈ ps,sameK p.1 q.1 = true ∧ sameK p.2 q.2 = true
instance (ps : List KK) : Decidable (Typed ps):=by unfold Typed; infer_instance
theorem Typed.of {ps qs : List KK} (t : Typed ps) (h : ∀ q ∈ qs,q ∈ ps) : Typed qs:=fun p hp q hq=>t p (h p hp) q (h q hq)
def KP (h : Heap) (v : Value) (p : KK) : Prop:=∃ a o x y n,v = .ref a ∧ h.get? a = some o ∧ o.cls = .type "tuple" ∧ o.data = .seq #[x,y] n ∧ keyIs p.1 x = true ∧ keyIs p.2 y = true
theorem KP.fn {h : Heap} {v : Value} {p q : KK} (a : KP h v p) (b : KP h v q) : p = q:=by
 obtain ⟨a,o,x,y,n,rfl,h1,h2,h3,h4,h5⟩:=a
 obtain ⟨b,o',x',y',n',e,g1,g2,g3,g4,g5⟩:=b
 cases e
 rw [h1] at g1
 cases g1
 rw [h3] at g3
 cases g3
 refine Prod.ext ?_ ?_
 · rw [← kOf_is (h:=0) h4,← kOf_is (h:=0) g4]
 · rw [← kOf_is (h:=0) h5,← kOf_is (h:=0) g5]
theorem KP.keeps {h h' : Heap} {v : Value} {p : KK} {a : Addr} (k : KP h v p) (hc : ∀ o,h.get? a = some o → o.cls ≠ .type "tuple") (hk : ∀ b o,b ≠ a → h.get? b = some o → h'.get? b = some o) : KP h' v p:=by
 obtain ⟨b,o,x,y,n,rfl,h1,h2,h3,h4,h5⟩:=k
 exact ⟨b,o,x,y,n,rfl,hk b o (fun e=>hc o (e ▸ h1) h2) h1,h2,h3,h4,h5⟩
@[simp] def valKeys : List (Key × D) → Option (List KK)
 | []=>some []
 | (k,.int i) :: r=>(valKeys r).map ((k,.inl i) :: ·)
 | (k,.str x) :: r=>(valKeys r).map ((k,.inr x) :: ·)
 | _ :: _=>none
def pairD (p : KK) : D:=.tup [keyV p.1,keyV p.2]
@[simp] def pairOf : D → Option KK
 | .tup [.int i,.int j]=>some (.inl i,.inl j)
 | .tup [.int i,.str y]=>some (.inl i,.inr y)
 | .tup [.str x,.int j]=>some (.inr x,.inl j)
 | .tup [.str x,.str y]=>some (.inr x,.inr y)
 | _=>none
@[simp] def pairsK : List D → Option (List KK)
 | []=>some []
 | d :: r=>(match pairOf d with
   | some p=>(pairsK r).map (p :: ·)
   | none=>none)
@[simp] def sortPD (c : Bool) (x : D) (st : AS) : Out D:=match listOf st x with
 | some ds=>(match pairsK ds with
   | some ps=>if Typed ps then mk c ((sortP ps).map pairD) st else .bad
   | none=>.bad)
 | none=>.bad
@[simp] def srtItD (x : D) (st : AS) : Out D:=match x with
 | .ref i=>(match st[i]? with
   | some (.dct kvs)=>(match valKeys kvs with
     | some ps=>if Typed ps then .ok (.lst ((sortP ps).map pairD)) st else .bad
     | none=>.bad)
   | _=>.bad)
 | _=>.bad
end VL
namespace G
open PySem VL
end G
namespace W9
open PySem VL G Kd
theorem ofs_inj (a b : String) : (Str.ofString a = Str.ofString b) = (a = b):=by
 apply propext
 constructor
 · intro h
   rw [Str.ofString_eq_toList,Str.ofString_eq_toList] at h
   have h2:=(Str.mk.injEq _ _).mp h
   have h3 : a.toList.map Char.toNat = b.toList.map Char.toNat:=List.toArray_inj h2
   have h4 : a.toList = b.toList:=List.map_inj_right (f:=Char.toNat) (fun x y e=>by
     apply Char.ext
     apply UInt32.toNat_inj.mp
     exact e) |>.mp h3
   exact String.toList_inj.mp h4
 · rintro rfl
   rfl
abbrev Nm:=Int × Int
def eNm (n : Nm) : D:=.tup [.int n.1,.int n.2]
def eSe (ss : List Str) : D:=.ctp (ss.map D.str)
inductive Dd where
 | sit (s t : Str) | move (s t : Str) | join (t o : Str) | go (s : Str)
 | ask (n : Int) (i : Str) (c : Int) (ss : List Str) | change (n : Int) (i : Str)
 | fire (t : Str) (c : Int) | rush (t : Str) (c : Int) | serve (n : Int) | back (n : Int) | strike (n : Int)
 | pay (s : Str) (p : Int) | take (s o : Str) (p : Int) | even (ss : List Str)
def eDd : Dd → D
 | .sit s t=>.tup [.str "sit",.str s,.str t]
 | .move s t=>.tup [.str "move",.str s,.str t]
 | .join t o=>.tup [.str "join",.str t,.str o]
 | .go s=>.tup [.str "go",.str s]
 | .ask n i c ss=>.tup [.str "ask",.int n,.str i,.int c,eSe ss]
 | .change n i=>.tup [.str "change",.int n,.str i]
 | .fire t c=>.tup [.str "fire",.str t,.int c]
 | .rush t c=>.tup [.str "rush",.str t,.int c]
 | .serve n=>.tup [.str "serve",.int n]
 | .back n=>.tup [.str "back",.int n]
 | .strike n=>.tup [.str "strike",.int n]
 | .pay s p=>.tup [.str "pay",.str s,.int p]
 | .take s o p=>.tup [.str "take",.str s,.str o,.int p]
 | .even ss=>.tup [.str "even",eSe ss]
abbrev Pg:=Nm × Dd
def ePg (p : Pg) : D:=.tup [eNm p.1,eDd p.2]
structure Dish where
 course : Int
 seats : List Str
 item : Str
 cost : Int
 state : Str
 past : List (Nm × Str)
structure Fi where
 nm : Nm
 word : Str
 table : Str
 course : Int
 some_ : List Int
 bars : List Int
structure Wk where
 menu : Menu
 offs : Offs
 tables : List (Str × Str)
 dishes : List (Int × Nat × Dish)
 entries : List (Nm × Str × Str × Int)
 evens : Int
 firings : List Fi
 reasons : List (Nm × Str)
def eEn (e : Nm × Str × Str × Int) : D:=.tup [eNm e.1,.str e.2.1,.str e.2.2.1,.int e.2.2.2]
def ePa (e : Nm × Str) : D:=.tup [eNm e.1,.str e.2]
def eFi (f : Fi) : D:=.tup [eNm f.nm,.str f.word,.str f.table,.int f.course,.tup (f.some_.map D.int),.tup (f.bars.map D.int)]
abbrev eTab (t : List (Str × Str)) : List (L2.Key × D):=enK (κ':=L2.Key) Sum.inr D.str t
abbrev eDis (ds : List (Int × Nat × Dish)) : List (L2.Key × D):=enK (κ':=L2.Key) Sum.inl (fun p : Nat × Dish=>D.ref p.1) ds
def cDish (p : Nat) (d : Dish) : C:=.obj "Dish" [("course",.int d.course),("seats",eSe d.seats),("item",.str d.item),("cost",.int d.cost),("state",.str d.state),("past",.ref (p + 1))]
def cWalk (b : Nat) (w : Wk) : C:=.obj "Walk" [("menu",eMenu w.menu),("offs",eOffs w.offs),("tables",.ref (b + 1)),("dishes",.ref (b + 2)),("entries",.ref (b + 3)),("evens",.int w.evens),("firings",.ref (b + 4)),("reasons",.ref (b + 5))]
/-- the cells tell this walk; lk: whether the dishes are being walked -/
structure Rw (lk : List (L2.Key × D) → C) (st : AS) (b : Nat) (w : Wk) : Prop where
 wk : st[b]? = some (cWalk b w)
 tb : st[b + 1]? = some (.dct (eTab w.tables))
 di : st[b + 2]? = some (lk (eDis w.dishes))
 en : st[b + 3]? = some (.lst (w.entries.map eEn))
 fi : st[b + 4]? = some (.lst (w.firings.map eFi))
 re : st[b + 5]? = some (.lst (w.reasons.map ePa))
 ds : ∀ d ∈ w.dishes,st[d.2.1]? = some (cDish d.2.1 d.2.2) ∧ st[d.2.1 + 1]? = some (.lst (d.2.2.past.map ePa))
 po : ∀ d ∈ w.dishes,b + 6 ≤ d.2.1
 pd : w.dishes.Pairwise fun x y=>x.2.1 + 2 ≤ y.2.1
 dn : (w.dishes.map (·.1)).Nodup
/-- how much there is at most -/
structure Few (w : Wk) : Prop where
 ta : w.tables.length ≤ 1000
 di : w.dishes.length ≤ 60
 en : w.entries.length ≤ 100000
 fi : w.firings.length ≤ 1000
 re : w.reasons.length ≤ 1000
 se : ∀ d ∈ w.dishes,d.2.2.seats.length ≤ 100 ∧ 0 < d.2.2.seats.length
 pa : ∀ d ∈ w.dishes,d.2.2.past.length ≤ 100000 ∧ d.2.2.past ≠ []
 me : w.menu.length ≤ 1000
 evn : 0 ≤ w.evens
/-- where a seat sits -/
def tabT (w : Wk) (s : Str) : Str:=(look w.tables s).getD (Str.ofString "")
def sitsT (w : Wk) (s : Str) : Bool:=!decide (tabT w s = Str.ofString "")
end W9
namespace W9
open PySem VL G Kd
section
variable {lk : List (L2.Key × D) → C} {st : AS} {b : Nat} {w : Wk}
/-- the table of a dish of these seats -/
def tableT (w : Wk) (ss : List Str) : Option Str:=((ss.filter (sitsT w)).map (tabT w)).head?
theorem sits_look {s : Str} (hs : sitsT w s = true) : look w.tables s = some (tabT w s):=by
 unfold sitsT tabT at hs
 unfold tabT
 cases e : look w.tables s with
 | none=>rw [e] at hs; simp at hs
 | some t=>rfl
def dishT (w : Wk) (n : Int) : Option Dish:=(look w.dishes n).map (·.2)
def atT (w : Wk) (t : Str) (n : Int) : Bool:=match dishT w n with
 | some d=>decide (tableT w d.seats = some t)
 | none=>false
def dishesAtT (w : Wk) (t : Str) : List Int:=(sortI (w.dishes.map (·.1))).filter (atT w t)
def pickT (w : Wk) (q : Dish → Bool) (n : Int) : Bool:=match dishT w n with
 | some d=>q d
 | none=>false
def askedT (w : Wk) (t : Str) (c : Int) : List Int:=(dishesAtT w t).filter (pickT w fun d=>decide (d.course = c) && decide (d.state = Str.ofString "asked"))
def hasItem (w : Wk) (i : Str) : Bool:=decide (i ∈ w.menu.map (·.1))
end
theorem Rw.to {lk : List (L2.Key × D) → C} {st st' : AS} {b : Nat} {w : Wk} (h : Rw lk st b w) (e : ∀ i,b ≤ i → i < st.length → st'[i]? = st[i]?) : Rw lk st' b w:=by
 have at' : ∀ {i : Nat} {c : C},b ≤ i → st[i]? = some c → st'[i]? = some c:=fun {i c} hi hc=>by
   rw [e i hi (List.getElem?_eq_some_iff.mp hc).1]
   exact hc
 exact ⟨at' (by omega) h.wk,at' (by omega) h.tb,at' (by omega) h.di,at' (by omega) h.en,at' (by omega) h.fi,at' (by omega) h.re,fun d hd=>⟨at' (by have:=h.po d hd; omega) (h.ds d hd).1,at' (by have:=h.po d hd; omega) (h.ds d hd).2⟩,h.po,h.pd,h.dn⟩
theorem Rw.lt {lk : List (L2.Key × D) → C} {st : AS} {b : Nat} {w : Wk} (h : Rw lk st b w) : b + 5 < st.length:=(List.getElem?_eq_some_iff.mp h.re).1
end W9
namespace W9
open PySem VL G Kd
/-- where each dish begins in its run -/
def begStep (s : List (Int × Int) × List (List Str × Int)) (d : Int × Nat × Dish) : List (Int × Int) × List (List Str × Int) :=
 let x:=(look s.2 d.2.2.seats).getD 0
 (put s.1 d.1 x,put s.2 d.2.2.seats (x + d.2.2.cost))
def begT (w : Wk) : List (Int × Int) × List (List Str × Int):=w.dishes.foldl begStep ([],[])
theorem look_self {ds : List (Int × Nat × Dish)} (nd : (ds.map (·.1)).Nodup) : ∀ d ∈ ds,look ds d.1 = some d.2:=by
 induction ds with
 | nil=>intro d hd; cases hd
 | cons x ds ih =>
   intro d hd
   rw [List.map_cons,List.nodup_cons] at nd
   rw [look_cons]
   rcases List.mem_cons.mp hd with rfl | hd
   · rw [if_pos rfl]
   · rw [if_neg (fun (z : x.1 = d.1)=>nd.1 (by rw [z]; exact List.mem_map_of_mem hd))]
     exact ih nd.2 d hd
def shareT (d : Dish) (beg : Int) (seat : Str) : Int:=(dealT d.cost d.seats.length beg).getD (d.seats.idxOf seat) 0
def livT (s : Str) : Bool:=decide (s = Str.ofString "asked") || (decide (s = Str.ofString "fired") || decide (s = Str.ofString "served"))
abbrev Rww:=Nm × Str × Int
def rowT (beg : List (Int × Int)) (seat : Str) (d : Int × Nat × Dish) : List Rww:=if (livT d.2.2.state && decide (seat ∈ d.2.2.seats)) = true then [((d.2.2.past.head?.map (·.1)).getD (0,0),Str.ofString "dish",shareT d.2.2 ((look beg d.1).getD 0) seat)] else []
def accT (w : Wk) (seat : Str) : List Rww:=((w.entries.filter fun e=>decide (e.2.2.1 = seat)).map fun e=>(e.1,e.2.1,e.2.2.2)) ++ (w.dishes.map (rowT (begT w).1 seat)).flatten
theorem over_app (st : AS) (X : List C) : OkOver st (st ++ X):=fun i c hi e=>by
 rw [List.getElem?_append_left hi] at e
 exact .inl e
theorem ret_app {k : Nat} {st : AS} {d : D} (X : List C) (hp : d.pure = true) : VL.ret k st d (st ++ X) = .ok d st:=by
 unfold VL.ret
 split
 · rename_i h
   have : X = []:=by
     rw [List.length_append] at h
     exact List.length_eq_zero_iff.mp (by omega)
   rw [this,List.append_nil]
 · rw [pure_frz _ _ _ _ hp,if_pos ⟨pure_low _ hp,over_app _ _⟩,List.take_left]
def toPayT (w : Wk) (seat : Str) : Int:=((accT w seat).map (·.2.2)).sum
end W9
namespace W9
open PySem VL G Kd
/-- another table of seats -/
theorem Rw.tabs {lk : List (L2.Key × D) → C} {st : AS} {b : Nat} {w : Wk} (h : Rw lk st b w) (t : List (Str × Str)) : Rw lk (st.set (b + 1) (.dct (eTab t))) b { w with tables:=t }:=by
 have hl:=h.lt
 have ne : ∀ {i : Nat},i ≠ b + 1 → (st.set (b + 1) (.dct (eTab t)))[i]? = st[i]?:=fun {i} hi=>List.getElem?_set_ne (Ne.symm hi)
 refine ⟨(ne (by omega)).trans h.wk,List.getElem?_set_self (by omega),(ne (by omega)).trans h.di,(ne (by omega)).trans h.en,(ne (by omega)).trans h.fi,(ne (by omega)).trans h.re,fun d hd=>?_,h.po,h.pd,h.dn⟩
 have:=h.po d hd
 exact ⟨(ne (by omega)).trans (h.ds d hd).1,(ne (by omega)).trans (h.ds d hd).2⟩
/-- what a deed leaves: cells below the walk stay; it gets no shorter -/
structure Af (b : Nat) (st st' : AS) : Prop where
 len : st.length ≤ st'.length
 low : ∀ i,i < b → st'[i]? = st[i]?
theorem Af.refl (b : Nat) (st : AS) : Af b st st:=⟨Nat.le_refl _,fun _ _=>rfl⟩
theorem Af.trans {b : Nat} {x y z : AS} (h : Af b x y) (k : Af b y z) : Af b x z:=⟨Nat.le_trans h.len k.len,fun i hi=>(k.low i hi).trans (h.low i hi)⟩
theorem Af.set {b : Nat} (st : AS) {i : Nat} (hi : b ≤ i) (c : C) : Af b st (st.set i c):=⟨by simp,fun j hj=>List.getElem?_set_ne (by omega)⟩
def putTab (w : Wk) (s t : Str) : Wk:={ w with tables:=put w.tables s t }
end W9
namespace W9
open PySem VL G Kd
def putDish (w : Wk) (n : Int) (p : Nat) (d : Dish) : Wk:={ w with dishes:=put w.dishes n (p,d) }
theorem put_mem {κ α : Type} [DecidableEq κ] {l : List (κ × α)} {k : κ} {v : α} (hk : has l k = true) {x : κ × α} (h : x ∈ put l k v) : x = (k,v) ∨ (x ∈ l ∧ x.1 ≠ k):=by
 unfold put at h
 rw [if_pos hk] at h
 obtain ⟨y,hy,e⟩:=List.mem_map.mp h
 by_cases z : y.1 = k
 · rw [if_pos z] at e
   left
   rw [← e,z]
 · rw [if_neg z] at e
   right
   rw [← e]
   exact ⟨hy,z⟩
theorem has_of {κ α : Type} [DecidableEq κ] {l : List (κ × α)} {k : κ} {v : α} (h : look l k = some v) : has l k = true:=by
 rw [has_look,h]
 rfl
theorem pos_far {w : Wk} (pd : w.dishes.Pairwise fun x y=>x.2.1 + 2 ≤ y.2.1) {x y : Int × Nat × Dish} (hx : x ∈ w.dishes) (hy : y ∈ w.dishes) (ne : x.1 ≠ y.1) : x.2.1 + 2 ≤ y.2.1 ∨ y.2.1 + 2 ≤ x.2.1:=by
 generalize w.dishes = l at *
 induction l with
 | nil=>cases hx
 | cons z l ih =>
   obtain ⟨h1,h2⟩:=List.pairwise_cons.mp pd
   rcases List.mem_cons.mp hx with ex | hx'
   · rcases List.mem_cons.mp hy with ey | hy'
     · exact absurd (by rw [ex,ey]) ne
     · exact .inl (by rw [ex]; exact h1 y hy')
   · rcases List.mem_cons.mp hy with ey | hy'
     · exact .inr (by rw [ey]; exact h1 x hx')
     · exact ih h2 hx' hy'
theorem dis_put {ds : List (Int × Nat × Dish)} {n : Int} {p : Nat} {d d' : Dish} (nd : (ds.map (·.1)).Nodup) (h : look ds n = some (p,d)) : eDis (put ds n (p,d')) = eDis ds:=by
 unfold put
 rw [if_pos (has_of h)]
 show enK _ _ _ = enK _ _ _
 unfold enK
 rw [List.map_map]
 apply List.map_congr_left
 rintro ⟨m,q,e⟩ hm
 show (_,_) = (_,_)
 by_cases z : m = n
 · subst z
   have:=look_self nd _ hm
   simp only at this
   rw [h] at this
   cases this
   simp
 · simp [z]
theorem Rw.upd {lk : List (L2.Key × D) → C} {st st' : AS} {b : Nat} {w : Wk} (h : Rw lk st b w) {n : Int} {p : Nat} {d d' : Dish} (e : look w.dishes n = some (p,d)) (h1 : st'[p]? = some (cDish p d')) (h2 : st'[p + 1]? = some (.lst (d'.past.map ePa))) (h3 : ∀ i,b ≤ i → i ≠ p → i ≠ p + 1 → st'[i]? = st[i]?) : Rw lk st' b (putDish w n p d'):=by
 have hm:=look_mem e
 have hp:=h.po _ hm
 simp only at hp
 have hk:=has_of e
 refine ⟨(h3 b (by omega) (by omega) (by omega)).trans h.wk,(h3 (b + 1) (by omega) (by omega) (by omega)).trans h.tb,?_,(h3 (b + 3) (by omega) (by omega) (by omega)).trans h.en,(h3 (b + 4) (by omega) (by omega) (by omega)).trans h.fi,(h3 (b + 5) (by omega) (by omega) (by omega)).trans h.re,fun x hx=>?_,fun x hx=>?_,?_,?_⟩
 · show st'[b + 2]? = some (lk (eDis (put w.dishes n (p,d'))))
   rw [dis_put h.dn e]
   exact (h3 (b + 2) (by omega) (by omega) (by omega)).trans h.di
 · rcases put_mem hk hx with rfl | ⟨hx,ne⟩
   · exact ⟨h1,h2⟩
   · have far:=pos_far h.pd hx hm ne
     have px:=h.po _ hx
     simp only at far
     have:=h.ds _ hx
     exact ⟨(h3 _ (by omega) (by omega) (by omega)).trans this.1,(h3 _ (by omega) (by omega) (by omega)).trans this.2⟩
 · rcases put_mem hk hx with rfl | ⟨hx,ne⟩
   · exact hp
   · exact h.po _ hx
 · show (put w.dishes n (p,d')).Pairwise _
   unfold put
   rw [if_pos hk,List.pairwise_map]
   have fx : ∀ x ∈ w.dishes,(if x.1 = n then (x.1,(p,d')) else x).2.1 = x.2.1:=fun x hx=>by
     by_cases z : x.1 = n
     · rw [if_pos z]
       have:=look_self h.dn _ hx
       rw [z,e] at this
       cases x
       cases this
       rfl
     · rw [if_neg z]
   exact List.Pairwise.imp_of_mem (fun {x y} hx hy r=>by rw [fx x hx,fx y hy]; exact r) h.pd
 · exact put_nodup h.dn n _
theorem Few.upd {w : Wk} (f : Few w) {n : Int} {p : Nat} {d d' : Dish} (e : look w.dishes n = some (p,d)) (hs : d'.seats = d.seats) (hp : d'.past.length ≤ 100000 ∧ d'.past ≠ []) : Few (putDish w n p d'):=by
 have hk:=has_of e
 have hl : (put w.dishes n (p,d')).length = w.dishes.length:=by
   unfold put
   rw [if_pos hk,List.length_map]
 refine ⟨f.ta,by show (put _ _ _).length ≤ _; rw [hl]; exact f.di,f.en,f.fi,f.re,fun x hx=>?_,fun x hx=>?_,f.me,f.evn⟩
 · rcases put_mem hk hx with rfl | ⟨hx,_⟩
   · show d'.seats.length ≤ 100 ∧ 0 < d'.seats.length
     rw [hs]
     exact f.se _ (look_mem e)
   · exact f.se _ hx
 · rcases put_mem hk hx with rfl | ⟨hx,_⟩
   · exact hp
   · exact f.pa _ hx
def turnD (d : Dish) (s : Str) (nm : Nm) : Dish:={ d with state:=s,past:=d.past ++ [(nm,s)] }
def turnT (w : Wk) (n : Int) (s : Str) (nm : Nm) : Wk:=match look w.dishes n with
 | some (p,d)=>putDish w n p (turnD d s nm)
 | none=>w
theorem Few.turn {w : Wk} (f : Few w) {n : Int} {p : Nat} {d : Dish} (e : look w.dishes n = some (p,d)) (s : Str) (nm : Nm) (hl : d.past.length ≤ 90000) : Few (putDish w n p (turnD d s nm)) :=
 f.upd e rfl ⟨by show (d.past ++ _).length ≤ _; rw [List.length_append]; show _ + 1 ≤ _; omega,by show d.past ++ _ ≠ []; simp⟩
/-- serve,back,strike -/
inductive Tn where | serve | back | strike
def Tn.dd (t : Tn) (n : Int) : Dd:=match t with | .serve=>.serve n | .back=>.back n | .strike=>.strike n
def Tn.pre : Tn → List Str
 | .serve=>["fired"]
 | .back=>["served"]
 | .strike=>["asked","fired"]
end W9
namespace W9
open PySem VL G Kd
end W9
namespace W9
open PySem VL G Kd
end W9
namespace W9
open PySem VL G Kd
def e3 (x : Str × Int × Int) : D:=.tup [.str x.1,.int x.2.1,.int x.2.2]
end W9
namespace W9
open PySem VL G Kd
/-- a deed that can be told -/
def Vd : Dd → Prop
 | .ask _ _ _ ss=>ss ≠ [] ∧ ss.length ≤ 100
 | .even ss=>0 < ss.length ∧ ss.length ≤ 100
 | _=>True
end W9
namespace W9
open PySem VL G Kd
/-- what is known of each dish -/
def DK (K : Nat) (d : Dish) : Prop:=(d.past.length ≤ K ∧ d.past ≠ []) ∧ (d.seats.length ≤ 100 ∧ 0 < d.seats.length)
theorem DK.mono {K K' : Nat} {d : Dish} (h : DK K d) (hk : K ≤ K') : DK K' d:=⟨⟨Nat.le_trans h.1.1 hk,h.1.2⟩,h.2⟩
end W9
namespace G
open PySem VL
end G
namespace G
open PySem VL
end G
namespace W9
open PySem VL G Kd
structure Dn where
 nm : Nm
 dd : Dd
 fd : List Int
 mv : List (Str × Int)
def eMv (p : Str × Int) : D:=.tup [.str p.1,.int p.2]
def isFire : Dd → Bool
 | .fire _ _=>true
 | .rush _ _=>true
 | _=>false
def enc (i : Dn) : List D:=if isFire i.dd = true then i.fd.map D.int else i.mv.map eMv
def So (st : AS) (so : D) (L : List D) : Prop:=so = .lst L ∨ ∃ k,so = .ref k ∧ st[k]? = some (.lst L)
def itR (st : AS) (X : D) (i : Dn) : Prop:=∃ so,X = .tup [eNm i.nm,eDd i.dd,so] ∧ So st so (enc i)
/-- a thing that tells the pages done -/
def DnR (st : AS) (dn : D) (is : List Dn) : Prop:=∃ zs : List (D × Dn),(dn = .lst (zs.map (·.1)) ∨ ∃ j,dn = .ref j ∧ st[j]? = some (.lst (zs.map (·.1)))) ∧ zs.map (·.2) = is ∧ ∀ z ∈ zs,itR st z.1 z.2
theorem So.low {st st' : AS} {so : D} {L : List D} (h : So st so L) (e : ∀ i,i < st.length → st'[i]? = st[i]?) : So st' so L:=by
 rcases h with h | ⟨k,h1,h2⟩
 · exact .inl h
 · exact .inr ⟨k,h1,by rw [e k (List.getElem?_eq_some_iff.mp h2).1]; exact h2⟩
theorem DnR.low {st st' : AS} {dn : D} {is : List Dn} (h : DnR st dn is) (e : ∀ i,i < st.length → st'[i]? = st[i]?) : DnR st' dn is:=by
 obtain ⟨zs,h1,h2,h3⟩:=h
 refine ⟨zs,?_,h2,fun z hz=>?_⟩
 · rcases h1 with h | ⟨j,h,k⟩
   · exact .inl h
   · exact .inr ⟨j,h,by rw [e j (List.getElem?_eq_some_iff.mp k).1]; exact k⟩
 · obtain ⟨so,a,b⟩:=h3 z hz
   exact ⟨so,a,b.low e⟩
def whStep (s : Str) (t : Str) (i : Dn) : Str:=match i.dd with
 | .sit a u=>if a = s then u else t
 | .move a u=>if a = s then u else t
 | .go a=>if a = s then Str.ofString "" else t
 | .join u o=>if o = t then u else t
 | _=>t
def whereT (is : List Dn) (s : Str) : Str:=is.foldl (whStep s) (Str.ofString "")
structure RowT where
 item : Str
 course : Int
 seats : List Str
 state : Str
 min : Int
def eRT (r : RowT) : List D:=[.str r.item,.int r.course,eSe r.seats,.str r.state,.int r.min]
abbrev Rows:=List (Int × Nat × RowT)
abbrev eRows (rs : Rows) : List (L2.Key × D):=enK (κ':=L2.Key) Sum.inl (fun p : Nat × RowT=>D.ref p.1) rs
structure RsR (st0 st : AS) (j : Nat) (rs : Rows) : Prop where
 jl : j = st0.length
 di : st[j]? = some (.dct (eRows rs))
 ro : ∀ r ∈ rs,st[r.2.1]? = some (.lst (eRT r.2.2))
 po : ∀ r ∈ rs,j < r.2.1
 ne : rs.Pairwise fun x y=>x.2.1 ≠ y.2.1
 dn : (rs.map (·.1)).Nodup
 low : ∀ i,i < st0.length → st[i]? = st0[i]?
def rowsStep (rs : List (Int × RowT)) (i : Dn) : List (Int × RowT):=match i.dd with
 | .ask n it c ss=>put rs n ⟨it,c,ss,Str.ofString "asked",i.nm.1⟩
 | .change n it=>match look rs n with
   | some r=>put rs n { r with item:=it,min:=i.nm.1 }
   | none=>rs
 | .fire _ _=>i.fd.foldl (fun rs n=>match look rs n with | some r=>put rs n { r with state:=Str.ofString "fired" } | none=>rs) rs
 | .rush _ _=>i.fd.foldl (fun rs n=>match look rs n with | some r=>put rs n { r with state:=Str.ofString "fired" } | none=>rs) rs
 | .serve n=>match look rs n with | some r=>put rs n { r with state:=Str.ofString "served" } | none=>rs
 | .back n=>match look rs n with | some r=>put rs n { r with state:=Str.ofString "back" } | none=>rs
 | .strike n=>match look rs n with | some r=>put rs n { r with state:=Str.ofString "struck" } | none=>rs
 | _=>rs
def rowsT (is : List Dn) : List (Int × RowT):=is.foldl rowsStep []
/-- the rows without their places -/
def bare (rs : Rows) : List (Int × RowT):=rs.map fun r=>(r.1,r.2.2)
/-- what may be told of a page done: the dishes that it speaks of are there -/
def FitD (rs : List (Int × RowT)) (i : Dn) : Prop:=match i.dd with
 | .ask n _ _ _=>has rs n = false
 | .change n _=>has rs n = true
 | .fire _ _=>∀ n ∈ i.fd,has rs n = true
 | .rush _ _=>∀ n ∈ i.fd,has rs n = true
 | .serve n=>has rs n = true
 | .back n=>has rs n = true
 | .strike n=>has rs n = true
 | _=>True
end W9
namespace W9
open PySem VL G Kd
section
variable {st0 st : AS} {j : Nat} {rs : Rows}
theorem RsR.jlt (h : RsR st0 st j rs) : j < st.length:=(List.getElem?_eq_some_iff.mp h.di).1
/-- a new row -/
theorem RsR.new (h : RsR st0 st j rs) {n : Int} (k : has rs n = false) (r : RowT) : RsR st0 ((st ++ [C.lst (eRT r)]).set j (.dct (eRows (rs ++ [(n,st.length,r)])))) j (rs ++ [(n,st.length,r)]):=by
 have jl:=h.jlt
 have hj:=h.jl
 have up : ∀ {i : Nat} {c : C},i ≠ j → st[i]? = some c → ((st ++ [C.lst (eRT r)]).set j (.dct (eRows (rs ++ [(n,st.length,r)]))))[i]? = some c:=fun {i c} hi e=>by
   rw [List.getElem?_set_ne (Ne.symm hi),List.getElem?_append_left (List.getElem?_eq_some_iff.mp e).1]
   exact e
 refine ⟨h.jl,List.getElem?_set_self (by simp; omega),fun x hx=>?_,fun x hx=>?_,?_,?_,fun i hi=>?_⟩
 · rcases List.mem_append.mp hx with hx | hx
   · exact up (by have:=h.po x hx; omega) (h.ro x hx)
   · rw [List.mem_singleton.mp hx]
     rw [List.getElem?_set_ne (by show j ≠ st.length; omega)]
     simp
 · rcases List.mem_append.mp hx with hx | hx
   · exact h.po x hx
   · rw [List.mem_singleton.mp hx]; exact jl
 · refine List.pairwise_append.mpr ⟨h.ne,List.pairwise_singleton _ _,fun x hx y hy=>?_⟩
   rw [List.mem_singleton.mp hy]
   have:=(List.getElem?_eq_some_iff.mp (h.ro x hx)).1
   show x.2.1 ≠ st.length
   omega
 · rw [List.map_append,List.nodup_append]
   refine ⟨h.dn,by simp,fun a ha x hx=>?_⟩
   rw [List.mem_singleton.mp hx]
   rintro rfl
   have:=mem_keys.mpr ha
   rw [k] at this
   cases this
 · rw [List.getElem?_set_ne (by omega),List.getElem?_append_left (by omega)]
   exact h.low i hi
end
end W9
namespace W9
open PySem VL G Kd
end W9
namespace W9
open PySem VL G Kd TB
/-- each page done speaks of dishes that are there -/
def Fits : List (Int × RowT) → List Dn → Prop
 | _,[]=>True
 | rs,i :: is=>FitD rs i ∧ i.fd.length ≤ 1000 ∧ Fits (rowsStep rs i) is
def Ws (x : Str) : Prop:=asc x ∧ x.length ≤ 20
def WsD : Dd → Prop
 | .sit _ t=>Ws t
 | .move _ t=>Ws t
 | .join t _=>Ws t
 | _=>True
def atL (is : List Dn) (ss : List Str) : Option Str:=((ss.map (whereT is)).filter fun t=>!decide (t = Str.ofString "")).head?
def rowL (is : List Dn) (n : Int) : Option RowT:=look (rowsT is) n
def pickL (is : List Dn) (q : RowT → Bool) (n : Int) : Bool:=match rowL is n with
 | some r=>q r
 | none=>false
def hereL (is : List Dn) (t : Str) : List Int:=(sortI ((rowsT is).map (·.1))).filter (pickL is fun r=>decide (atL is r.seats = some t))
def someL (is : List Dn) (t : Str) (c : Int) : List Int:=(hereL is t).filter (pickL is fun r=>decide (r.course = c) && decide (r.state = Str.ofString "asked"))
end W9
namespace W9
open PySem VL G Kd
end W9
namespace W9
open PySem VL G Kd
abbrev Ow:=List (Str × Int)
abbrev Ends:=List (List Str × Int)
section
variable {lk : List (L2.Key × D) → C} {st T : AS} {rs : Rows} {ow : Ow} {en : Ends}
theorem put_has {κ α : Type} [DecidableEq κ] {l : List (κ × α)} {k : κ} (v : α) (h : has l k = true) : (put l k v).length = l.length:=by
 unfold put
 rw [if_pos h,List.length_map]
end
def penceT (b e m h : Int) : Int:=(e + m - 1 - h) / m - (b + m - 1 - h) / m
def seatStep (b f : Int) (m : Nat) (lv : Bool) (ow : Ow) (p : Str × Nat) : Ow:=if (has ow p.1 && lv) = true then put ow p.1 ((look ow p.1).getD 0 + penceT b f m p.2) else ow
def owRow (m : Menu) (o : Offs) (s : Ow × Ends) (r : Int × RowT) : Ow × Ends :=
 (r.2.seats.zipIdx.foldl (seatStep ((look s.2 r.2.seats).getD 0) ((look s.2 r.2.seats).getD 0 + costT m o r.2.item r.2.min) r.2.seats.length (livT r.2.state)) s.1,put s.2 r.2.seats ((look s.2 r.2.seats).getD 0 + costT m o r.2.item r.2.min))
end W9
namespace W9
open PySem VL G Kd
def mvsOf (i : Dn) : List (Str × Int):=match i.dd with
 | .take a b p=>[(a,p),(b,-p)]
 | .even _=>i.mv
 | _=>[]
def mvAdd (ow : Ow) (x : Str × Int) : Ow:=if has ow x.1 = true then put ow x.1 ((look ow x.1).getD 0 + x.2) else ow
def payStep (ow : Ow) (i : Dn) : Ow:=match i.dd with
 | .pay s p=>if has ow s = true then put ow s ((look ow s).getD 0 - p) else ow
 | _=>ow
def mvStep (ow : Ow) (i : Dn) : Ow:=(mvsOf i).foldl mvAdd (payStep ow i)
def zeroT (ss : List Str) : Ow:=ss.foldl (fun ow s=>put ow s 0) []
def owedT (m : Menu) (o : Offs) (is : List Dn) (ss : List Str) : Ow:=is.foldl mvStep ((rowsT is).foldl (owRow m o) (zeroT ss,[])).1
end W9
namespace W9
open PySem VL G Kd
theorem ne_ints {xs : List Int} (n : Bool) (st : AS) : eqD n (.lst (xs.map D.int)) (.lst []) st = .ok (.bl (xor n xs.isEmpty)) st:=by
 have f1:=fit_ints xs
 have ev:=eqv_lst_nil (xs.map D.int)
 have e2 : decide (xs.map D.int = []) = xs.isEmpty:=by cases xs <;> simp
 rw [e2] at ev
 simp [eqD,scalD,f1,fit_nil,ev]
def sttL (is : List Dn) (n : Int) : Option Str:=(rowL is n).map (·.state)
def wordsOf (m : Menu) : List Str:=m.map (·.1)
def Sx (s : String) : Str:=Str.ofString s
end W9
namespace W9
open PySem VL G Kd
end W9
namespace W9
open PySem VL G Kd
theorem has_put {κ α : Type} [DecidableEq κ] (l : List (κ × α)) (k : κ) (v : α) (j : κ) : has (put l k v) j = (decide (j = k) || has l j):=by
 rw [has_look,look_put,has_look]
 by_cases z : j = k <;> simp [z]
theorem has_zero (s : Str) : ∀ (ss : List Str) (ow : Ow),(s ∈ ss ∨ has ow s = true) → has (ss.foldl (fun ow s=>put ow s 0) ow) s = true
 | [],ow,h=>by
   rcases h with h | h
   · cases h
   · exact h
 | x :: ss,ow,h=>has_zero s ss _ (by
   rcases h with h | h
   · rcases List.mem_cons.mp h with rfl | h
     · right; rw [has_put]; simp
     · exact .inl h
   · right; rw [has_put,h,Bool.or_true])
def owedV (m : Menu) (o : Offs) (is : List Dn) (ss : List Str) (s : Str) : Int:=(look (owedT m o is ss) s).getD 0
def sitsL (is : List Dn) : List Str:=is.filterMap fun i=>match i.dd with
 | .sit s _=>some s
 | _=>none
end W9
namespace W9
open PySem VL G Kd
def isSit : Dd → Bool
 | .sit _ _=>true
 | _=>false
def seatOf : Dd → Str
 | .sit s _=>s
 | _=>Sx ""
theorem sitsL_eq (is : List Dn) : sitsL is = ((is.filter fun i=>isSit i.dd).map fun i=>seatOf i.dd):=by
 unfold sitsL
 induction is with
 | nil=>rfl
 | cons i is ih =>
   rw [List.filterMap_cons,List.filter_cons]
   cases e : i.dd <;> simp [isSit,seatOf,ih,e]
/-- a deed that may stand in a page -/
def WsDd : Dd → Prop
 | .take a b _=>Ws a ∧ Ws b
 | .even ss=>ss.length ≤ 1000 ∧ ∀ s ∈ ss,Ws s
 | .ask _ _ _ ss=>ss.length ≤ 1000
 | _=>True
end W9
namespace W9
open PySem VL G Kd
structure LW where
 is : List Dn
 idl : List (Nm × Str)
 ev : Int
def SoH (st T : AS) (so : D) (L : List D) : Prop:=so = .lst L ∨ ∃ k,st.length + 2 ≤ k ∧ so = .ref k ∧ T[k]? = some (.lst L)
def itH (st T : AS) (X : D) (i : Dn) : Prop:=∃ so,X = .tup [eNm i.nm,eDd i.dd,so] ∧ SoH st T so (enc i)
structure LI (st T : AS) (s : LW) : Prop where
 zs : ∃ zs : List (D × Dn),T[st.length]? = some (.lst (zs.map (·.1))) ∧ zs.map (·.2) = s.is ∧ ∀ z ∈ zs,itH st T z.1 z.2
 id : T[st.length + 1]? = some (.lst (s.idl.map ePa))
 low : ∀ i,i < st.length → T[i]? = st[i]?
theorem SoH.up {st T T' : AS} {so : D} {L : List D} (h : SoH st T so L) (e : ∀ i,st.length + 2 ≤ i → i < T.length → T'[i]? = T[i]?) : SoH st T' so L:=by
 rcases h with h | ⟨k,h0,h1,h2⟩
 · exact .inl h
 · exact .inr ⟨k,h0,h1,by rw [e k h0 (List.getElem?_eq_some_iff.mp h2).1]; exact h2⟩
theorem LI.dn {st T : AS} {s : LW} (h : LI st T s) : DnR T (.ref st.length) s.is:=by
 obtain ⟨zs,h1,h2,h3⟩:=h.zs
 refine ⟨zs,.inr ⟨_,rfl,h1⟩,h2,fun z hz=>?_⟩
 obtain ⟨so,a,b⟩:=h3 z hz
 refine ⟨so,a,?_⟩
 rcases b with b | ⟨k,_,b,c⟩
 · exact .inl b
 · exact .inr ⟨k,b,c⟩
theorem LI.up {st T T' : AS} {s : LW} (h : LI st T s) (e : ∀ i,i < T.length → T'[i]? = T[i]?) : LI st T' s:=by
 obtain ⟨zs,h1,h2,h3⟩:=h.zs
 have l1:=(List.getElem?_eq_some_iff.mp h1).1
 have l2:=(List.getElem?_eq_some_iff.mp h.id).1
 refine ⟨⟨zs,by rw [e _ l1]; exact h1,h2,fun z hz=>?_⟩,by rw [e _ l2]; exact h.id,fun i hi=>by rw [e i (by omega)]; exact h.low i hi⟩
 obtain ⟨so,a,b⟩:=h3 z hz
 exact ⟨so,a,b.up fun i _ hi=>e i hi⟩
end W9
namespace W9
open PySem VL G Kd
end W9
namespace W9
open PySem VL G Kd
theorem mem_put {κ α : Type} [DecidableEq κ] {l : List (κ × α)} {k : κ} {v : α} {x : κ × α} (h : x ∈ put l k v) : x ∈ l ∨ x = (k,v):=by
 unfold put at h
 split at h
 · obtain ⟨y,hy,rfl⟩:=List.mem_map.mp h
   split
   · rename_i e
     right
     rw [e]
   · exact .inl hy
 · rcases List.mem_append.mp h with h | h
   · exact .inl h
   · exact .inr (List.mem_singleton.mp h)
def OkI (m : Menu) (i : Dn) : Prop:=match i.dd with
 | .ask _ it _ ss=>(rowOf m it).isSome = true ∧ 0 ≤ i.nm.1 ∧ ss.length ≤ 1000
 | .change _ it=>(rowOf m it).isSome = true ∧ 0 ≤ i.nm.1
 | _=>True
theorem stt_has {is : List Dn} {n : Int} : (sttL is n).isSome = has (rowsT is) n:=by
 unfold sttL rowL
 rw [has_look]
 cases look (rowsT is) n <;> rfl
/-- what a page of the book may be -/
structure VdP (pg : Pg) : Prop where
 h0 : 0 ≤ pg.1.1
 dd : WsDd pg.2
 wd : WsD pg.2
 st : isSit pg.2 = true → Ws (seatOf pg.2)
end W9
namespace W9
open PySem VL G Kd
end W9
namespace W9
open PySem VL G Kd
def val (ow : Ow) (x : Str) : Int:=(look ow x).getD 0
theorem val_put (ow : Ow) (k x : Str) (v : Int) : val (put ow k v) x = if x = k then v else val ow x:=by
 unfold val
 rw [look_put]
 split <;> rfl
def sh (b f : Int) (lv : Bool) (x : Str) (m : Nat) (p : Str × Nat) : Int:=if p.1 = x ∧ lv = true then penceT b f m p.2 else 0
theorem seatStep_val {b f : Int} {m : Nat} {lv : Bool} {ow : Ow} {x : Str} (h : has ow x = true) (p : Str × Nat) : val (seatStep b f m lv ow p) x = val ow x + sh b f lv x m p ∧ has (seatStep b f m lv ow p) x = true:=by
 unfold seatStep sh
 by_cases e : p.1 = x
 · subst e
   cases lv with
   | true=>
     rw [h]
     simp only [Bool.and_self,if_true,and_self]
     refine ⟨by rw [val_put,if_pos rfl]; rfl,by rw [has_put]; simp⟩
   | false=>simp [h]
 · rw [if_neg (show ¬ (p.1 = x ∧ lv = true) from fun z=>e z.1)]
   split
   · refine ⟨by rw [val_put,if_neg (fun z=>e z.symm)]; omega,by rw [has_put,h,Bool.or_true]⟩
   · exact ⟨by omega,h⟩
theorem seats_val {b f : Int} {m : Nat} {lv : Bool} {x : Str} : ∀ (ps : List (Str × Nat)) (ow : Ow),has ow x = true → val (ps.foldl (seatStep b f m lv) ow) x = val ow x + (ps.map (sh b f lv x m)).sum ∧ has (ps.foldl (seatStep b f m lv) ow) x = true
 | [],ow,h=>⟨by simp,h⟩
 | p :: ps,ow,h=>by
   obtain ⟨e,h1⟩:=seatStep_val (b:=b) (f:=f) (m:=m) (lv:=lv) h p
   obtain ⟨e2,h2⟩:=seats_val (b:=b) (f:=f) (m:=m) (lv:=lv) ps _ h1
   refine ⟨?_,h2⟩
   rw [List.foldl_cons,e2,e,List.map_cons,List.sum_cons]
   omega
theorem sh_out {b f : Int} {lv : Bool} {x : Str} {m : Nat} : ∀ (ss : List Str) (k : Nat),x ∉ ss → ((ss.zipIdx k).map (sh b f lv x m)).sum = 0
 | [],k,_=>rfl
 | s :: ss,k,h=>by
   rw [List.zipIdx_cons,List.map_cons,List.sum_cons,sh_out ss (k + 1) (fun z=>h (List.mem_cons_of_mem _ z))]
   unfold sh
   rw [if_neg (fun z=>h (by rw [← z.1]; exact List.mem_cons_self))]
   rfl
theorem sh_sum {b f : Int} {lv : Bool} {x : Str} {m : Nat} : ∀ (ss : List Str) (k : Nat),ss.Nodup → ((ss.zipIdx k).map (sh b f lv x m)).sum = if x ∈ ss ∧ lv = true then penceT b f m ((k + ss.idxOf x : Nat)) else 0
 | [],k,_=>by simp
 | s :: ss,k,h=>by
   obtain ⟨h1,h2⟩:=List.nodup_cons.mp h
   rw [List.zipIdx_cons,List.map_cons,List.sum_cons]
   by_cases e : s = x
   · subst e
     rw [sh_out ss (k + 1) h1]
     unfold sh
     by_cases l : lv = true <;> simp [l]
   · rw [sh_sum ss (k + 1) h2]
     unfold sh
     rw [if_neg (fun z=>e z.1)]
     have : (s :: ss).idxOf x = ss.idxOf x + 1:=by
       have hb : (s == x) = false:=beq_eq_false_iff_ne.mpr e
       rw [List.idxOf_cons,hb]
       rfl
     rw [this]
     have e' : ¬ x = s:=fun z=>e z.symm
     have a : k + 1 + ss.idxOf x = k + (ss.idxOf x + 1):=by omega
     rw [a]
     simp [e']
/-- seats,cost,whether it is still to be paid -/
abbrev Tr:=List Str × Int × Bool
def goT : List Tr → Ends → Str → Int
 | [],_,_=>0
 | (ss,c,lv) :: rs,en,x=>(if x ∈ ss ∧ lv = true then penceT ((look en ss).getD 0) ((look en ss).getD 0 + c) ss.length (ss.idxOf x : Nat) else 0) + goT rs (put en ss ((look en ss).getD 0 + c)) x
def trL (m : Menu) (o : Offs) (r : Int × RowT) : Tr:=(r.2.seats,costT m o r.2.item r.2.min,livT r.2.state)
theorem owRows_val {m : Menu} {o : Offs} {x : Str} : ∀ (rs : List (Int × RowT)) (ow : Ow) (en : Ends),(∀ r ∈ rs,r.2.seats.Nodup) → has ow x = true → val (rs.foldl (owRow m o) (ow,en)).1 x = val ow x + goT (rs.map (trL m o)) en x ∧ has (rs.foldl (owRow m o) (ow,en)).1 x = true
 | [],ow,en,_,h=>⟨by simp [goT],h⟩
 | r :: rs,ow,en,hn,h=>by
   obtain ⟨e,h1⟩:=seats_val (b:=(look en r.2.seats).getD 0) (f:=(look en r.2.seats).getD 0 + costT m o r.2.item r.2.min) (m:=r.2.seats.length) (lv:=livT r.2.state) r.2.seats.zipIdx ow h
   rw [sh_sum r.2.seats 0 (hn r List.mem_cons_self)] at e
   obtain ⟨e2,h2⟩:=owRows_val (m:=m) (o:=o) rs _ (put en r.2.seats ((look en r.2.seats).getD 0 + costT m o r.2.item r.2.min)) (fun q hq=>hn q (List.mem_cons_of_mem _ hq)) h1
   refine ⟨?_,h2⟩
   rw [List.foldl_cons]
   show val (rs.foldl (owRow m o) (_,_)).1 x = _
   rw [e2,e,List.map_cons]
   show _ = val ow x + ((if x ∈ r.2.seats ∧ livT r.2.state = true then _ else _) + _)
   rw [Nat.zero_add]
   omega
def mvSum (xs : List (Str × Int)) (x : Str) : Int:=((xs.filter fun p=>decide (p.1 = x)).map (·.2)).sum
theorem mv_val {x : Str} : ∀ (xs : List (Str × Int)) (ow : Ow),has ow x = true → val (xs.foldl mvAdd ow) x = val ow x + mvSum xs x ∧ has (xs.foldl mvAdd ow) x = true
 | [],ow,h=>⟨by simp [mvSum],h⟩
 | p :: xs,ow,h=>by
   have h1 : has (mvAdd ow p) x = true:=by
     unfold mvAdd
     split
     · rw [has_put,h,Bool.or_true]
     · exact h
   obtain ⟨e,h2⟩:=mv_val xs (mvAdd ow p) h1
   refine ⟨?_,h2⟩
   rw [List.foldl_cons,e]
   unfold mvSum mvAdd
   rw [List.filter_cons]
   by_cases z : p.1 = x
   · subst z
     rw [if_pos h,val_put,if_pos rfl]
     simp [val]
     omega
   · rw [if_neg (show ¬ decide (p.1 = x) = true by simp [z])]
     split
     · rw [val_put,if_neg (fun y=>z y.symm)]
     · rfl
/-- what a page done moves for a seat -/
def moveI (i : Dn) (x : Str) : Int:=(match i.dd with
 | .pay s p=>if s = x then -p else 0
 | _=>0) + mvSum (mvsOf i) x
def movedL (is : List Dn) (x : Str) : Int:=(is.map fun i=>moveI i x).sum
theorem moves_val {x : Str} : ∀ (is : List Dn) (ow : Ow),has ow x = true → val (is.foldl mvStep ow) x = val ow x + movedL is x
 | [],ow,_=>by simp [movedL]
 | i :: is,ow,h=>by
   have hp : has (payStep ow i) x = true ∧ val (payStep ow i) x = val ow x + (match i.dd with | .pay s p=>if s = x then -p else 0 | _=>0):=by
     unfold payStep
     cases i.dd with
     | pay s p =>
       dsimp only
       by_cases z : s = x
       · subst z
         rw [if_pos h,if_pos rfl,val_put,if_pos rfl]
         refine ⟨by rw [has_put]; simp,?_⟩
         unfold val
         omega
       · rw [if_neg z]
         split
         · exact ⟨by rw [has_put,h,Bool.or_true],by rw [val_put,if_neg (fun y=>z y.symm)]; omega⟩
         · exact ⟨h,by omega⟩
     | _=>exact ⟨h,by simp⟩
   obtain ⟨e,h2⟩:=mv_val (mvsOf i) (payStep ow i) hp.1
   have ih:=moves_val is (mvStep ow i) h2
   rw [List.foldl_cons,ih]
   unfold mvStep movedL
   rw [e,hp.2,List.map_cons,List.sum_cons]
   unfold moveI
   omega
theorem zero_val (x : Str) : ∀ (ss : List Str) (ow : Ow),val ow x = 0 → val (ss.foldl (fun ow s=>put ow s 0) ow) x = 0
 | [],ow,h=>h
 | s :: ss,ow,h=>zero_val x ss _ (by rw [val_put]; split <;> simp [h])
theorem owedV_eq {m : Menu} {o : Offs} {is : List Dn} {ss : List Str} {x : Str} (hx : x ∈ ss) (hn : ∀ r ∈ rowsT is,r.2.seats.Nodup) : owedV m o is ss x = goT ((rowsT is).map (trL m o)) [] x + movedL is x:=by
 have h0 : has (zeroT ss) x = true:=has_zero x ss [] (.inl hx)
 obtain ⟨e,h1⟩:=owRows_val (m:=m) (o:=o) (rowsT is) (zeroT ss) [] hn h0
 show val (owedT m o is ss) x = _
 unfold owedT
 rw [moves_val is _ h1,e]
 have : val (zeroT ss) x = 0:=zero_val x ss [] rfl
 omega
end W9
namespace W9
open PySem VL G Kd
def entSum (w : Wk) (x : Str) : Int:=((w.entries.filter fun e=>decide (e.2.2.1 = x)).map (·.2.2.2)).sum
def trP (d : Int × Nat × Dish) : Tr:=(d.2.2.seats,d.2.2.cost,livT d.2.2.state)
theorem share_eq (d : Dish) (b : Int) (x : Str) (h : x ∈ d.seats) : shareT d b x = penceT b (b + d.cost) d.seats.length (d.seats.idxOf x : Nat):=by
 have hl : d.seats.idxOf x < d.seats.length:=List.idxOf_lt_length_of_mem h
 unfold shareT dealT penceT
 rw [List.getD_eq_getElem?_getD,List.getElem?_map,List.getElem?_range hl]
 show below _ _ _ - below _ _ _ = _
 unfold below
 have e1 : b + d.cost - (d.seats.idxOf x : Nat) + (d.seats.length : Int) - 1 = b + d.cost + d.seats.length - 1 - (d.seats.idxOf x : Nat):=by omega
 have e2 : b - (d.seats.idxOf x : Nat) + (d.seats.length : Int) - 1 = b + d.seats.length - 1 - (d.seats.idxOf x : Nat):=by omega
 rw [e1,e2]
theorem beg_keep : ∀ (ds : List (Int × Nat × Dish)) (s : List (Int × Int) × List (List Str × Int)) (n : Int),n ∉ ds.map (·.1) → look (ds.foldl begStep s).1 n = look s.1 n
 | [],s,n,_=>rfl
 | d :: ds,s,n,h=>by
   rw [List.foldl_cons,beg_keep ds _ n (fun z=>h (List.mem_cons_of_mem _ z))]
   unfold begStep
   dsimp only
   rw [look_put,if_neg (fun z=>h (by rw [z]; exact List.mem_cons_self))]
theorem rows_go {x : Str} : ∀ (ds : List (Int × Nat × Dish)) (s : List (Int × Int) × List (List Str × Int)),(ds.map (·.1)).Nodup → (((ds.map (rowT (ds.foldl begStep s).1 x)).flatten).map (·.2.2)).sum = goT (ds.map trP) s.2 x
 | [],s,_=>rfl
 | d :: ds,s,h=>by
   rw [List.map_cons,List.nodup_cons] at h
   have ih:=rows_go (x:=x) ds (begStep s d) h.2
   have lk : look (ds.foldl begStep (begStep s d)).1 d.1 = some ((look s.2 d.2.2.seats).getD 0):=by
     rw [beg_keep ds _ d.1 h.1]
     unfold begStep
     dsimp only
     rw [look_put,if_pos rfl]
   rw [List.foldl_cons,List.map_cons,List.flatten_cons,List.map_append,List.sum_append,ih]
   have e2 : (begStep s d).2 = put s.2 d.2.2.seats ((look s.2 d.2.2.seats).getD 0 + d.2.2.cost):=rfl
   rw [e2,List.map_cons]
   show _ = (if x ∈ d.2.2.seats ∧ livT d.2.2.state = true then _ else _) + _
   congr 1
   unfold rowT
   rw [lk]
   by_cases a : livT d.2.2.state = true
   · by_cases b : x ∈ d.2.2.seats
     · rw [if_pos (by simp [a,b]),if_pos ⟨b,a⟩]
       show shareT _ _ _ + 0 = _
       rw [Int.add_zero]
       exact share_eq _ _ _ b
     · rw [if_neg (by simp [b]),if_neg (fun z=>b z.1)]
       rfl
   · rw [if_neg (by simp [a]),if_neg (fun z=>a z.2)]
     rfl
theorem toPay_eq {w : Wk} (x : Str) (h : (w.dishes.map (·.1)).Nodup) : toPayT w x = entSum w x + goT (w.dishes.map trP) [] x:=by
 unfold toPayT accT
 rw [List.map_append,List.sum_append,List.map_map]
 have:=rows_go (x:=x) w.dishes ([],[]) h
 show _ + (((w.dishes.map (rowT (w.dishes.foldl begStep ([],[])).1 x)).flatten).map (·.2.2)).sum = _
 rw [this]
 rfl
/-- dish by dish the same -/
def likeR (m : Menu) (o : Offs) (d : Int × Nat × Dish) (r : Int × RowT) : Prop:=d.1 = r.1 ∧ d.2.2.item = r.2.item ∧ d.2.2.course = r.2.course ∧ d.2.2.seats = r.2.seats ∧ d.2.2.state = r.2.state ∧ d.2.2.cost = costT m o r.2.item r.2.min
inductive Like (m : Menu) (o : Offs) : List (Int × Nat × Dish) → List (Int × RowT) → Prop
 | nil : Like m o [] []
 | cons {d : Int × Nat × Dish} {r : Int × RowT} {ds : List (Int × Nat × Dish)} {rs : List (Int × RowT)} : likeR m o d r → Like m o ds rs → Like m o (d :: ds) (r :: rs)
theorem Like.tr {m : Menu} {o : Offs} {ds : List (Int × Nat × Dish)} {rs : List (Int × RowT)} (h : Like m o ds rs) : ds.map trP = rs.map (trL m o) ∧ ds.map (·.1) = rs.map (·.1):=by
 induction h with
 | nil=>exact ⟨rfl,rfl⟩
 | cons a _ ih =>
   obtain ⟨a1,a2,a3,a4,a5,a6⟩:=a
   rw [List.map_cons,List.map_cons,List.map_cons,List.map_cons,ih.1,ih.2,a1]
   refine ⟨?_,rfl⟩
   congr 1
   unfold trP trL
   rw [a4,a5,a6]
/-- the program's walk and the law's hold the same -/
structure Eqv (m : Menu) (o : Offs) (w : Wk) (s : LW) : Prop where
 me : w.menu = m
 of : w.offs = o
 tb : ∀ x,tabT w x = whereT s.is x
 di : Like m o w.dishes (rowsT s.is)
 mv : ∀ x,entSum w x = movedL s.is x
 ev : w.evens = s.ev
 id : w.reasons = s.idl
 se : ∀ r ∈ rowsT s.is,r.2.seats.Nodup
 dn : (w.dishes.map (·.1)).Nodup
 ky : ∀ x,x ∈ w.tables.map (·.1) ↔ x ∈ sitsL s.is
 kn : (w.tables.map (·.1)).Nodup
theorem Eqv.pay {m : Menu} {o : Offs} {w : Wk} {s : LW} (h : Eqv m o w s) {ss : List Str} {x : Str} (hx : x ∈ ss) : owedV m o s.is ss x = toPayT w x:=by
 rw [owedV_eq hx h.se,toPay_eq x h.dn,h.di.tr.1,h.mv]
 omega
theorem Eqv.sit {m : Menu} {o : Offs} {w : Wk} {s : LW} (h : Eqv m o w s) (x : Str) : sitsT w x = !decide (whereT s.is x = Str.ofString ""):=by
 rw [← h.tb]
 rfl
end W9
namespace W9
open PySem VL G Kd
section
variable {m : Menu} {o : Offs} {w : Wk} {s : LW}
theorem Like.look {ds : List (Int × Nat × Dish)} {rs : List (Int × RowT)} (h : Like m o ds rs) (n : Int) : (look ds n = none ∧ look rs n = none) ∨ ∃ p d r,look ds n = some (p,d) ∧ look rs n = some r ∧ likeR m o (n,p,d) (n,r):=by
 induction h with
 | nil=>exact .inl ⟨rfl,rfl⟩
 | cons a _ ih =>
   rename_i d r ds rs _
   rw [look_cons,look_cons]
   obtain ⟨a1,a2,a3,a4,a5,a6⟩:=a
   by_cases z : d.1 = n
   · rw [if_pos z,if_pos (a1 ▸ z)]
     exact .inr ⟨d.2.1,d.2.2,r.2,rfl,rfl,rfl,a2,a3,a4,a5,a6⟩
   · rw [if_neg z,if_neg (a1 ▸ z)]
     exact ih
theorem Eqv.has (h : Eqv m o w s) (n : Int) : has w.dishes n = (sttL s.is n).isSome:=by
 rw [stt_has,has_look,has_look]
 rcases h.di.look n with ⟨a,b⟩ | ⟨p,d,r,a,b,_⟩ <;> rw [a,b] <;> rfl
theorem Eqv.table (h : Eqv m o w s) (ss : List Str) : tableT w ss = atL s.is ss:=by
 unfold tableT atL
 congr 1
 induction ss with
 | nil=>rfl
 | cons x ss ih =>
   rw [List.filter_cons,List.map_cons,List.filter_cons,h.sit x]
   by_cases z : whereT s.is x = Str.ofString ""
   · rw [if_neg (by simp [z]),if_neg (by simp [z])]
     exact ih
   · rw [if_pos (by simp [z]),if_pos (by simp [z]),List.map_cons,ih,h.tb]
theorem Eqv.pick (h : Eqv m o w s) (q : Dish → Bool) (q' : RowT → Bool) (hq : ∀ p d r n,likeR m o (n,p,d) (n,r) → q d = q' r) (n : Int) : pickT w q n = pickL s.is q' n:=by
 unfold pickT dishT pickL rowL
 rcases h.di.look n with ⟨a,b⟩ | ⟨p,d,r,a,b,c⟩
 · rw [a,b]; rfl
 · rw [a,b]
   exact hq p d r n c
theorem Eqv.here (h : Eqv m o w s) (t : Str) : dishesAtT w t = hereL s.is t:=by
 unfold dishesAtT hereL
 rw [h.di.tr.2]
 exact List.filter_congr fun n _=>h.pick _ _ (fun p d r n c=>by rw [h.table,show d.seats = r.seats from c.2.2.2.1]) n
theorem Eqv.some_ (h : Eqv m o w s) (t : Str) (c : Int) : askedT w t c = someL s.is t c:=by
 unfold askedT someL
 rw [h.here]
 exact List.filter_congr fun n _=>h.pick _ _ (fun p d r n k=>by rw [show d.course = r.course from k.2.2.1,show d.state = r.state from k.2.2.2.2.1]) n
theorem Eqv.item (h : Eqv m o w s) (i : Str) : hasItem w i = decide (i ∈ wordsOf m):=by
 unfold hasItem wordsOf
 rw [h.me]
end
end W9
namespace W9
open PySem VL G Kd
theorem where_app (is : List Dn) (i : Dn) (x : Str) : whereT (is ++ [i]) x = whStep x (whereT is x) i:=by
 unfold whereT
 rw [List.foldl_append]
 rfl
theorem rows_app (is : List Dn) (i : Dn) : rowsT (is ++ [i]) = rowsStep (rowsT is) i:=by
 unfold rowsT
 rw [List.foldl_append]
 rfl
theorem moved_app (is : List Dn) (i : Dn) (x : Str) : movedL (is ++ [i]) x = movedL is x + moveI i x:=by
 unfold movedL
 rw [List.map_append,List.sum_append]
 show _ + (moveI i x + 0) = _
 rw [Int.add_zero]
theorem sits_app (is : List Dn) (i : Dn) (x : Str) : x ∈ sitsL (is ++ [i]) ↔ x ∈ sitsL is ∨ (isSit i.dd = true ∧ seatOf i.dd = x):=by
 rw [sitsL_eq,sitsL_eq,List.filter_append,List.map_append,List.mem_append]
 constructor
 · rintro (a | a)
   · exact .inl a
   · obtain ⟨y,hy,rfl⟩:=List.mem_map.mp a
     obtain ⟨h1,h2⟩:=List.mem_filter.mp hy
     rw [List.mem_singleton.mp h1] at h2 ⊢
     exact .inr ⟨h2,rfl⟩
 · rintro (a | ⟨a,rfl⟩)
   · exact .inl a
   · right
     exact List.mem_map.mpr ⟨i,List.mem_filter.mpr ⟨List.mem_singleton.mpr rfl,a⟩,rfl⟩
section
variable {m : Menu} {o : Offs} {w : Wk} {s : LW}
/-- only the tables change -/
theorem Eqv.tabs (h : Eqv m o w s) (i : Dn) (tb : List (Str × Str)) (h1 : ∀ rs,rowsStep rs i = rs) (h2 : ∀ x,moveI i x = 0) (h3 : ∀ x,(look tb x).getD (Str.ofString "") = whStep x (whereT s.is x) i) (h4 : ∀ x,x ∈ tb.map (·.1) ↔ x ∈ w.tables.map (·.1) ∨ (isSit i.dd = true ∧ seatOf i.dd = x)) (h5 : (tb.map (·.1)).Nodup) : Eqv m o { w with tables:=tb } ⟨s.is ++ [i],s.idl,s.ev⟩:=by
 refine ⟨h.me,h.of,fun x=>?_,?_,fun x=>?_,h.ev,h.id,?_,h.dn,fun x=>?_,h5⟩
 · rw [where_app]; exact h3 x
 · rw [rows_app,h1]; exact h.di
 · rw [moved_app,h2,Int.add_zero]; exact h.mv x
 · rw [rows_app,h1]; exact h.se
 · rw [sits_app,← h.ky]; exact h4 x
theorem Eqv.key (h : Eqv m o w s) {a : Str} (z : sitsT w a = true) : a ∈ w.tables.map (·.1):=by
 have:=sits_look z
 exact mem_keys.mp (has_of this)
theorem keys_put (l : List (Str × Str)) (k v x : Str) : x ∈ (put l k v).map (·.1) ↔ x = k ∨ x ∈ l.map (·.1):=by
 rw [← mem_keys,← mem_keys,has_put]
 simp
theorem Eqv.put (h : Eqv m o w s) (i : Dn) (a t : Str) (h1 : ∀ rs,rowsStep rs i = rs) (h2 : ∀ x,moveI i x = 0) (h3 : ∀ x T,whStep x T i = if a = x then t else T) (h4 : (isSit i.dd = true ∧ seatOf i.dd = a) ∨ (isSit i.dd = false ∧ a ∈ w.tables.map (·.1))) : Eqv m o (putTab w a t) ⟨s.is ++ [i],s.idl,s.ev⟩:=by
 refine h.tabs i (G.put w.tables a t) h1 h2 (fun x=>?_) (fun x=>?_) (put_nodup h.kn a t)
 · rw [h3,look_put,← h.tb]
   by_cases z : x = a
   · rw [if_pos z,if_pos z.symm]; rfl
   · rw [if_neg z,if_neg (fun y=>z y.symm)]; rfl
 · rw [keys_put]
   rcases h4 with ⟨b,c⟩ | ⟨b,c⟩
   · rw [c,b]
     constructor
     · rintro (e | e)
       · exact .inr ⟨rfl,e.symm⟩
       · exact .inl e
     · rintro (e | ⟨_,e⟩)
       · exact .inr e
       · exact .inl e.symm
   · constructor
     · rintro (e | e)
       · rw [e]; exact .inl c
       · exact .inl e
     · rintro (e | ⟨e,_⟩)
       · exact .inr e
       · rw [b] at e; cases e
end
end W9
namespace W9
open PySem VL G Kd
theorem Like.map {m : Menu} {o : Offs} {ds : List (Int × Nat × Dish)} {rs : List (Int × RowT)} (h : Like m o ds rs) {f : Int × Nat × Dish → Int × Nat × Dish} {g : Int × RowT → Int × RowT} (k : ∀ d r,likeR m o d r → likeR m o (f d) (g r)) : Like m o (ds.map f) (rs.map g):=by
 induction h with
 | nil=>exact .nil
 | cons a _ ih=>exact .cons (k _ _ a) ih
theorem Like.put {m : Menu} {o : Offs} {ds : List (Int × Nat × Dish)} {rs : List (Int × RowT)} (h : Like m o ds rs) {n : Int} {p : Nat} {d : Dish} {r : RowT} (k : likeR m o (n,p,d) (n,r)) (hn : has ds n = true) : Like m o (G.put ds n (p,d)) (G.put rs n r):=by
 have hr : has rs n = true:=by
   rw [mem_keys,← h.tr.2,← mem_keys]
   exact hn
 unfold G.put
 rw [if_pos hn,if_pos hr]
 refine h.map fun d' r' a=>?_
 have e : d'.1 = r'.1:=a.1
 by_cases z : d'.1 = n
 · rw [if_pos z,if_pos (e ▸ z)]
   exact ⟨e,k.2⟩
 · rw [if_neg z,if_neg (e ▸ z)]
   exact a
section
variable {m : Menu} {o : Offs} {w : Wk} {s : LW}
/-- only the dishes change -/
theorem Eqv.dish (h : Eqv m o w s) (i : Dn) (w' : Wk) (h1 : Like m o w'.dishes (rowsStep (rowsT s.is) i)) (h2 : ∀ x,moveI i x = 0) (h3 : ∀ x T,whStep x T i = T) (h4 : isSit i.dd = false) (h5 : ∀ r ∈ rowsStep (rowsT s.is) i,r.2.seats.Nodup) (h6 : (w'.dishes.map (·.1)).Nodup) (e1 : w'.menu = w.menu) (e2 : w'.offs = w.offs) (e3 : w'.tables = w.tables) (e4 : w'.entries = w.entries) (e5 : w'.evens = w.evens) (e6 : w'.reasons = w.reasons) : Eqv m o w' ⟨s.is ++ [i],s.idl,s.ev⟩:=by
 refine ⟨e1.trans h.me,e2.trans h.of,fun x=>?_,?_,fun x=>?_,e5.trans h.ev,e6.trans h.id,?_,h6,fun x=>?_,?_⟩
 · rw [where_app,h3,← h.tb]; unfold tabT; rw [e3]
 · rw [rows_app]; exact h1
 · rw [moved_app,h2,Int.add_zero,← h.mv]; unfold entSum; rw [e4]
 · rw [rows_app]; exact h5
 · rw [sits_app,h4,e3,← h.ky]
   simp
 · rw [e3]; exact h.kn
/-- a row put in place of another -/
theorem Eqv.put1 (h : Eqv m o w s) {n : Int} {p : Nat} {d : Dish} {r : RowT} (a : look w.dishes n = some (p, d)) (b : look (rowsT s.is) n = some r) (d' : Dish) (r' : RowT) (k : likeR m o (n, p, d') (n, r')) (hs : r'.seats = r.seats) :
   Like m o (G.put w.dishes n (p,d')) (G.put (rowsT s.is) n r') ∧ (∀ x ∈ G.put (rowsT s.is) n r',x.2.seats.Nodup) ∧ ((G.put w.dishes n (p,d')).map (·.1)).Nodup:=by
 refine ⟨h.di.put k (has_of a),fun x hx=>?_,put_nodup h.dn _ _⟩
 rcases W9.mem_put hx with hx | rfl
 · exact h.se x hx
 · show r'.seats.Nodup
   rw [hs]
   exact h.se _ (look_mem b)
theorem Eqv.turn (h : Eqv m o w s) (i : Dn) (n : Int) (t : Str) (nm : Nm) (hr : rowsStep (rowsT s.is) i = match look (rowsT s.is) n with | some r=>G.put (rowsT s.is) n { r with state:=t } | none=>rowsT s.is) (h2 : ∀ x,moveI i x = 0) (h3 : ∀ x T,whStep x T i = T) (h4 : isSit i.dd = false) : Eqv m o (turnT w n t nm) ⟨s.is ++ [i],s.idl,s.ev⟩:=by
 rcases h.di.look n with ⟨a,b⟩ | ⟨p,d,r,a,b,c⟩
 · rw [b] at hr
   have ht : turnT w n t nm = w:=by unfold turnT; rw [a]
   rw [ht]
   exact h.dish i w (by rw [hr]; exact h.di) h2 h3 h4 (by rw [hr]; exact h.se) h.dn rfl rfl rfl rfl rfl rfl
 · rw [b] at hr
   have ht : turnT w n t nm = putDish w n p (turnD d t nm):=by unfold turnT; rw [a]
   rw [ht]
   obtain ⟨q1,q2,q3⟩:=h.put1 a b (turnD d t nm) { r with state:=t } ⟨rfl,c.2.1,c.2.2.1,c.2.2.2.1,rfl,c.2.2.2.2.2⟩ rfl
   exact h.dish i _ (by rw [hr]; exact q1) h2 h3 h4 (by rw [hr]; exact q2) q3 rfl rfl rfl rfl rfl rfl
end
end W9
namespace W9
open PySem VL G Kd
/-- what a deed of the book may be,for the two walks to be the same -/
structure VdQ (dd : Dd) : Prop where
 vd : Vd dd
 jo : ∀ t ot,dd = .join t ot → ot ≠ Str.ofString ""
 as : ∀ n it c ss,dd = .ask n it c ss → ss.Nodup
end W9
namespace G
open PySem VL
noncomputable def B__law_draw_d1fe : En → AS → Fl :=
   (sSeq (sAsg (v2 (addD false) (v2 ixD (vVar 0) (vC (.str "turn"))) (vC (.int 1))) (kSub (vVar 0) (vC (.str "turn"))))
   (sSeq (sIf (vB (v2 gtD (v2 ixD (vVar 0) (vC (.str "left"))) (vC (.int 0)))) (sSeq (sSet 2 (v2 modD (v2 ixD (vVar 0) (vC (.str "left"))) (vVar 1)))
   (sSeq (sAsg (v2 fdivD (v2 ixD (vVar 0) (vC (.str "left"))) (vVar 1)) (kSub (vVar 0) (vC (.str "left"))))
   (sRet (vVar 2)))) sNext)
   (sSeq (sPar3 3 4 5 (vCons (v2 ixD (vVar 0) (vC (.str "at"))) (vCons (v2 ixD (vVar 0) (vC (.str "turn"))) (vCons (v2 ixD (vVar 0) (vC (.str "cells"))) vNil))))
   (sSeq (sAsg (v2 (addD false) (vVar 3) (vC (.int 1))) (kSub (vVar 0) (vC (.str "at"))))
   (sSeq (sSet 6 (vIfE (vB (v2 (eqD true) (vVar 5) (vA (gLst false) vNil))) (v2 ixD (vVar 5) (v2 modD (vVar 3) (vA (g1 lenD) (vCons (vVar 5) vNil)))) (vC (.int 349))))
   (sSeq (sIf (vAnd (vB (v2 geD (vVar 6) (v2 powD (vC (.int 10)) (vC (.int 18))))) (vB (v2 ltD (vVar 3) (vA (g1 lenD) (vCons (vVar 5) vNil))))) (sSeq (sAsg (v2 fdivD (vVar 6) (vVar 1)) (kSub (vVar 0) (vC (.str "left"))))
   (sRet (v2 modD (vVar 6) (vVar 1)))) sNext)
   (sSeq (sSet 7 (v2 modD (v2 powD (v2 (addD false) (v2 (addD false) (v2 modD (vVar 6) (vC (.int 2147483489))) (v2 (mulD false) (v2 (mulD false) (vC (.int 1009)) (vVar 4)) (vVar 4))) (vC (.int 47))) (vC (.int 5))) (vC (.int 2147483477))))
   (sRet (v2 modD (v2 fdivD (v2 modD (v2 powD (v2 (addD false) (vVar 7) (v2 (mulD false) (vC (.int 57001)) (vVar 4))) (vC (.int 5))) (vC (.int 2147483423))) (vC (.int 16))) (vVar 1))))))))))
noncomputable def F__law_draw_d1fe : List D → AS → Out D:=vFn 8 0 B__law_draw_d1fe
end G
namespace W26
open PySem VL G Kd W9
def fdC (ns : List Int) (a b c : Int) : C:=.dct [(.inr (Str.ofString "cells"),.lst (ns.map D.int)),(.inr (Str.ofString "at"),.int a),(.inr (Str.ofString "left"),.int b),(.inr (Str.ofString "turn"),.int c)]
section
variable {i : Nat} {ns : List Int} {a b c : Int} {st : AS}
theorem fd_cells (h : st[i]? = some (fdC ns a b c)) : ixD (.ref i) (.str (Str.ofString "cells")) st = .ok (.lst (ns.map D.int)) st:=by simp -implicitDefEqProofs [h,fdC,ofs_inj]
theorem fd_at (h : st[i]? = some (fdC ns a b c)) : ixD (.ref i) (.str (Str.ofString "at")) st = .ok (.int a) st:=by simp -implicitDefEqProofs [h,fdC,ofs_inj]
theorem fd_left (h : st[i]? = some (fdC ns a b c)) : ixD (.ref i) (.str (Str.ofString "left")) st = .ok (.int b) st:=by simp -implicitDefEqProofs [h,fdC,ofs_inj]
theorem fd_turn (h : st[i]? = some (fdC ns a b c)) : ixD (.ref i) (.str (Str.ofString "turn")) st = .ok (.int c) st:=by simp -implicitDefEqProofs [h,fdC,ofs_inj]
theorem l4 : (4 : Nat) < sizeLine:=by rw [sizeLine_eq]; omega
theorem fd_setat (h : st[i]? = some (fdC ns a b c)) (x : Int) : setD (.ref i) (.str (Str.ofString "at")) (.int x) st = .ok () (st.set i (fdC ns x b c)):=by simp -implicitDefEqProofs [h,fdC,ofs_inj,putKD,l4]
theorem fd_setleft (h : st[i]? = some (fdC ns a b c)) (x : Int) : setD (.ref i) (.str (Str.ofString "left")) (.int x) st = .ok () (st.set i (fdC ns a x c)):=by simp -implicitDefEqProofs [h,fdC,ofs_inj,putKD,l4]
theorem fd_setturn (h : st[i]? = some (fdC ns a b c)) (x : Int) : setD (.ref i) (.str (Str.ofString "turn")) (.int x) st = .ok () (st.set i (fdC ns a b x)):=by simp -implicitDefEqProofs [h,fdC,ofs_inj,putKD,l4]
end
def mx (z t : Int) : Int:=((((z % 2147483489 + 1009 * t * t + 47) ^ 5 % 2147483477 + 57001 * t) ^ 5) % 2147483423) / 16
def cellT (ns : List Int) (a : Int) : Int:=if ns = [] then 349 else (ns[(a % ns.length).toNat]?).getD 0
theorem draw_eq {i : Nat} {ns : List Int} {a b c m : Int} {st : AS} (h : st[i]? = some (fdC ns a b c)) (hm : 0 < m) (hm2 : m < 2 ^ 62) (ha : 0 ≤ a) (hc : 0 ≤ c) (hcT : c < 2 ^ 20) (hn : ns.length ≤ 1000000) :
   ∃ r a' b',F__law_draw_d1fe [.ref i,.int m] st = .ok (.int r) (st.set i (fdC ns a' b' (c + 1))) ∧ 0 ≤ r ∧ r < m ∧ 0 ≤ a':=by
 have hl : i < st.length:=(List.getElem?_eq_some_iff.mp h).1
 have g : ∀ x : C,(st.set i x)[i]? = some x:=fun x=>List.getElem?_set_self hl
 have ss : ∀ x y : C,(st.set i x).set i y = st.set i y:=fun x y=>List.set_set ..
 have lg : m.natAbs.log2 < 9000:=Nat.lt_of_le_of_lt (Nat.log2_lt (show m.natAbs ≠ 0 by omega) |>.mpr (show m.natAbs < 2 ^ 62 by omega) |> Nat.le_of_lt) (by decide)
 have dm : ∀ x : Int,L2.CDivW x m:=fun x=>⟨hm,lg⟩
 have d16 : ∀ x : Int,L2.CDivW x 16:=fun x=>⟨by decide,by decide⟩
 have t1:=fd_turn h
 have t2:=fd_setturn h (c + 1)
 have l1 : ∀ b',ixD (.ref i) (.str (Str.ofString "left")) (st.set i (fdC ns a b' (c + 1))) = .ok (.int b') (st.set i (fdC ns a b' (c + 1))):=fun b'=>fd_left (g _)
 have l2 : ∀ a' b' x,setD (.ref i) (.str (Str.ofString "left")) (.int x) (st.set i (fdC ns a' b' (c + 1))) = .ok () (st.set i (fdC ns a' x (c + 1))):=fun a' b' x=>by
   rw [fd_setleft (g _),ss]
 by_cases hb : 0 < b
 · refine ⟨b % m,a,b / m,?_,Int.emod_nonneg _ (by omega),Int.emod_lt_of_pos _ hm,ha⟩
   simp -implicitDefEqProofs [-ixD,-setD,F__law_draw_d1fe,B__law_draw_d1fe,t1,t2,l1,l2,hb,hm,dm]
 · have k1 : ∀ b',ixD (.ref i) (.str (Str.ofString "at")) (st.set i (fdC ns a b' (c + 1))) = .ok (.int a) (st.set i (fdC ns a b' (c + 1))):=fun b'=>fd_at (g _)
   have k2 : ∀ b',ixD (.ref i) (.str (Str.ofString "turn")) (st.set i (fdC ns a b' (c + 1))) = .ok (.int (c + 1)) (st.set i (fdC ns a b' (c + 1))):=fun b'=>fd_turn (g _)
   have k3 : ∀ b',ixD (.ref i) (.str (Str.ofString "cells")) (st.set i (fdC ns a b' (c + 1))) = .ok (.lst (ns.map D.int)) (st.set i (fdC ns a b' (c + 1))):=fun b'=>fd_cells (g _)
   have k4 : setD (.ref i) (.str (Str.ofString "at")) (.int (a + 1)) (st.set i (fdC ns a b (c + 1))) = .ok () (st.set i (fdC ns (a + 1) b (c + 1))):=by
     rw [fd_setat (g _),ss]
   have ne:=fun S=>ne_ints (xs:=ns) true S
   have pw : L2.CPow 10 18:=⟨by decide,by decide,by decide⟩
   generalize ht : c + 1 = t at *
   have t0 : 0 ≤ t:=by omega
   have t9 : t ≤ 2 ^ 20:=by omega
   have tt : 0 ≤ 1009 * t * t ∧ 1009 * t * t ≤ 1009 * 2 ^ 20 * 2 ^ 20:=⟨Int.mul_nonneg (by omega) t0,Int.mul_le_mul (by omega) t9 t0 (by decide)⟩
   have mo : VL.MulOk 1009 t:=.inl (.inl ⟨by decide,by decide⟩)
   have mo3 : VL.MulOk 57001 t:=.inl (.inl ⟨by decide,by decide⟩)
   have mo2 : VL.MulOk (1009 * t) t:=.inl (.inr ⟨by omega,by omega⟩)
   have p1 : ∀ z : Int,L2.CPow (z % 2147483489 + 1009 * t * t + 47) 5:=fun z=>by
     have h1:=Int.emod_nonneg z (show (2147483489 : Int) ≠ 0 by decide)
     have h2:=Int.emod_lt_of_pos z (show (0 : Int) < 2147483489 by decide)
     refine ⟨by decide,by decide,?_⟩
     generalize 1009 * t * t = u at *
     omega
   have p2 : ∀ z : Int,L2.CPow (z % 2147483477 + 57001 * t) 5:=fun z=>by
     have h1:=Int.emod_nonneg z (show (2147483477 : Int) ≠ 0 by decide)
     have h2:=Int.emod_lt_of_pos z (show (0 : Int) < 2147483477 by decide)
     refine ⟨by decide,by decide,?_⟩
     omega
   have z6 : ∀ S : AS,vIfE (vB (v2 (eqD true) (vVar 5) (vA (gLst false) vNil))) (v2 ixD (vVar 5) (v2 modD (vVar 3) (vA (g1 lenD) (vCons (vVar 5) vNil)))) (vC (.int 349)) [some (.ref i),some (.int m),none,some (.int a),some (.int t),some (.lst (ns.map D.int)),none,none] S = .ok (.int (cellT ns a)) S:=fun S=>by
     have l0 : (0 : Nat) ≤ sizeLine:=by rw [sizeLine_eq]; omega
     by_cases e : ns = []
     · subst e
       have q:=ne S
       simp only [List.map_nil,List.isEmpty_nil] at q
       simp -implicitDefEqProofs [q,mk,l0,cellT]
     · have hp : 0 < ns.length:=List.length_pos_iff.mpr e
       have hp' : (0 : Int) < ns.length:=by omega
       have h1:=Int.emod_nonneg a (show (ns.length : Int) ≠ 0 by omega)
       have h2:=Int.emod_lt_of_pos a (show (0 : Int) < ns.length by omega)
       have hlt : (a % ns.length).toNat < ns.length:=by omega
       have em : ns.isEmpty = false:=by cases ns <;> simp_all
       have q:=ne S
       rw [em] at q
       simp -implicitDefEqProofs [q,mk,l0,cellT,e,hp,hp',L2.atI,L2.ixN,h1,h2,hlt]
   generalize cellT ns a = z at *
   have ln : ∀ S : AS,lenD (.lst (ns.map D.int)) S = .ok (.int ns.length) S:=fun S=>by simp
   have fin : ((z % 2147483489 + 1009 * t * t + 47) ^ 5 % 2147483477 + 57001 * t) ^ 5 % 2147483423 / 16 % m = mx z t % m:=rfl
   by_cases q1 : (1000000000000000000 : Int) ≤ z
   · by_cases q2 : a < ns.length
     · refine ⟨z % m,a + 1,z / m,?_,Int.emod_nonneg _ (by omega),Int.emod_lt_of_pos _ hm,by omega⟩
       simp only [vB] at z6
       simp -implicitDefEqProofs [-ixD,-setD,-lenD,-vIfE,F__law_draw_d1fe,B__law_draw_d1fe,t1,ht,t2,l1,l2,k1,k2,k3,k4,z6,hb,hm,dm,pw,q1,q2,ln]
     · refine ⟨mx z t % m,a + 1,b,?_,Int.emod_nonneg _ (by omega),Int.emod_lt_of_pos _ hm,by omega⟩
       simp only [vB] at z6
       simp -implicitDefEqProofs [-ixD,-setD,-lenD,-vIfE,F__law_draw_d1fe,B__law_draw_d1fe,t1,ht,t2,l1,l2,k1,k2,k3,k4,z6,hb,hm,dm,d16,pw,q1,q2,ln,mo,mo2,mo3,p1,p2,fin]
   · refine ⟨mx z t % m,a + 1,b,?_,Int.emod_nonneg _ (by omega),Int.emod_lt_of_pos _ hm,by omega⟩
     simp only [vB] at z6
     simp -implicitDefEqProofs [-ixD,-setD,-lenD,-vIfE,F__law_draw_d1fe,B__law_draw_d1fe,t1,ht,t2,l1,l2,k1,k2,k3,k4,z6,hb,hm,dm,d16,pw,q1,ln,mo,mo2,mo3,p1,p2,fin]
end W26
namespace W26
open PySem VL G Kd W9
structure Fw (i : Nat) (ns : List Int) (n : Nat) (st : AS) : Prop where
 h : ∃ a b c,st[i]? = some (fdC ns a b c) ∧ 0 ≤ a ∧ 0 ≤ c ∧ c ≤ n
 nl : ns.length ≤ 1000000
section
variable {i : Nat} {ns : List Int} {n : Nat} {st : AS}
theorem Fw.mono {m : Nat} (h : Fw i ns n st) (hm : n ≤ m) : Fw i ns m st:=by
 obtain ⟨⟨a,b,c,h1,h2,h3,h4⟩,k⟩:=h
 exact ⟨⟨a,b,c,h1,h2,h3,by omega⟩,k⟩
theorem Fw.lt (h : Fw i ns n st) : i < st.length:=by
 obtain ⟨⟨a,b,c,h1,_⟩,_⟩:=h
 exact (List.getElem?_eq_some_iff.mp h1).1
theorem Fw.to {st' : AS} (h : Fw i ns n st) (e : st'[i]? = st[i]?) : Fw i ns n st':=by
 obtain ⟨⟨a,b,c,h1,h2,h3,h4⟩,k⟩:=h
 exact ⟨⟨a,b,c,by rw [e]; exact h1,h2,h3,h4⟩,k⟩
theorem Fw.push (h : Fw i ns n st) (X : List C) : Fw i ns n (st ++ X):=h.to (List.getElem?_append_left h.lt)
theorem Fw.put {j : Nat} (h : Fw i ns n st) (c : C) (hj : j ≠ i) : Fw i ns n (st.set j c):=h.to (List.getElem?_set_ne hj)
end
/-- a step that changes the feed alone -/
structure Dw (i : Nat) (ns : List Int) (n : Nat) (st st' : AS) : Prop where
 fd : Fw i ns n st'
 len : st'.length = st.length
 at_ : ∀ j,j ≠ i → st'[j]? = st[j]?
theorem Dw.refl {i : Nat} {ns : List Int} {n : Nat} {st : AS} (h : Fw i ns n st) : Dw i ns n st st:=⟨h,rfl,fun _ _=>rfl⟩
theorem Dw.trans {i : Nat} {ns : List Int} {n m : Nat} {a b c : AS} (h : Dw i ns n a b) (k : Dw i ns m b c) : Dw i ns m a c:=⟨k.fd,k.len.trans h.len,fun j hj=>(k.at_ j hj).trans (h.at_ j hj)⟩
theorem draw_ok {i : Nat} {ns : List Int} {n : Nat} {st : AS} {m : Int} (h : Fw i ns n st) (hn : n < 1000000) (h0 : 0 < m) (h1 : m < 4611686018427387904) :
   ∃ r st1,F__law_draw_d1fe [.ref i,.int m] st = .ok (.int r) st1 ∧ 0 ≤ r ∧ r < m ∧ Dw i ns (n + 1) st st1:=by
 obtain ⟨⟨a,b,c,e,ha,hc,hcn⟩,nl⟩:=h
 have p20 : (2 : Int) ^ 20 = 1048576:=by decide
 have p62 : (2 : Int) ^ 62 = 4611686018427387904:=by decide
 obtain ⟨r,a',b',q,r0,r1,ha'⟩:=draw_eq (m:=m) e h0 (by omega) ha hc (by omega) nl
 have hl : i < st.length:=(List.getElem?_eq_some_iff.mp e).1
 exact ⟨r,_,q,r0,r1,⟨⟨⟨a',b',c + 1,List.getElem?_set_self hl,ha',by omega,by omega⟩,nl⟩,by simp,fun j hj=>List.getElem?_set_ne (Ne.symm hj)⟩⟩
end W26
namespace WG
open PySem VL G Kd W9 W26
/-- a draw: some number below,the feed goes on -/
abbrev DrawOk (dr : List D → AS → Out D) : Prop:=∀ {i : Nat} {ns : List Int} {n : Nat} {st : AS} {m : Int},Fw i ns n st → n < 1000000 → 0 < m → m < 4611686018427387904 → ∃ r st1,dr [.ref i,.int m] st = .ok (.int r) st1 ∧ 0 ≤ r ∧ r < m ∧ Dw i ns (n + 1) st st1
end WG
namespace W26
open PySem VL G Kd W9
def abcS : Str:=Str.ofString "abcdefghijklmnopqrstuvwxyz"
def chS (c : Nat) : Str:=⟨#[c]⟩
def rot (k : Nat) (w : Str) : Str:=Txt.join (Str.ofString "") (w.cps.toList.map fun c=>chS (97 + (c - 97 + k) % 26))
def lowW (w : Str) : Bool:=w.cps.toList.all (fun c=>decide (97 ≤ c ∧ c < 123)) && decide (w.length ≤ 20)
theorem fnd : ∀ c : Fin 26,Txt.find abcS (chS (97 + c.val)) = ((c.val : Nat) : Int):=by decide +kernel
theorem atS : ∀ k : Fin 26,L2.atI abcS.cps.toList ((k.val : Nat) : Int) = some (97 + k.val):=by decide +kernel
noncomputable abbrev wdE : En → AS → Out D:=(v2 ixD (vVar 3) (v2 modD (v2 (addD false) (vMS findD (vVar 3) (vCons (vVar 9) vNil)) (vVar 4)) (vC (.int 26))))
theorem rot_one {x0 x1 x2 x5 x6 x7 x8 : D} {k c : Nat} (hc : 97 ≤ c ∧ c < 123) (st : AS) : wdE [some x0,some x1,some x2,some (.str abcS),some (.int (k : Nat)),some x5,some x6,some x7,some x8,some (.str (chS c))] st = .ok (.str (chS (97 + (c - 97 + k) % 26))) st:=by
 have f:=fnd ⟨c - 97,by omega⟩
 have e : 97 + (c - 97) = c:=by omega
 simp only [e] at f
 have hk : ((c - 97 : Nat) : Int) + (k : Nat) = ((c - 97 + k : Nat) : Int):=by omega
 have a:=atS ⟨(c - 97 + k) % 26,Nat.mod_lt _ (by decide)⟩
 simp only at a
 have hm : (((c - 97 + k : Nat) : Int)) % 26 = (((c - 97 + k) % 26 : Nat) : Int):=by omega
 rw [← hm,← hk] at a
 have ll : abcS.length ≤ sizeLine:=by rw [sizeLine_eq]; decide +kernel
 simp only [chS] at f a ⊢
 simp -implicitDefEqProofs [wdE,f,a,ll]
theorem rot_comp {x0 x1 x2 x5 x6 x7 : D} {k : Nat} {w : Str} (hw : lowW w = true) (st : AS) : compL (kName 9) tYesV wdE [some x0,some x1,some x2,some (.str abcS),some (.int (k : Nat)),some x5,some x6,some x7,some (.str w),none] [] (w.cps.toList.map fun c=>.str ⟨#[c]⟩) st = .ok ((w.cps.toList.map fun c=>chS (97 + (c - 97 + k) % 26)).map D.str) st:=by
 rw [comp_all (fun c : Nat=>D.str ⟨#[c]⟩) (fun c=>.str (chS (97 + (c - 97 + k) % 26))) ok_nil _ ?c]
 · rw [List.map_map]; rfl
 case c =>
   intro c hc
   have h1:=(Bool.and_eq_true_iff.mp hw).1
   have h2:=of_decide_eq_true (List.all_eq_true.mp h1 c hc)
   exact ⟨_,rfl,rfl,rot_one h2 st⟩
end W26
namespace W26
open PySem VL G Kd W9
noncomputable abbrev wdB : En → AS → Fl := (sKill [7, 8] (sSeq (sSet 8 (vML popAtD (vVar 6) (vCons (vCallA 2 0 [] [.pos 0, .pos 1] F__law_draw_d1fe (vCons (vVar 0) (vCons (vA (g1 lenD) (vCons (vVar 6) vNil)) vNil)) vNil) vNil)))
   (sExpr (vML appD (vVar 5) (vCons (vMS joinD (vC (.str "")) (vCons (vLc false [9] (v1 itD (vVar 8)) (kName 9) tYesV wdE) vNil)) vNil)))))
theorem erase_map {α β : Type} (f : α → β) : ∀ (P : List α) (r : Nat),(P.map f).eraseIdx r = (P.eraseIdx r).map f
 | [],_=>rfl
 | x :: P,0=>rfl
 | x :: P,r + 1=>by
   rw [List.map_cons,List.eraseIdx_cons_succ,List.eraseIdx_cons_succ,List.map_cons,erase_map f P r]
theorem perm_cons {α : Type} : ∀ (P : List α) (r : Nat) {d : α},P[r]? = some d → (d :: P.eraseIdx r).Perm P
 | [],r,d,h=>by simp at h
 | x :: P,0,d,h=>by
   simp at h
   subst h
   exact List.Perm.refl _
 | x :: P,r + 1,d,h=>by
   rw [List.getElem?_cons_succ] at h
   rw [List.eraseIdx_cons_succ]
   exact (List.Perm.swap x d _).trans ((perm_cons P r h).cons x)
theorem perm_step {α : Type} (A P : List α) {r : Nat} {d : α} (h : P[r]? = some d) : ((A ++ [d]) ++ P.eraseIdx r).Perm (A ++ P):=by
 rw [List.append_assoc]
 exact List.Perm.append_left A (perm_cons P r h)
theorem lowW_len {w : Str} (h : lowW w = true) : w.cps.toList.length ≤ 20:=by
 have:=of_decide_eq_true (Bool.and_eq_true_iff.mp h).2
 simpa [PySem.Str.length] using this
theorem join_len (ys : List Str) (h : ∀ y ∈ ys,y.length = 1) : (ys.map (·.length)).sum = ys.length:=by
 induction ys with
 | nil=>rfl
 | cons y ys ih =>
   rw [List.map_cons,List.sum_cons,h y List.mem_cons_self,ih fun z hz=>h z (List.mem_cons_of_mem _ hz),List.length_cons]
   omega
theorem words_loop {i L : Nat} {ns : List Int} {k : Nat} {x1 x2 : D} : ∀ (js : List D) (N : Nat) (S : AS) (A P : List Str), Fw i ns N S → N + js.length < 100000 → i ≠ L → i ≠ L + 1 → S[L]? = some (.lst ((A.map (rot k)).map D.str)) → S[L + 1]? = some (.lst (P.map D.str)) → js.length ≤ P.length → A.length + js.length ≤ 1000 → P.length ≤ 1000 → (∀ w ∈ P, lowW w = true) →
   ∃ (S' : AS) (A' P' : List Str),forL (kName 7) wdB [] js [some (.ref i),some x1,some x2,some (.str abcS),some (.int (k : Nat)),some (.ref L),some (.ref (L + 1)),none,none,none] S = .nx [some (.ref i),some x1,some x2,some (.str abcS),some (.int (k : Nat)),some (.ref L),some (.ref (L + 1)),none,none,none] S' ∧ Fw i ns (N + js.length) S' ∧ S'[L]? = some (.lst ((A'.map (rot k)).map D.str)) ∧ (A' ++ P').Perm (A ++ P) ∧ A'.length = A.length + js.length ∧ S'.length = S.length ∧ ∀ j,j ≠ i → j ≠ L → j ≠ L + 1 → S'[j]? = S[j]?
 | [],N,S,A,P,f,_,_,_,hA,hP,_,_,_,_=>⟨S,A,P,by simp [forL],f,hA,List.Perm.refl _,rfl,rfl,fun _ _ _ _=>rfl⟩
 | d :: js,N,S,A,P,f,hN,i1,i2,hA,hP,hl,ha,hp,hw=>by
   simp only [List.length_cons] at hN hl ha
   obtain ⟨r,S1,e1,r0,r1,D1⟩:=draw_ok (m:=(P.length : Nat)) f (by omega) (by omega) (by omega)
   obtain ⟨rn,rfl⟩ : ∃ rn : Nat,r = rn:=⟨r.toNat,by omega⟩
   have hr : rn < P.length:=by omega
   have hA1 : S1[L]? = some (.lst ((A.map (rot k)).map D.str)):=by rw [D1.at_ L (Ne.symm i1)]; exact hA
   have hP1 : S1[L + 1]? = some (.lst (P.map D.str)):=by rw [D1.at_ (L + 1) (Ne.symm i2)]; exact hP
   have wk : P[rn]? = some P[rn]:=List.getElem?_eq_getElem hr
   have wl : lowW P[rn] = true:=hw _ (List.getElem_mem hr)
   generalize hW : P[rn] = w at *
   have sl : P.length ≤ sizeLine:=by rw [sizeLine_eq]; omega
   have L0:=(List.getElem?_eq_some_iff.mp hA1).1
   have L1:=(List.getElem?_eq_some_iff.mp hP1).1
   -- the pool
   have ep : (P.map D.str).eraseIdx rn = (P.eraseIdx rn).map D.str:=erase_map D.str P rn
   have pop : popAtD (.ref (L + 1)) [.int (rn : Nat)] S1 = .ok (.str w) (S1.set (L + 1) (.lst ((P.eraseIdx rn).map D.str))):=by
     have ix : L2.ixN (P.map D.str).length (rn : Nat) = some rn:=by
       rw [List.length_map]
       unfold L2.ixN
       split <;> simp_all
     have at_ : (P.map D.str)[rn]? = some (.str w):=by rw [List.getElem?_map,wk]; rfl
     rw [← ep]
     generalize P.map D.str = Q at *
     have b1 : (-9223372036854775808 : Int) ≤ (rn : Nat) ∧ ((rn : Nat) : Int) < 9223372036854775808:=by omega
     simp -implicitDefEqProofs [hP1,ix,at_,b1]
   have hA2 : (S1.set (L + 1) (.lst ((P.eraseIdx rn).map D.str)))[L]? = some (.lst ((A.map (rot k)).map D.str)):=by rw [List.getElem?_set_ne (by omega)]; exact hA1
   have hP2 : (S1.set (L + 1) (.lst ((P.eraseIdx rn).map D.str)))[L + 1]? = some (.lst ((P.eraseIdx rn).map D.str)):=List.getElem?_set_self L1
   have f2:=D1.fd.put (.lst ((P.eraseIdx rn).map D.str)) (Ne.symm i2)
   generalize hS2 : S1.set (L + 1) (.lst ((P.eraseIdx rn).map D.str)) = S2 at *
   have S2l : S2.length = S.length:=by rw [← hS2,List.length_set,D1.len]
   have S2a : ∀ j,j ≠ i → j ≠ L + 1 → S2[j]? = S[j]?:=fun j h1 h2=>by rw [← hS2,List.getElem?_set_ne (Ne.symm h2),D1.at_ j h1]
   have al : ((A.map (rot k)).map D.str).length < sizeLine:=by rw [List.length_map,List.length_map,sizeLine_eq]; omega
   have app : appD (.ref L) [.str (rot k w)] S2 = .ok .non (S2.set L (.lst (((A ++ [w]).map (rot k)).map D.str))):=by
     have e : ((A ++ [w]).map (rot k)).map D.str = (A.map (rot k)).map D.str ++ [.str (rot k w)]:=by simp
     rw [e]
     generalize (A.map (rot k)).map D.str = Q at *
     simp -implicitDefEqProofs [hA2,al]
   have hA3 : (S2.set L (.lst (((A ++ [w]).map (rot k)).map D.str)))[L]? = some (.lst (((A ++ [w]).map (rot k)).map D.str)):=List.getElem?_set_self (List.getElem?_eq_some_iff.mp hA2).1
   have hP3 : (S2.set L (.lst (((A ++ [w]).map (rot k)).map D.str)))[L + 1]? = some (.lst ((P.eraseIdx rn).map D.str)):=by rw [List.getElem?_set_ne (by omega)]; exact hP2
   have el : (P.eraseIdx rn).length = P.length - 1:=List.length_eraseIdx_of_lt hr
   obtain ⟨S',A',P',e4,f4,g4,p4,l4,s4,a4⟩:=words_loop (x1:=x1) (x2:=x2) js (N + 1) _ (A ++ [w]) (P.eraseIdx rn) (f2.put (.lst (((A ++ [w]).map (rot k)).map D.str)) (Ne.symm i1)) (by omega) i1 i2 hA3 hP3 (by omega) (by rw [List.length_append,List.length_singleton]; omega) (by omega) (fun y hy=>hw y ((List.eraseIdx_sublist P rn).subset hy))
   have cm:=rot_comp (x0:=.ref i) (x1:=x1) (x2:=x2) (x5:=.ref L) (x6:=.ref (L + 1)) (x7:=d) (k:=k) wl S2
   have jn : joinD (.str (Str.ofString "")) [.lst ((w.cps.toList.map fun c=>chS (97 + (c - 97 + k) % 26)).map D.str)] S2 = .ok (.str (rot k w)) S2:=by
     have e1 : strsOf ((w.cps.toList.map fun c=>chS (97 + (c - 97 + k) % 26)).map D.str) = some (w.cps.toList.map fun c=>chS (97 + (c - 97 + k) % 26)):=strs_of _
     have e2:=join_len (w.cps.toList.map fun c=>chS (97 + (c - 97 + k) % 26)) (fun y hy=>by
       obtain ⟨c,_,rfl⟩:=List.mem_map.mp hy
       rfl)
     have e3:=lowW_len wl
     rw [List.length_map] at e2
     have e0 : (Str.ofString "").length = 0:=by decide +kernel
     have rt : rot k w = Txt.join (Str.ofString "") (w.cps.toList.map fun c=>chS (97 + (c - 97 + k) % 26)):=rfl
     rw [rt]
     have e4 : (w.cps.toList.map fun c=>chS (97 + (c - 97 + k) % 26)).length ≤ 20:=by rw [List.length_map]; exact e3
     generalize w.cps.toList.map (fun c=>chS (97 + (c - 97 + k) % 26)) = ys at *
     simp -implicitDefEqProofs only [joinD,seqOf,VL.listOf,e1]
     rw [if_pos (by rw [e2,e0]; omega)]
   refine ⟨S',A',P',?_,by rw [show N + (d :: js).length = N + 1 + js.length by simp; omega]; exact f4,g4,p4.trans (perm_step A P wk),by rw [l4,List.length_append,List.length_singleton,List.length_cons]; omega,by rw [s4,List.length_set,S2l],fun j h1 h2 h3=>by rw [a4 j h1 h2 h3,List.getElem?_set_ne (Ne.symm h2),S2a j h1 h3]⟩
   have wz : (w.cps.toList.map fun c=>D.str ⟨#[c]⟩).length ≤ sizeLine:=by
     have:=lowW_len wl
     rw [List.length_map,sizeLine_eq]
     omega
   have its : itD (.str w) S2 = .ok (w.cps.toList.map fun c=>.str ⟨#[c]⟩,[]) S2:=by simp
   have ln : lenD (.ref (L + 1)) S = .ok (.int P.length) S:=by simp [hP,sl]
   rw [forL,if_pos gd_nilOk,← e4]
   simp only [wdE] at cm
   generalize hC : w.cps.toList.map (fun c=>chS (97 + (c - 97 + k) % 26)) = ys at *
   have yl : ys.length ≤ sizeLine:=by
     rw [← hC,List.length_map,sizeLine_eq]
     have:=lowW_len wl
     omega
   generalize w.cps.toList.map (fun c=>D.str ⟨#[c]⟩) = cs at *
   generalize ((A ++ [w]).map (rot k)).map D.str = Q2 at *
   generalize (A.map (rot k)).map D.str = Q at *
   generalize (P.eraseIdx rn).map D.str = R2 at *
   simp -implicitDefEqProofs [-itD,-lenD,-popAtD,-appD,-joinD,hP,ln,e1,hP1,pop,its,wz,cm,mk,jn,hA2,app]
end W26
namespace W26
open PySem VL G Kd W9
end W26
namespace W26
open PySem VL G Kd W9
/-- a word of small letters,at most eight -/
def wdOk (w : Str) : Bool:=w.cps.toList.all (fun c=>decide (97 ≤ c ∧ c < 123)) && decide (0 < w.length ∧ w.length ≤ 8)
theorem wdOk_ws {w : Str} (h : wdOk w = true) : Ws w:=by
 obtain ⟨h1,h2⟩:=Bool.and_eq_true_iff.mp h
 have h3:=of_decide_eq_true h2
 refine ⟨fun c hc=>?_,by omega⟩
 have:=of_decide_eq_true (List.all_eq_true.mp h1 c (by simpa using hc))
 omega
theorem wdOk_ne {w : Str} (h : wdOk w = true) : w ≠ Str.ofString "":=by
 rintro rfl
 exact absurd h (by decide +kernel)
end W26
namespace W26
open PySem VL G Kd W9
noncomputable abbrev prB : En → AS → Fl := (sKill [7] (sSeq (sExpr (vML appD (vVar 5) (vCons (vA gTup (vCons (vVar 6) (vCons (v2 ixD (vA (gLst false) (vCons (vCallA 2 0 [] [.pos 0, .pos 1] F__law_draw_d1fe (vCons (vVar 0) (vCons (vC (.int 60)) vNil)) vNil) (vCons (vCallA 2 0 [] [.pos 0, .pos 1] F__law_draw_d1fe (vCons (vVar 0) (vCons (vC (.int 3000)) vNil)) vNil) (vCons (vC (.int 100000)) vNil)))) (v2 fdivD (vCallA 2 0 [] [.pos 0, .pos 1] F__law_draw_d1fe (vCons (vVar 0) (vCons (vC (.int 8)) vNil)) vNil) (vC (.int 3)))) vNil))) vNil)))
   (sSet 6 (v2 (addD false) (v2 (addD false) (vVar 6) (vC (.int 1))) (vCallA 2 0 [] [.pos 0,.pos 1] F__law_draw_d1fe (vCons (vVar 0) (vCons (vC (.int 12)) vNil)) vNil)))))
end W26
namespace W26
open PySem VL G Kd W9
end W26
namespace W26
open PySem VL G Kd W9
end W26
namespace W26
open PySem VL G Kd W9
end W26
namespace W26
open PySem VL G Kd W9
end W26
namespace W26
open PySem VL G Kd W9
end W26
namespace WG
open PySem VL G Kd W9 W26
section
variable {α : Type} {dr : List D → AS → Out D} {i L n : Nat} {ns : List Int} {st0 st X S : AS} {m : Int} {Q : D → AS → Prop} {E : XQ}
/-- the feed goes on from st0 to st,all else as it was; L things are behind it -/
structure Fg (i : Nat) (ns : List Int) (n L : Nat) (st0 st : AS) : Prop extends Dw i ns n st0 st where
 ln : st.length = L
theorem Fg.lt (f : Fg i ns n L st0 st) : i < L:=by rw [← f.ln]; exact f.fd.lt
theorem Fg.start (f : Fw i ns n st) : Fg i ns n st.length st st:=⟨Dw.refl f,rfl⟩
theorem Fg.mono {n' : Nat} (f : Fg i ns n L st0 st) (h : n ≤ n') : Fg i ns n' L st0 st:=⟨⟨f.fd.mono h,f.len,f.at_⟩,f.ln⟩
/-- what changes the feed alone changes it ahead of the rest -/
theorem Fg.split {m : Nat} (f : Fg i ns n L st0 st) (d : Dw i ns m (st ++ X) S) : ∃ st1,S = st1 ++ X ∧ Fg i ns m L st0 st1:=by
 have hl:=d.len
 have hi : i < st.length:=f.fd.lt
 rw [List.length_append] at hl
 have e : S.drop st.length = X:=by
   apply List.ext_getElem?
   intro j
   rw [List.getElem?_drop,d.at_ _ (by omega),List.getElem?_append_right (by omega)]
   congr 1; omega
 have ln : (S.take st.length).length = st.length:=by rw [List.length_take]; omega
 refine ⟨S.take st.length,by rw [← e,List.take_append_drop],⟨⟨?_,by rw [ln]; exact f.len,fun j hj=>?_⟩,by rw [ln]; exact f.ln⟩⟩
 · exact d.fd.to (List.getElem?_take_of_lt hi)
 · by_cases z : j < st.length
   · rw [List.getElem?_take_of_lt z,d.at_ j hj,List.getElem?_append_left z]
     exact f.at_ j hj
   · rw [List.getElem?_eq_none (by omega),List.getElem?_eq_none (by have:=f.len; omega)]
theorem Fg.next (f : Fg i ns n L st0 st) {m : Nat} {st1 : AS} (d : Dw i ns m st st1) : Fg i ns m L st0 st1:=⟨f.toDw.trans d,by rw [d.len]; exact f.ln⟩
theorem G8 {x0 : D} {l : List D} : ixD (.tup (x0 :: l)) (.int 0) st = .ok x0 st:=by simp
theorem G9 {x0 x1 : D} {l : List D} : ixD (.tup (x0 :: x1 :: l)) (.int 1) st = .ok x1 st:=by simp
theorem H6 {x0 x1 x2 : D} {l : List D} : ixD (.tup (x0 :: x1 :: x2 :: l)) (.int 2) st = .ok x2 st:=by simp
theorem H7 {x0 x1 x2 x3 : D} {l : List D} : ixD (.tup (x0 :: x1 :: x2 :: x3 :: l)) (.int 3) st = .ok x3 st:=by simp
theorem H8 {x0 x1 x2 x3 x4 : D} {l : List D} : ixD (.tup (x0 :: x1 :: x2 :: x3 :: x4 :: l)) (.int 4) st = .ok x4 st:=by simp
theorem H9 {x0 : D} {l : List D} : ixD (.ctp (x0 :: l)) (.int 0) st = .ok x0 st:=by simp
theorem I6 {x0 x1 : D} {l : List D} : ixD (.ctp (x0 :: x1 :: l)) (.int 1) st = .ok x1 st:=by simp
theorem I7 {x0 x1 x2 : D} {l : List D} : ixD (.ctp (x0 :: x1 :: x2 :: l)) (.int 2) st = .ok x2 st:=by simp
theorem I8 {x0 x1 x2 x3 : D} {l : List D} : ixD (.ctp (x0 :: x1 :: x2 :: x3 :: l)) (.int 3) st = .ok x3 st:=by simp
theorem I9 {x0 x1 x2 x3 x4 : D} {l : List D} : ixD (.ctp (x0 :: x1 :: x2 :: x3 :: x4 :: l)) (.int 4) st = .ok x4 st:=by simp
theorem J0 {x0 : D} {l : List D} : ixD (.lst (x0 :: l)) (.int 0) st = .ok x0 st:=by simp
theorem J1 {x0 x1 : D} {l : List D} : ixD (.lst (x0 :: x1 :: l)) (.int 1) st = .ok x1 st:=by simp
theorem J3 {x0 x1 x2 : D} {l : List D} : ixD (.lst (x0 :: x1 :: x2 :: l)) (.int 2) st = .ok x2 st:=by simp
theorem J4 {x0 x1 x2 x3 : D} {l : List D} : ixD (.lst (x0 :: x1 :: x2 :: x3 :: l)) (.int 3) st = .ok x3 st:=by simp
theorem J5 {x0 x1 x2 x3 x4 : D} {l : List D} : ixD (.lst (x0 :: x1 :: x2 :: x3 :: x4 :: l)) (.int 4) st = .ok x4 st:=by simp
theorem F9 {x m : Int} (h0 : 0 < m) (h1 : m < 4611686018427387904) : L2.CDivW x m = True:=eq_true ⟨h0,log_lt h0 h1⟩
end
end WG
namespace WG
open PySem VL G Kd W9 W26
def tabW : List Str:=["t","tt","a"].map Str.ofString
/-- some seats -/
structure Ss (who ss : List Str) : Prop where
 ne : ss ≠ []
 nd : ss.Nodup
 ln : ss.length ≤ 30
 mem : ∀ s ∈ ss,s ∈ who
/-- a deed that a law draws -/
def DdOk (m : Menu) (who : List Str) : Dd → Prop
 | .sit s t=>s ∈ who ∧ t ∈ tabW
 | .move s t=>s ∈ who ∧ t ∈ tabW
 | .join t o=>t ∈ tabW ∧ o ∈ tabW
 | .go s=>s ∈ who
 | .ask n i c ss=>(0 ≤ n ∧ n ≤ 999) ∧ wdOk i = true ∧ (0 ≤ c ∧ c ≤ 9) ∧ Ss who ss
 | .change n i=>(0 ≤ n ∧ n ≤ 999) ∧ wdOk i = true
 | .fire t c=>t ∈ tabW ∧ 0 ≤ c ∧ c ≤ 9
 | .rush t c=>t ∈ tabW ∧ 0 ≤ c ∧ c ≤ 9
 | .serve n=>0 ≤ n ∧ n ≤ 999
 | .back n=>0 ≤ n ∧ n ≤ 999
 | .strike n=>0 ≤ n ∧ n ≤ 999
 | .pay s p=>s ∈ who ∧ 1 ≤ p ∧ p ≤ 3000
 | .take s o p=>s ∈ who ∧ o ∈ who ∧ 1 ≤ p ∧ p ≤ 3000
 | .even ss=>Ss who ss
end WG
namespace WG
open PySem VL G Kd W9 W26
/-- pages that a law draws -/
structure Bk (m : Menu) (who : List Str) (t : Int) (pgs : List Pg) : Prop where
 t0 : 0 ≤ t
 t4 : t ≤ 4 * pgs.length
 pg : ∀ p ∈ pgs,0 ≤ p.1.1 ∧ p.1.1 ≤ t ∧ 0 ≤ p.1.2 ∧ p.1.2 < pgs.length ∧ DdOk m who p.2
 up : pgs.Pairwise fun p q=>p.1.1 ≤ q.1.1 ∧ p.1.2 < q.1.2
theorem Bk.nil (m : Menu) (who : List Str) : Bk m who 0 []:=⟨by simp,by simp,by simp,by simp⟩
theorem Bk.add {m : Menu} {who : List Str} {t u : Int} {pgs : List Pg} {dd : Dd} (h : Bk m who t pgs) (h1 : t ≤ u) (h2 : u ≤ t + 4) (hd : DdOk m who dd) : Bk m who u (pgs ++ [((u,(pgs.length : Int)),dd)]):=by
 have:=h.t0
 have:=h.t4
 refine ⟨by omega,by simp; omega,fun p hp=>?_,?_⟩
 · rcases List.mem_append.mp hp with hp | hp
   · obtain ⟨a,b,c,d,e⟩:=h.pg p hp
     exact ⟨a,by omega,c,by simp; omega,e⟩
   · rw [List.mem_singleton.mp hp]
     exact ⟨by show 0 ≤ u; omega,Int.le_refl u,by simp,by simp; omega,hd⟩
 · rw [List.pairwise_append]
   refine ⟨h.up,by simp,fun p hp q hq=>?_⟩
   rw [List.mem_singleton.mp hq]
   obtain ⟨a,b,c,d,e⟩:=h.pg p hp
   exact ⟨by show p.1.1 ≤ u; omega,d⟩
theorem Bk.dd {m : Menu} {who : List Str} {t : Int} {pgs : List Pg} (h : Bk m who t pgs) : ∀ p ∈ pgs,DdOk m who p.2:=fun p hp=>(h.pg p hp).2.2.2.2
end WG
namespace WG
open PySem VL G Kd W9 W26
noncomputable abbrev wdB (dr : List D → AS → Out D) : En → AS → Fl := (sKill [7, 8] (sSeq (sSet 8 (vML popAtD (vVar 6) (vCons (vCallA 2 0 [] [.pos 0, .pos 1] dr (vCons (vVar 0) (vCons (vA (g1 lenD) (vCons (vVar 6) vNil)) vNil)) vNil) vNil)))
   (sExpr (vML appD (vVar 5) (vCons (vMS joinD (vC (.str "")) (vCons (vLc false [9] (v1 itD (vVar 8)) (kName 9) tYesV wdE) vNil)) vNil)))))
section
variable {dr : List D → AS → Out D} (DO : DrawOk dr)
include DO
theorem words_loop {i L : Nat} {ns : List Int} {k : Nat} {x1 x2 : D} : ∀ (js : List D) (N : Nat) (S : AS) (A P : List Str), Fw i ns N S → N + js.length < 100000 → i ≠ L → i ≠ L + 1 → S[L]? = some (.lst ((A.map (rot k)).map D.str)) → S[L + 1]? = some (.lst (P.map D.str)) → js.length ≤ P.length → A.length + js.length ≤ 1000 → P.length ≤ 1000 → (∀ w ∈ P, lowW w = true) →
   ∃ (S' : AS) (A' P' : List Str),forL (kName 7) (wdB dr) [] js [some (.ref i),some x1,some x2,some (.str abcS),some (.int (k : Nat)),some (.ref L),some (.ref (L + 1)),none,none,none] S = .nx [some (.ref i),some x1,some x2,some (.str abcS),some (.int (k : Nat)),some (.ref L),some (.ref (L + 1)),none,none,none] S' ∧ Fw i ns (N + js.length) S' ∧ S'[L]? = some (.lst ((A'.map (rot k)).map D.str)) ∧ (A' ++ P').Perm (A ++ P) ∧ A'.length = A.length + js.length ∧ S'.length = S.length ∧ ∀ j,j ≠ i → j ≠ L → j ≠ L + 1 → S'[j]? = S[j]?
 | [],N,S,A,P,f,_,_,_,hA,hP,_,_,_,_=>⟨S,A,P,by simp [forL],f,hA,List.Perm.refl _,rfl,rfl,fun _ _ _ _=>rfl⟩
 | d :: js,N,S,A,P,f,hN,i1,i2,hA,hP,hl,ha,hp,hw=>by
   simp only [List.length_cons] at hN hl ha
   obtain ⟨r,S1,e1,r0,r1,D1⟩:=DO (m:=(P.length : Nat)) f (by omega) (by omega) (by omega)
   obtain ⟨rn,rfl⟩ : ∃ rn : Nat,r = rn:=⟨r.toNat,by omega⟩
   have hr : rn < P.length:=by omega
   have hA1 : S1[L]? = some (.lst ((A.map (rot k)).map D.str)):=by rw [D1.at_ L (Ne.symm i1)]; exact hA
   have hP1 : S1[L + 1]? = some (.lst (P.map D.str)):=by rw [D1.at_ (L + 1) (Ne.symm i2)]; exact hP
   have wk : P[rn]? = some P[rn]:=List.getElem?_eq_getElem hr
   have wl : lowW P[rn] = true:=hw _ (List.getElem_mem hr)
   generalize hW : P[rn] = w at *
   have sl : P.length ≤ sizeLine:=by rw [sizeLine_eq]; omega
   have L0:=(List.getElem?_eq_some_iff.mp hA1).1
   have L1:=(List.getElem?_eq_some_iff.mp hP1).1
   -- the pool
   have ep : (P.map D.str).eraseIdx rn = (P.eraseIdx rn).map D.str:=erase_map D.str P rn
   have pop : popAtD (.ref (L + 1)) [.int (rn : Nat)] S1 = .ok (.str w) (S1.set (L + 1) (.lst ((P.eraseIdx rn).map D.str))):=by
     have ix : L2.ixN (P.map D.str).length (rn : Nat) = some rn:=by
       rw [List.length_map]
       unfold L2.ixN
       split <;> simp_all
     have at_ : (P.map D.str)[rn]? = some (.str w):=by rw [List.getElem?_map,wk]; rfl
     rw [← ep]
     generalize P.map D.str = Q at *
     have b1 : (-9223372036854775808 : Int) ≤ (rn : Nat) ∧ ((rn : Nat) : Int) < 9223372036854775808:=by omega
     simp -implicitDefEqProofs [hP1,ix,at_,b1]
   have hA2 : (S1.set (L + 1) (.lst ((P.eraseIdx rn).map D.str)))[L]? = some (.lst ((A.map (rot k)).map D.str)):=by rw [List.getElem?_set_ne (by omega)]; exact hA1
   have hP2 : (S1.set (L + 1) (.lst ((P.eraseIdx rn).map D.str)))[L + 1]? = some (.lst ((P.eraseIdx rn).map D.str)):=List.getElem?_set_self L1
   have f2:=D1.fd.put (.lst ((P.eraseIdx rn).map D.str)) (Ne.symm i2)
   generalize hS2 : S1.set (L + 1) (.lst ((P.eraseIdx rn).map D.str)) = S2 at *
   have S2l : S2.length = S.length:=by rw [← hS2,List.length_set,D1.len]
   have S2a : ∀ j,j ≠ i → j ≠ L + 1 → S2[j]? = S[j]?:=fun j h1 h2=>by rw [← hS2,List.getElem?_set_ne (Ne.symm h2),D1.at_ j h1]
   have al : ((A.map (rot k)).map D.str).length < sizeLine:=by rw [List.length_map,List.length_map,sizeLine_eq]; omega
   have app : appD (.ref L) [.str (rot k w)] S2 = .ok .non (S2.set L (.lst (((A ++ [w]).map (rot k)).map D.str))):=by
     have e : ((A ++ [w]).map (rot k)).map D.str = (A.map (rot k)).map D.str ++ [.str (rot k w)]:=by simp
     rw [e]
     generalize (A.map (rot k)).map D.str = Q at *
     simp -implicitDefEqProofs [hA2,al]
   have hA3 : (S2.set L (.lst (((A ++ [w]).map (rot k)).map D.str)))[L]? = some (.lst (((A ++ [w]).map (rot k)).map D.str)):=List.getElem?_set_self (List.getElem?_eq_some_iff.mp hA2).1
   have hP3 : (S2.set L (.lst (((A ++ [w]).map (rot k)).map D.str)))[L + 1]? = some (.lst ((P.eraseIdx rn).map D.str)):=by rw [List.getElem?_set_ne (by omega)]; exact hP2
   have el : (P.eraseIdx rn).length = P.length - 1:=List.length_eraseIdx_of_lt hr
   obtain ⟨S',A',P',e4,f4,g4,p4,l4,s4,a4⟩:=words_loop (x1:=x1) (x2:=x2) js (N + 1) _ (A ++ [w]) (P.eraseIdx rn) (f2.put (.lst (((A ++ [w]).map (rot k)).map D.str)) (Ne.symm i1)) (by omega) i1 i2 hA3 hP3 (by omega) (by rw [List.length_append,List.length_singleton]; omega) (by omega) (fun y hy=>hw y ((List.eraseIdx_sublist P rn).subset hy))
   have cm:=rot_comp (x0:=.ref i) (x1:=x1) (x2:=x2) (x5:=.ref L) (x6:=.ref (L + 1)) (x7:=d) (k:=k) wl S2
   have jn : joinD (.str (Str.ofString "")) [.lst ((w.cps.toList.map fun c=>chS (97 + (c - 97 + k) % 26)).map D.str)] S2 = .ok (.str (rot k w)) S2:=by
     have e1 : strsOf ((w.cps.toList.map fun c=>chS (97 + (c - 97 + k) % 26)).map D.str) = some (w.cps.toList.map fun c=>chS (97 + (c - 97 + k) % 26)):=strs_of _
     have e2:=join_len (w.cps.toList.map fun c=>chS (97 + (c - 97 + k) % 26)) (fun y hy=>by
       obtain ⟨c,_,rfl⟩:=List.mem_map.mp hy
       rfl)
     have e3:=lowW_len wl
     rw [List.length_map] at e2
     have e0 : (Str.ofString "").length = 0:=by decide +kernel
     have rt : rot k w = Txt.join (Str.ofString "") (w.cps.toList.map fun c=>chS (97 + (c - 97 + k) % 26)):=rfl
     rw [rt]
     have e4 : (w.cps.toList.map fun c=>chS (97 + (c - 97 + k) % 26)).length ≤ 20:=by rw [List.length_map]; exact e3
     generalize w.cps.toList.map (fun c=>chS (97 + (c - 97 + k) % 26)) = ys at *
     simp -implicitDefEqProofs only [joinD,seqOf,VL.listOf,e1]
     rw [if_pos (by rw [e2,e0]; omega)]
   refine ⟨S',A',P',?_,by rw [show N + (d :: js).length = N + 1 + js.length by simp; omega]; exact f4,g4,p4.trans (perm_step A P wk),by rw [l4,List.length_append,List.length_singleton,List.length_cons]; omega,by rw [s4,List.length_set,S2l],fun j h1 h2 h3=>by rw [a4 j h1 h2 h3,List.getElem?_set_ne (Ne.symm h2),S2a j h1 h3]⟩
   have wz : (w.cps.toList.map fun c=>D.str ⟨#[c]⟩).length ≤ sizeLine:=by
     have:=lowW_len wl
     rw [List.length_map,sizeLine_eq]
     omega
   have its : itD (.str w) S2 = .ok (w.cps.toList.map fun c=>.str ⟨#[c]⟩,[]) S2:=by simp
   have ln : lenD (.ref (L + 1)) S = .ok (.int P.length) S:=by simp [hP,sl]
   rw [forL,if_pos gd_nilOk,← e4]
   simp only [wdE] at cm
   generalize hC : w.cps.toList.map (fun c=>chS (97 + (c - 97 + k) % 26)) = ys at *
   have yl : ys.length ≤ sizeLine:=by
     rw [← hC,List.length_map,sizeLine_eq]
     have:=lowW_len wl
     omega
   generalize w.cps.toList.map (fun c=>D.str ⟨#[c]⟩) = cs at *
   generalize ((A ++ [w]).map (rot k)).map D.str = Q2 at *
   generalize (A.map (rot k)).map D.str = Q at *
   generalize (P.eraseIdx rn).map D.str = R2 at *
   simp -implicitDefEqProofs [-itD,-lenD,-popAtD,-appD,-joinD,hP,ln,e1,hP1,pop,its,wz,cm,mk,jn,hA2,app]
end
end WG
namespace WG
open PySem VL G Kd W9 W26
structure PrOk (ps : List (Int × Int)) : Prop where
 up : ps.Pairwise fun p q=>p.1 < q.1
 bd : ∀ p ∈ ps,(0 ≤ p.1 ∧ p.1 ≤ 100) ∧ 0 ≤ p.2 ∧ p.2 ≤ 100000
 hd : ps ≠ [] → ∃ p,p ∈ ps ∧ p.1 = 0
section
variable {dr : List D → AS → Out D} {i n L : Nat} {ns : List Int} {S st : AS} {o : Offs} {a b : Int} {who words : List Str}
theorem PrOk.nil : PrOk []:=⟨by simp,by simp,by simp⟩
end
end WG
namespace W9
open PySem VL G Kd
/-- a page that both walks take -/
structure VdA (pg : Pg) : Prop where
 p : VdP pg
 q : VdQ pg.2
end W9
set_option exponentiation.threshold 2000
namespace Kd
open PySem PySem.Spec PyProof.Rows L2 TB VL
theorem sh_700 {i : Int} (h : i.natAbs < 2 ^ 703) : Sh 0 250 (.int i):=by
 have s:=sh_big (i:=i) (Nat.lt_of_lt_of_le h (Nat.pow_le_pow_right (show 0 < 2 by decide) (show 703 ≤ 1900 by decide)))
 refine ⟨s.sh,s.nd,s.dp,?_⟩
 simp only [PyData.shown]
 have:=PySem.int_text_length_le10 (a:=i) (k:=212) (by decide) (Nat.lt_of_lt_of_le h (by decide +kernel))
 rw [PySem.ofString_length]
 omega
mutual
theorem ats8 {j : Nat} (hj : j ≤ 3) : ∀ d : PyData,Ats j d → d.showable = true ∧ d.hasDict = false ∧ d.shown.length + 10 ≤ 300 * sz d ∧ PyData.canLay0 d = true
 | .none,_=>by
   refine ⟨rfl,rfl,?_,rfl⟩
   simp only [sz]
   decide
 | .bool b,_=>by
   refine ⟨rfl,rfl,?_,rfl⟩
   simp only [sz]
   cases b <;> decide
 | .int i,a=>by
   simp only [Ats] at a
   have s:=sh_700 (Nat.lt_of_lt_of_le a (Nat.pow_le_pow_right (show 0 < 2 by decide) (show 700 + j ≤ 703 by omega)))
   refine ⟨s.sh,s.nd,?_,rfl⟩
   have:=s.ln
   simp only [sz]
   omega
 | .str z,a=>by
   simp only [Ats] at a
   have s:=sh_txt a.1
   refine ⟨s.sh,s.nd,?_,?_⟩
   · have:=s.ln
     simp only [sz]
     omega
   · show PyData.strOk z = true
     unfold PyData.strOk
     simp only [Array.all_eq_true,Bool.and_eq_true]
     first
       | (intro i hi
          have:=a.1 z.cps[i] (by simp)
          simp
          omega)
       | (have h := a.1
          simp
          omega)
 | .tuple xs,a=>by
   simp only [Ats] at a
   obtain ⟨p,q,r,s,t⟩:=ats8s hj xs a
   refine ⟨by simp only [PyData.showable,p],by simp only [PyData.hasDict,q],?_,by simp only [PyData.canLay0,t]⟩
   simp only [PyData.shown,sz]
   have:=tupleText_len_le (PyData.shownAll xs)
   rw [s] at this
   omega
 | .list xs,a=>by
   simp only [Ats] at a
   obtain ⟨p,q,r,s,t⟩:=ats8s hj xs a
   refine ⟨by simp only [PyData.showable,p],by simp only [PyData.hasDict,q],?_,by simp only [PyData.canLay0,t]⟩
   simp only [PyData.shown,sz]
   have:=listText_len_le (PyData.shownAll xs)
   rw [s] at this
   omega
 | .dict _,a=>by simp [Ats] at a
theorem ats8s {j : Nat} (hj : j ≤ 3) : ∀ ds : List PyData,AtsL j ds → PyData.showableAll ds = true ∧ PyData.hasDictAll ds = false ∧ ((PyData.shownAll ds).map (·.length)).sum + 10 * ds.length ≤ 300 * szs ds ∧ (PyData.shownAll ds).length = ds.length ∧ PyData.canLayAll0 ds = true
 | [],_=>by simp [PyData.showableAll,PyData.hasDictAll,PyData.shownAll,szs,PyData.canLayAll0]
 | d :: ds,a=>by
   simp only [AtsL] at a
   obtain ⟨p,q,r,s⟩:=ats8 hj d a.1
   obtain ⟨p',q',r',s',t'⟩:=ats8s hj ds a.2
   refine ⟨by simp only [PyData.showableAll,p,p',Bool.and_self],by simp only [PyData.hasDictAll,q,q',Bool.or_self],?_,by simp only [PyData.shownAll,List.length_cons,s'],by simp only [PyData.canLayAll0,s,t',Bool.and_self]⟩
   simp only [PyData.shownAll,List.map_cons,List.sum_cons,szs,List.length_cons]
   omega
end
theorem fit_sh {m k j : Nat} {d : PyData} (h : Fit m k j d) (hj : j ≤ 3) : Sh k (300 * m) d:=by
 obtain ⟨a,b,c,_⟩:=ats8 hj d h.at_
 have:=h.sz
 exact ⟨a,b,h.dp,by omega⟩
end Kd
set_option exponentiation.threshold 2000
namespace WG
open PySem VL G Kd W9 W26 TB
/-- of this size,this depth -/
structure Rz (n k : Nat) (d : D) : Prop where
 p : d.pure = true
 f : Fit n k 0 d.py
structure Rzs (n k : Nat) (ds : List D) : Prop where
 p : D.pures ds = true
 sz : szs (D.pys ds) ≤ n
 dp : PyData.depthAll (D.pys ds) ≤ k
 at_ : AtsL 0 (D.pys ds)
section
variable {n m k c N : Nat} {d : D} {ds es : List D} {st : AS}
theorem Rz.mono {n' k' : Nat} (h : Rz n k d) (a : n ≤ n') (b : k ≤ k') : Rz n' k' d:=⟨h.p,h.f.mono a b (Nat.le_refl 0)⟩
theorem Rzs.mono {n' k' : Nat} (h : Rzs n k ds) (a : n ≤ n') (b : k ≤ k') : Rzs n' k' ds:=⟨h.p,Nat.le_trans h.sz a,Nat.le_trans h.dp b,h.at_⟩
theorem rz_int {i : Int} (h : i.natAbs < 2 ^ 700) : Rz 1 k (.int i):=⟨by simp [D.pure],⟨by simp [D.py,sz],by simp [D.py,PyData.depth],by simpa [D.py,Ats] using h⟩⟩
theorem rz_i {i : Int} (h0 : -1000000000000 ≤ i) (h1 : i ≤ 1000000000000) : Rz 1 k (.int i):=rz_int (Nat.lt_of_lt_of_le (show i.natAbs < 2 ^ 60 by omega) (Nat.pow_le_pow_right (by decide) (by decide)))
theorem rz_str {x : Str} (h : asc x ∧ x.length ≤ 20) : Rz 1 k (.str x):=⟨by simp [D.pure],⟨by simp [D.py,sz],by simp [D.py,PyData.depth],by simpa [D.py,Ats] using h⟩⟩
theorem rz_bl {b : Bool} : Rz 1 k (.bl b):=⟨by simp [D.pure],⟨by simp [D.py,sz],by simp [D.py,PyData.depth],by simp [D.py,Ats]⟩⟩
theorem rz_non : Rz 1 k .non:=⟨by simp [D.pure],⟨by simp [D.py,sz],by simp [D.py,PyData.depth],by simp [D.py,Ats]⟩⟩
theorem rz_tup (h : Rzs n k ds) : Rz (n + 1) (k + 1) (.tup ds):=⟨by rw [D.pure]; exact h.p,⟨by rw [D.py]; simp only [sz]; have:=h.sz; omega,by rw [D.py]; simp only [PyData.depth]; have:=h.dp; omega,by rw [D.py]; simp only [Ats]; exact h.at_⟩⟩
theorem rz_ctp (h : Rzs n k ds) : Rz (n + 1) (k + 1) (.ctp ds):=⟨by rw [D.pure]; exact h.p,⟨by rw [D.py]; simp only [sz]; have:=h.sz; omega,by rw [D.py]; simp only [PyData.depth]; have:=h.dp; omega,by rw [D.py]; simp only [Ats]; exact h.at_⟩⟩
theorem rz_lst (h : Rzs n k ds) : Rz (n + 1) (k + 1) (.lst ds):=⟨by rw [D.pure]; exact h.p,⟨by rw [D.py]; simp only [sz]; have:=h.sz; omega,by rw [D.py]; simp only [PyData.depth]; have:=h.dp; omega,by rw [D.py]; simp only [Ats]; exact h.at_⟩⟩
theorem rzs_nil : Rzs 0 k []:=⟨by simp [D.pures],by simp [D.pys,szs],by simp [D.pys,PyData.depthAll],by simp [D.pys,AtsL]⟩
theorem rzs_cons (h : Rz n k d) (g : Rzs m k ds) : Rzs (n + m) k (d :: ds):=⟨by rw [D.pures,h.p,g.p]; rfl,by rw [D.pys]; simp only [szs]; have:=h.f.sz; have:=g.sz; omega,by rw [D.pys]; simp only [PyData.depthAll]; have:=h.f.dp; have:=g.dp; omega,by rw [D.pys]; simp only [AtsL]; exact ⟨h.f.at_,g.at_⟩⟩
theorem rzs_map {α : Type} (e : α → D) : ∀ {l : List α},(∀ x ∈ l,Rz c k (e x)) → Rzs (c * l.length) k (l.map e)
 | [],_=>rzs_nil
 | x :: l,h=>(rzs_cons (h x List.mem_cons_self) (rzs_map e fun y hy=>h y (List.mem_cons_of_mem _ hy))).mono (by rw [List.length_cons,Nat.mul_succ]; omega) (Nat.le_refl _)
theorem rzs_mapN {α : Type} (e : α → D) {l : List α} (h : ∀ x ∈ l,Rz c k (e x)) (hl : l.length ≤ N) : Rzs (c * N) k (l.map e):=(rzs_map e h).mono (Nat.mul_le_mul_left c hl) (Nat.le_refl _)
theorem val_pure (h : d.pure = true) : valD st d = d:=by
 cases d <;> first | rfl | (rw [D.pure] at h; cases h)
theorem repr_rz (h : Rz n k d) (hn : n ≤ 50000) (hk : k ≤ 60) : reprD d st = .ok (.str (txt d.py)) st:=by
 have s:=fit_sh h.f (by omega)
 unfold reprD
 rw [val_pure h.p,if_pos ⟨h.p,s.sh,by have:=s.dp; omega,by have:=s.ln; rw [sizeLine_eq]; omega⟩]
end
theorem rz_wd {k : Nat} {w : Str} (h : wdOk w = true) : Rz 1 k (.str w):=rz_str (wdOk_ws h)
theorem rz_tab {k : Nat} {w : Str} (h : w ∈ tabW) : Rz 1 k (.str w):=rz_wd (by
 simp only [tabW,List.map_cons,List.map_nil,List.mem_cons,List.not_mem_nil,or_false] at h
 rcases h with rfl | rfl | rfl <;> decide +kernel)
theorem rz_nm {n : Nm} (h1 : 0 ≤ n.1 ∧ n.1 ≤ 1000000) (h2 : 0 ≤ n.2 ∧ n.2 ≤ 1000000) : Rz 3 1 (eNm n):=rz_tup (rzs_cons (rz_i (by omega) (by omega)) (rzs_cons (rz_i (by omega) (by omega)) rzs_nil))
theorem rz_ss {who ss : List Str} (hw : ∀ w ∈ who,wdOk w = true) (h : Ss who ss) : Rz 31 1 (eSe ss):=rz_ctp (rzs_mapN (N:=30) D.str (fun w hx=>rz_wd (k:=0) (hw w (h.mem w hx))) h.ln)
theorem lit_wd (s : String) (h : (wdOk (Str.ofString s)) = true:=by decide +kernel) {k : Nat} : Rz 1 k (.str (Str.ofString s)):=rz_wd h
theorem rz_dd {m : Menu} {who : List Str} (hw : ∀ w ∈ who,wdOk w = true) {dd : Dd} (h : DdOk m who dd) : Rz 40 2 (eDd dd):=by
 cases dd <;> simp only [DdOk] at h <;> unfold eDd
 case sit s t=>exact (rz_tup (rzs_cons (k:=1) (lit_wd "sit") (rzs_cons (rz_wd (hw _ h.1)) (rzs_cons (rz_tab h.2) rzs_nil)))).mono (by omega) (by omega)
 case move s t=>exact (rz_tup (rzs_cons (k:=1) (lit_wd "move") (rzs_cons (rz_wd (hw _ h.1)) (rzs_cons (rz_tab h.2) rzs_nil)))).mono (by omega) (by omega)
 case join s t=>exact (rz_tup (rzs_cons (k:=1) (lit_wd "join") (rzs_cons (rz_tab h.1) (rzs_cons (rz_tab h.2) rzs_nil)))).mono (by omega) (by omega)
 case go s=>exact (rz_tup (rzs_cons (k:=1) (lit_wd "go") (rzs_cons (rz_wd (hw _ h)) rzs_nil))).mono (by omega) (by omega)
 case ask n i c ss=>exact (rz_tup (rzs_cons (k:=1) (lit_wd "ask") (rzs_cons (rz_i (by omega) (by omega)) (rzs_cons (rz_wd h.2.1) (rzs_cons (rz_i (by omega) (by omega)) (rzs_cons (rz_ss hw h.2.2.2) rzs_nil)))))).mono (by omega) (by omega)
 case change n i=>exact (rz_tup (rzs_cons (k:=1) (lit_wd "change") (rzs_cons (rz_i (by omega) (by omega)) (rzs_cons (rz_wd h.2) rzs_nil)))).mono (by omega) (by omega)
 case fire t c=>exact (rz_tup (rzs_cons (k:=1) (lit_wd "fire") (rzs_cons (rz_tab h.1) (rzs_cons (rz_i (by omega) (by omega)) rzs_nil)))).mono (by omega) (by omega)
 case rush t c=>exact (rz_tup (rzs_cons (k:=1) (lit_wd "rush") (rzs_cons (rz_tab h.1) (rzs_cons (rz_i (by omega) (by omega)) rzs_nil)))).mono (by omega) (by omega)
 case serve n=>exact (rz_tup (rzs_cons (k:=1) (lit_wd "serve") (rzs_cons (rz_i (by omega) (by omega)) rzs_nil))).mono (by omega) (by omega)
 case back n=>exact (rz_tup (rzs_cons (k:=1) (lit_wd "back") (rzs_cons (rz_i (by omega) (by omega)) rzs_nil))).mono (by omega) (by omega)
 case strike n=>exact (rz_tup (rzs_cons (k:=1) (lit_wd "strike") (rzs_cons (rz_i (by omega) (by omega)) rzs_nil))).mono (by omega) (by omega)
 case pay s p=>exact (rz_tup (rzs_cons (k:=1) (lit_wd "pay") (rzs_cons (rz_wd (hw _ h.1)) (rzs_cons (rz_i (by omega) (by omega)) rzs_nil)))).mono (by omega) (by omega)
 case take s o p=>exact (rz_tup (rzs_cons (k:=1) (lit_wd "take") (rzs_cons (rz_wd (hw _ h.1)) (rzs_cons (rz_wd (hw _ h.2.1)) (rzs_cons (rz_i (by omega) (by omega)) rzs_nil))))).mono (by omega) (by omega)
 case even ss=>exact (rz_tup (rzs_cons (k:=1) (lit_wd "even") (rzs_cons (rz_ss hw h) rzs_nil))).mono (by omega) (by omega)
/-- a book as drawn: what the walks want of it -/
structure BkOk (m : Menu) (pgs : List Pg) : Prop where
 ln : pgs.length ≤ 49
 va : ∀ p ∈ pgs,VdA p
 rz : ∀ p ∈ pgs,Rz 44 3 (ePg p)
 nm : ∀ p ∈ pgs,(0 ≤ p.1.1 ∧ p.1.1 ≤ 1000) ∧ 0 ≤ p.1.2 ∧ p.1.2 ≤ 1000
 up : pgs.Pairwise fun p q=>p.1.1 ≤ q.1.1 ∧ p.1.2 < q.1.2
theorem BkOk.nil (m : Menu) : BkOk m []:=⟨by simp,by simp,by simp,by simp,by simp⟩
theorem tab_ws {w : Str} (h : w ∈ tabW) : wdOk w = true:=by
 simp only [tabW,List.map_cons,List.map_nil,List.mem_cons,List.not_mem_nil,or_false] at h
 rcases h with rfl | rfl | rfl <;> decide +kernel
theorem dd_vda {m : Menu} {who : List Str} (hw : ∀ w ∈ who,wdOk w = true) {nm : Nm} {dd : Dd} (h : DdOk m who dd) (h0 : 0 ≤ nm.1) : VdA (nm,dd):=by
 refine ⟨⟨h0,?_,?_,?_⟩,⟨?_,?_,?_⟩⟩
 · cases dd <;> simp only [DdOk] at h <;> simp only [WsDd]
   case ask n i c ss=>have:=h.2.2.2.ln; omega
   case take s o p=>exact ⟨wdOk_ws (hw _ h.1),wdOk_ws (hw _ h.2.1)⟩
   case even ss=>exact ⟨by have:=h.ln; omega,fun s hs=>wdOk_ws (hw _ (h.mem s hs))⟩
 · cases dd <;> simp only [DdOk] at h <;> simp only [WsD]
   case sit s t=>exact wdOk_ws (tab_ws h.2)
   case move s t=>exact wdOk_ws (tab_ws h.2)
   case join s t=>exact wdOk_ws (tab_ws h.1)
 · cases dd <;> simp only [DdOk] at h <;> simp only [isSit,seatOf] <;> try simp
   case sit s t=>exact wdOk_ws (hw _ h.1)
 · cases dd <;> simp only [DdOk] at h <;> simp only [Vd]
   case ask n i c ss=>exact ⟨h.2.2.2.ne,by have:=h.2.2.2.ln; omega⟩
   case even ss=>exact ⟨List.length_pos_iff.mpr h.ne,by have:=h.ln; omega⟩
 · rintro t ot rfl
   exact wdOk_ne (tab_ws h.2)
 · rintro n it c ss rfl
   exact h.2.2.2.nd
theorem Bk.ok {m : Menu} {who : List Str} {t : Int} {pgs : List Pg} (hw : ∀ w ∈ who,wdOk w = true) (h : Bk m who t pgs) (hl : pgs.length ≤ 49) : BkOk m pgs:=by
 have:=h.t4
 refine ⟨hl,fun p hp=>?_,fun p hp=>?_,fun p hp=>?_,h.up⟩
 · obtain ⟨a,b,c,d,e⟩:=h.pg p hp
   exact dd_vda hw e a
 · obtain ⟨a,b,c,d,e⟩:=h.pg p hp
   exact rz_tup (rzs_cons ((rz_nm (by omega) (by omega)).mono (Nat.le_refl 3) (by omega)) (rzs_cons (rz_dd hw e) rzs_nil))
 · obtain ⟨a,b,c,d,e⟩:=h.pg p hp
   omega
end WG
namespace WG
open PySem VL G Kd W9 W26 TB
end WG
namespace WG
open PySem VL G Kd W9 W26
end WG
namespace G
open PySem VL
end G
namespace WG
open PySem VL G Kd W9 W26 TB
end WG
namespace WG
open PySem VL G Kd W9 W26 TB
/-- the dishes that rows tell were asked -/
theorem step_key {rs : List (Int × RowT)} {i : Dn} {n : Int} (h : n ∈ (rowsStep rs i).map (·.1)) : n ∈ rs.map (·.1) ∨ ∃ it c ss,i.dd = .ask n it c ss:=by
 have put1 : ∀ (rs : List (Int × RowT)) k r,n ∈ (G.put rs k r).map (·.1) → n = k ∨ n ∈ rs.map (·.1):=fun rs k r h=>by
   rw [put_keys] at h
   split at h
   · exact .inr h
   · rcases List.mem_append.mp h with h | h
     · exact .inr h
     · exact .inl (List.mem_singleton.mp h)
 have st1 : ∀ (rs : List (Int × RowT)) k (f : RowT → RowT),n ∈ ((match look rs k with | some r=>G.put rs k (f r) | none=>rs) : List (Int × RowT)).map (·.1) → n ∈ rs.map (·.1):=fun rs k f h=>by
   cases e : look rs k with
   | none=>rw [e] at h; exact h
   | some r =>
     rw [e] at h
     rcases put1 rs k _ h with rfl | h
     · exact mem_keys.mp (has_of e)
     · exact h
 have fold1 : ∀ (ns : List Int) (rs : List (Int × RowT)),n ∈ ((ns.foldl (fun rs n=>match look rs n with | some r=>G.put rs n { r with state:=Str.ofString "fired" } | none=>rs) rs) : List (Int × RowT)).map (·.1) → n ∈ rs.map (·.1):=by
   intro ns
   induction ns with
   | nil=>exact fun rs h=>h
   | cons k ns ih=>exact fun rs h=>st1 rs k (fun r=>{ r with state:=Str.ofString "fired" }) (ih _ h)
 obtain ⟨nm,dd,fd,mv⟩:=i
 cases dd with
 | ask k it c ss =>
   rcases put1 rs k _ h with rfl | h
   · exact .inr ⟨it,c,ss,rfl⟩
   · exact .inl h
 | change k it=>exact .inl (st1 rs k _ h)
 | fire t c=>exact .inl (fold1 _ rs h)
 | rush t c=>exact .inl (fold1 _ rs h)
 | serve k=>exact .inl (st1 rs k _ h)
 | back k=>exact .inl (st1 rs k _ h)
 | strike k=>exact .inl (st1 rs k _ h)
 | _=>exact .inl h
end WG
namespace WG
open PySem VL G Kd W9 W26 TB
end WG
namespace WG
open PySem VL G Kd W9 W26 TB
def statesW : List Str:=["asked","fired","served","back","struck"].map Str.ofString
/-- a row of a drawn book's walk -/
structure RowOk (who : List Str) (n : Int) (r : RowT) : Prop where
 n9 : 0 ≤ n ∧ n ≤ 999
 it : wdOk r.item = true
 co : 0 ≤ r.course ∧ r.course ≤ 9
 ss : Ss who r.seats
 st : r.state ∈ statesW
 mi : 0 ≤ r.min ∧ r.min ≤ 1000
theorem eq_of_wp {α : Type} {o : Out α} {a : α} {s : AS} (h : o.wp (fun d s'=>Hold (d = a ∧ s' = s)) noX) : o = .ok a s:=by
 obtain ⟨d,s',e,rfl,rfl⟩:=h.eq
 exact e
end WG
namespace WG
open PySem VL G Kd W9 W26 TB
def pastOf (n : Int) (i : Dn) : List (Nm × Str):=match i.dd with
 | .ask k _ _ _=>if k = n then [(i.nm,Str.ofString "asked")] else []
 | .change k _=>if k = n then [(i.nm,Str.ofString "changed")] else []
 | .serve k=>if k = n then [(i.nm,Str.ofString "served")] else []
 | .back k=>if k = n then [(i.nm,Str.ofString "back")] else []
 | .strike k=>if k = n then [(i.nm,Str.ofString "struck")] else []
 | .fire _ _=>if n ∈ i.fd then [(i.nm,Str.ofString "fired")] else []
 | .rush _ _=>if n ∈ i.fd then [(i.nm,Str.ofString "fired")] else []
 | _=>[]
def pastL (is : List Dn) (n : Int) : List (Nm × Str):=is.flatMap (pastOf n)
theorem past_app (is : List Dn) (i : Dn) (n : Int) : pastL (is ++ [i]) n = pastL is n ++ pastOf n i:=by
 unfold pastL
 rw [List.flatMap_append]
 simp
theorem mem_putH {κ α : Type} [DecidableEq κ] {l : List (κ × α)} {k : κ} {v : α} (hk : has l k = true) {x : κ × α} (h : x ∈ G.put l k v) : (x ∈ l ∧ x.1 ≠ k) ∨ x = (k,v):=by
 unfold G.put at h
 rw [if_pos hk] at h
 obtain ⟨y,hy,rfl⟩:=List.mem_map.mp h
 by_cases z : y.1 = k
 · rw [if_pos z]
   right
   rw [z]
 · rw [if_neg z]
   exact .inl ⟨hy,z⟩
section
variable {m : Menu} {o : Offs} {w : W9.Wk} {s : LW}
/-- the pasts,and nothing of what was not asked -/
structure Pst (w : W9.Wk) (is : List Dn) : Prop where
 d : ∀ d ∈ w.dishes,d.2.2.past = pastL is d.1
 z : ∀ n,has w.dishes n = false → pastL is n = []
/-- one dish moves -/
theorem Pst.one (h : Pst w s.is) {n : Int} {p : Nat} {d : Dish} (e : look w.dishes n = some (p,d)) (i : Dn) (d' : Dish) (x : Nm × Str) (hp : d'.past = d.past ++ [x]) (hi : ∀ k,pastOf k i = if n = k then [x] else []) (w' : W9.Wk) (hw : w'.dishes = G.put w.dishes n (p,d')) : Pst w' (s.is ++ [i]):=by
 have hn : has w.dishes n = true:=has_of e
 refine ⟨fun y hy=>?_,fun k hk=>?_⟩
 · rw [hw] at hy
   rw [past_app,hi]
   rcases mem_putH hn hy with ⟨a,b⟩ | rfl
   · rw [if_neg (fun z=>b z.symm),List.append_nil]
     exact h.d y a
   · show d'.past = _
     rw [if_pos rfl,hp,h.d _ (look_mem e)]
 · rw [hw] at hk
   have k1 : has w.dishes k = false:=by
     cases q : has w.dishes k with
     | false=>rfl
     | true =>
       rw [mem_keys] at q
       have : k ∈ (G.put w.dishes n (p,d')).map (·.1):=by rw [put_keys,if_pos hn]; exact q
       rw [mem_keys.mpr this] at hk
       cases hk
   rw [past_app,hi,h.z k k1,List.nil_append,if_neg]
   rintro rfl
   rw [hn] at k1
   cases k1
theorem Pst.same (h : Pst w s.is) (i : Dn) (hi : ∀ k,pastOf k i = []) (w' : W9.Wk) (hw : w'.dishes = w.dishes) : Pst w' (s.is ++ [i]) :=
 ⟨fun y hy=>by rw [hw] at hy; rw [past_app,hi,List.append_nil]; exact h.d y hy,fun k hk=>by rw [hw] at hk; rw [past_app,hi,List.append_nil]; exact h.z k hk⟩
end
end WG
namespace WG
open PySem VL G Kd W9 W26 TB
theorem mem_putX {κ α : Type} [DecidableEq κ] {l : List (κ × α)} {k : κ} {v : α} {x : κ × α} (h : x ∈ G.put l k v) : (x ∈ l ∧ x.1 ≠ k) ∨ x = (k,v):=by
 cases hk : has l k with
 | true=>exact mem_putH hk h
 | false =>
   unfold G.put at h
   rw [hk] at h
   simp only [Bool.false_eq_true,if_false] at h
   rcases List.mem_append.mp h with h | h
   · refine .inl ⟨h,fun z=>?_⟩
     have:=mem_keys.mpr (List.mem_map_of_mem (f:=(·.1)) h)
     rw [z,hk] at this
     cases this
   · exact .inr (List.mem_singleton.mp h)
theorem put_mono {κ α : Type} [DecidableEq κ] {l : List (κ × α)} {k n : κ} {v : α} (h : has l n = true) : has (G.put l k v) n = true:=by
 rw [mem_keys,put_keys]
 rw [mem_keys] at h
 split
 · exact h
 · exact List.mem_append_left _ h
theorem put_has {κ α : Type} [DecidableEq κ] (l : List (κ × α)) (k : κ) (v : α) : has (G.put l k v) k = true:=by
 rw [has_look,look_put,if_pos rfl]
 rfl
theorem step_mono {rs : List (Int × RowT)} {i : Dn} {n : Int} (h : has rs n = true) : has (rowsStep rs i) n = true:=by
 have st1 : ∀ (rs : List (Int × RowT)) k (f : RowT → RowT),has rs n = true → has ((match look rs k with | some r=>G.put rs k (f r) | none=>rs) : List (Int × RowT)) n = true:=fun rs k f h=>by
   cases look rs k with
   | none=>exact h
   | some r=>exact put_mono h
 have fold1 : ∀ (ns : List Int) (rs : List (Int × RowT)),has rs n = true → has ((ns.foldl (fun rs n=>match look rs n with | some r=>G.put rs n { r with state:=Str.ofString "fired" } | none=>rs) rs) : List (Int × RowT)) n = true:=by
   intro ns
   induction ns with
   | nil=>exact fun rs h=>h
   | cons k ns ih=>exact fun rs h=>ih _ (st1 rs k (fun r=>{ r with state:=Str.ofString "fired" }) h)
 obtain ⟨nm,dd,fd,mv⟩:=i
 cases dd with
 | ask k it c ss=>exact put_mono h
 | change k it=>exact st1 rs k _ h
 | fire t c=>exact fold1 _ rs h
 | rush t c=>exact fold1 _ rs h
 | serve k=>exact st1 rs k _ h
 | back k=>exact st1 rs k _ h
 | strike k=>exact st1 rs k _ h
 | _=>exact h
theorem rows_mono {n : Int} : ∀ (is : List Dn) (rs : List (Int × RowT)),has rs n = true → has (is.foldl rowsStep rs) n = true
 | [],rs,h=>h
 | i :: is,rs,h=>rows_mono is _ (step_mono h)
/-- nothing is told of what was not asked -/
theorem past_none {n : Int} : ∀ (is : List Dn) (rs : List (Int × RowT)),Fits rs is → has (is.foldl rowsStep rs) n = false → pastL is n = []
 | [],rs,_,_=>rfl
 | i :: is,rs,hf,hn=>by
   have ih:=past_none is (rowsStep rs i) hf.2.2 hn
   show pastOf n i ++ pastL is n = []
   rw [ih,List.append_nil]
   have f1:=hf.1
   have no : has rs n = true → False:=fun h=>by
     have:=rows_mono (i :: is) rs h
     rw [hn] at this
     cases this
   have no2 : has (rowsStep rs i) n = true → False:=fun h=>by
     have:=rows_mono is _ h
     rw [show is.foldl rowsStep (rowsStep rs i) = (i :: is).foldl rowsStep rs from rfl,hn] at this
     cases this
   obtain ⟨nm,dd,fd,mv⟩:=i
   unfold FitD at f1
   unfold pastOf
   cases dd <;> simp only at f1 ⊢
   case ask k it c ss =>
     rw [if_neg]
     rintro rfl
     exact no2 (put_has _ _ _)
   case change k it=>rw [if_neg]; rintro rfl; exact no f1
   case serve k=>rw [if_neg]; rintro rfl; exact no f1
   case back k=>rw [if_neg]; rintro rfl; exact no f1
   case strike k=>rw [if_neg]; rintro rfl; exact no f1
   case fire t c=>rw [if_neg]; exact fun h=>no (f1 n h)
   case rush t c=>rw [if_neg]; exact fun h=>no (f1 n h)
/-- what the law reckons of the pasts -/
structure Due (is : List Dn) (dl : List (Int × List (Nm × Str))) : Prop where
 v : ∀ e ∈ dl,e.2 = pastL is e.1 ∧ has (rowsT is) e.1 = true
 k : ∀ n,has (rowsT is) n = true → has dl n = true
 l : dl.length ≤ is.length
theorem Due.nil : Due [] []:=⟨by simp,fun n h=>(by simp [rowsT] at h),by simp⟩
theorem fits_left : ∀ {a b : List Dn} {rs : List (Int × RowT)},Fits rs (a ++ b) → Fits rs a
 | [],_,_,_=>trivial
 | x :: a,b,rs,h=>⟨h.1,h.2.1,fits_left h.2.2⟩
theorem Due.get {is : List Dn} {dl : List (Int × List (Nm × Str))} (h : Due is dl) (hf : Fits [] is) (n : Int) : (look dl n).getD [] = pastL is n:=by
 cases e : look dl n with
 | some v=>exact (h.v _ (look_mem e)).1
 | none =>
   refine (past_none is [] hf ?_).symm
   cases q : has (rowsT is) n with
   | false=>exact q
   | true =>
     have:=h.k n q
     rw [has_look,e] at this
     cases this
theorem rows_snoc (is : List Dn) (i : Dn) : rowsT (is ++ [i]) = rowsStep (rowsT is) i:=by
 unfold rowsT
 rw [List.foldl_append]
 rfl
/-- a deed of one dish -/
theorem Due.one {is : List Dn} {dl : List (Int × List (Nm × Str))} (h : Due is dl) (hf : Fits [] (is ++ [i])) {k : Int} {x : Nm × Str} (hp : ∀ n,pastOf n i = if k = n then [x] else []) (hk : has (rowsStep (rowsT is) i) k = true) (hn : ∀ n,has (rowsStep (rowsT is) i) n = true → n = k ∨ has (rowsT is) n = true) (hl : is.length = is.length) : Due (is ++ [i]) (G.put dl k ((look dl k).getD [] ++ [x])):=by
 have hf0 : Fits [] is:=fits_left hf
 refine ⟨fun e he=>?_,fun n hn'=>?_,?_⟩
 · rw [rows_snoc,past_app,hp]
   rcases mem_putX he with ⟨a,b⟩ | rfl
   · rw [if_neg (fun z=>b z.symm),List.append_nil]
     exact ⟨(h.v e a).1,step_mono (h.v e a).2⟩
   · rw [h.get hf0 k,if_pos rfl]
     exact ⟨rfl,hk⟩
 · rw [rows_snoc] at hn'
   rcases hn n hn' with rfl | q
   · exact put_has _ _ _
   · exact put_mono (h.k n q)
 · have:=h.l
   have q : (G.put dl k ((look dl k).getD [] ++ [x])).length ≤ dl.length + 1:=by
     unfold G.put
     split <;> simp
   rw [List.length_append,List.length_singleton]
   omega
abbrev putP (x : Nm × Str) (dl : List (Int × List (Nm × Str))) (n : Int) : List (Int × List (Nm × Str)):=G.put dl n ((look dl n).getD [] ++ [x])
theorem fires_due (x : Nm × Str) : ∀ (ns : List Int) (dl : List (Int × List (Nm × Str))) (P : Int → List (Nm × Str)), ns.Nodup → (∀ n ∈ ns, has dl n = true) → (∀ e ∈ dl, e.2 = P e.1) →
   (∀ e ∈ ns.foldl (putP x) dl,e.2 = P e.1 ++ (if e.1 ∈ ns then [x] else [])) ∧ (ns.foldl (putP x) dl).map (·.1) = dl.map (·.1)
 | [],dl,P,_,_,h=>⟨fun e he=>by simpa using h e he,rfl⟩
 | n :: ns,dl,P,nd,hn,h=>by
   obtain ⟨n1,n2⟩:=List.nodup_cons.mp nd
   have hh:=hn n List.mem_cons_self
   have hh2:=hh
   rw [has_look] at hh2
   obtain ⟨v,e⟩:=Option.isSome_iff_exists.mp hh2
   have kd : (putP x dl n).map (·.1) = dl.map (·.1):=by rw [put_keys,if_pos hh]
   have h1 : ∀ y ∈ putP x dl n,y.2 = P y.1 ++ (if y.1 = n then [x] else []):=fun y hy=>by
     rcases mem_putH hh hy with ⟨a,b⟩ | rfl
     · rw [if_neg b,List.append_nil]; exact h y a
     · show (look dl n).getD [] ++ [x] = _
       rw [if_pos rfl,e]
       have q : v = P n:=h _ (look_mem e)
       show v ++ _ = P n ++ _
       rw [q]
   obtain ⟨a,b⟩:=fires_due x ns (putP x dl n) (fun k=>P k ++ (if k = n then [x] else [])) n2 (fun k hk=>by
     rw [mem_keys,kd,← mem_keys]
     exact hn k (List.mem_cons_of_mem _ hk)) h1
   refine ⟨fun y hy=>?_,b.trans kd⟩
   rw [a y hy]
   by_cases z : y.1 = n
   · simp [z,n1]
   · simp [z]
theorem Due.fire {is : List Dn} {dl : List (Int × List (Nm × Str))} (h : Due is dl) {i : Dn} {t : Str} {c : Int} (hi : i.dd = .fire t c ∨ i.dd = .rush t c) (nd : i.fd.Nodup) (hn : ∀ n ∈ i.fd,has (rowsT is) n = true) : Due (is ++ [i]) (i.fd.foldl (putP (i.nm,Str.ofString "fired")) dl):=by
 obtain ⟨a,b⟩:=fires_due (i.nm,Str.ofString "fired") i.fd dl (pastL is) nd (fun n hm=>h.k n (hn n hm)) fun e he=>(h.v e he).1
 have po : ∀ k,pastOf k i = if k ∈ i.fd then [(i.nm,Str.ofString "fired")] else []:=fun k=>by
   unfold pastOf
   rcases hi with hi | hi <;> rw [hi]
 refine ⟨fun e he=>⟨by rw [past_app,po]; exact a e he,?_⟩,fun n hm=>?_,?_⟩
 · rw [rows_snoc]
   apply step_mono
   have : e.1 ∈ dl.map (·.1):=by rw [← b]; exact List.mem_map_of_mem he
   obtain ⟨e',he',z⟩:=List.mem_map.mp this
   rw [← z]
   exact (h.v e' he').2
 · rw [rows_snoc,mem_keys] at hm
   rw [mem_keys,b,← mem_keys]
   rcases step_key hm with q | ⟨it,c',ss,q⟩
   · exact h.k n (mem_keys.mpr q)
   · rcases hi with hi | hi <;> rw [hi] at q <;> cases q
 · have:=congrArg List.length b
   rw [List.length_map,List.length_map] at this
   have:=h.l
   rw [List.length_append]
   omega
end WG
namespace WG
open PySem VL G Kd W9 W26 TB
end WG
namespace WG
open PySem VL G Kd W9 W26 TB
theorem frz_bl (S : AS) (n k : Nat) (b : Bool) : frzD S n k (.bl b) = .bl b:=by cases k <;> rfl
theorem ret_bl {frz : Nat} {st0 S : AS} {b : Bool} {E : XQ} : (VL.ret frz st0 (.bl b) S).wp (fun d _=>d = .bl b) E:=by
 unfold VL.ret
 rw [frz_bl]
 split
 · rfl
 · split <;> rfl
end WG
namespace VL
open PySem
section
variable {N B T : En → AS → Prop} {R : D → AS → Prop} {X : XQ} {env : En} {st : AS} {f : En → AS → Out D} {fs : En → AS → Out (List D)} {fb g : En → AS → Fl} {L : Isa}
theorem wp_quiet {o : Fl} : o.quiet.wp N R B T X = o.wp N R B T noX:=by cases o <;> rfl
def tryXas (L : Isa) (k : Str → List (Str × D) → AS → Prop) (X : XQ) : XQ:=fun c fs s=>match L.lookup c with
 | some true=>k c fs s
 | some false=>X c fs s
 | none=>False
theorem wp_tryAs {i : Nat} {h : Str → List (Str × D) → En → AS → Fl} (hi : i < env.length) : (sTryAs i L fb h env st).wp N R B T X = (fb env st).wp N R B T (tryXas L (fun c fs s=>(h c fs (env.set i none) s).wp (fun e s=>N (killE [i] e) s) R (fun e s=>B (killE [i] e) s) (fun e s=>T (killE [i] e) s) noX) X):=by
 unfold sTryAs
 cases fb env st with
 | exc c fs s =>
   simp only [Fl.catch_exc,wp_fexc]
   unfold tryXas
   cases L.lookup c with
   | none=>rfl
   | some b=>cases b with
     | true =>
       show (if i < env.length then (h c fs (env.set i none) s).quiet.kill [i] else .bad).wp N R B T X = _
       rw [if_pos hi,wp_kill,wp_quiet]
     | false=>rfl
 | _=>rfl
end
end VL
namespace WG
open PySem VL G Kd W9 W26 TB
end WG
namespace VL
open PySem PySem.Spec PyProof.Rows L2 TB
theorem exm_sub {K : PySem.W.Frag} {d s : Addr} {b : Bool} (h1 : PySem.W.subIn K (.ref s) (.type "BaseException") = some true) (h2 : PySem.W.isClsIn K s = true) (h3 : PySem.W.typeIn K (.ref s) = some (.type "type")) (h4 : PySem.W.subIn K (.ref d) (.ref s) = some b) : PySem.W.exmOne K (.ref d) (.ref s) = some b:=by
 have e1 : (PySem.W.subIn K (.ref s) (.type "BaseException") == some true) = true:=by rw [h1] <;> rfl
 have e2 : ((PySem.W.clsIn K s).isSome && PySem.W.typeIn K (.ref s) == some (.type "type")) = true:=by
   have z : (PySem.W.clsIn K s).isSome = true:=h2
   rw [z,h3] <;> rfl
 refine Eq.trans (b:=ite _ _ none) rfl ?_
 rw [if_pos e1]
 refine Eq.trans (b:=ite _ _ none) rfl ?_
 rw [if_pos e2]
 exact h4
end VL
namespace VL
open PySem PySem.Spec PyProof.Rows L2 TB
/-- the call of what came -/
@[simp] def vAct (g : AS → Out D) (_ : En) (st : AS) : Out D:=g st
/-- f(lambda: ..) -/
@[simp] def vLam (F : (AS → Out D) → AS → Out D) (fb : En → AS → Out D) (env : En) (st : AS) : Out D:=(F (fun s=>fb env s) st).ne
/-- a def that gets a lambda alone -/
noncomputable def vFnL (n frz : Nat) (p : En → AS → Fl) (st : AS) : Out D:=(p (List.replicate n none) st).fin frz st
section
variable {K : PySem.W.Frag} {mg : MG} {β : Bt} {st : AS} {H H1 : Hp}
theorem Sim.tabs (S : Sim K mg β st H) : LamX.Tabs (tabL K) H:=fun p hp=>by
 obtain ⟨_,ps,e,t,k⟩:=S.tab p hp
 refine ⟨ps,e,t,fun pos cv hc=>?_⟩
 obtain ⟨c,e1,e2,_⟩:=k pos cv hc
 exact ⟨c,e1,e2⟩
theorem Sim.noCode (S : Sim K mg β st H) (x : LamX.ExtN H H1) {c : Addr} {q : Str} (h : H1 c = some (LamX.CodeO c q)) : β.out c:=by
 refine ⟨fun hm=>?_,fun hm=>?_⟩
 · obtain ⟨i,hi,e⟩:=List.getElem_of_mem hm
   have hs : i < st.length:=by rw [← S.len]; exact hi
   obtain ⟨o,h1,h2,h3⟩:=(S.cell i c st[i] (by rw [List.getElem?_eq_getElem hi,e]) (List.getElem?_eq_getElem hs)).nc
   have h4:=x _ _ h1 h2
   rw [h] at h4
   exact h3 c q (Option.some.inj h4).symm
 · obtain ⟨_,o,h1,_,h2,h3⟩:=S.hid c hm
   have h4:=x _ _ h1 h2
   rw [h] at h4
   exact h3 c q (Option.some.inj h4).symm
theorem ext_grown (x : LamX.ExtN H H1) : Ext β H β H1:=⟨⟨[],by simp⟩,rfl,fun a o e n t=>⟨x a o e t,n⟩,fun a z u e=>x a _ e fun _ q=>nomatch q⟩
/-- tables have grown -/
theorem Sim.grown (S : Sim K mg β st H) (x : LamX.ExtN H H1) (T : LamX.Tabs (tabL K) H1) : Sim K mg β st H1:=by
 refine ⟨S.len,S.nd,fun a ha=>?_,fun i a c h1 h2=>?_,fun p hp=>?_⟩
 · obtain ⟨n,o,e,t⟩:=S.hid a ha
   exact ⟨n,o,x a o e t.2.1,t⟩
 · have q:=S.cell i a c h1 h2
   obtain ⟨o,e,nt,_⟩:=q.nc
   exact q.ext (ext_grown x) ((x _ _ e nt).trans e.symm)
 · obtain ⟨out,_⟩:=S.tab p hp
   obtain ⟨ps,e,t,k⟩:=T p hp
   refine ⟨out,ps,e,t,fun pos cv hc=>?_⟩
   obtain ⟨c,e1,e2⟩:=k pos cv hc
   exact ⟨c,e1,e2,S.noCode x e2⟩
end
/-- what is known of the lambda that came: its place,whence all goes on,what it does -/
structure Lz where
 f : Addr
 β : Bt
 H : Hp
 g : AS → Out D
def LzOk (z : Lz) (β : Bt) (σ : L2.St) (H : Hp) : Prop:=σ[0]? = some (some (.ref z.f)) ∧ Ext z.β z.H β H
theorem LzOk.ext {z : Lz} {β β' : Bt} {σ : L2.St} {H H' : Hp} (x : Ext β H β' H') (h : LzOk z β σ H) : LzOk z β' σ H':=⟨h.1,h.2.trans x⟩
def tGz {α ρ : Type} (K : PySem.W.Frag) (mg : MG) (z : Lz) (R : Hp → Bt → α → ρ → Prop) (E : L2.St → XK) (f : En → AS → Out α) : L2.St → Hp → (ρ → Hp → Prop) → Prop :=
 fun σ H Q=>∃ (β : Bt) (env : En) (st : AS),EnvR K H β env σ ∧ Sim K mg β st H ∧ LzOk z β σ H ∧ Post K mg R (E σ) β H Q (f env st)
def tVSz (K : PySem.W.Frag) (mg : MG) (z : Lz) (E : L2.St → XK) (f : En → AS → Fl) : TS:=fun De σ H=>∃ (β : Bt) (env : En) (st : AS),EnvR K H β env σ ∧ Sim K mg β st H ∧ LzOk z β σ H ∧ PostS K mg (E σ) β H De (f env st)
abbrev VEz (X : Cx) (z : Lz) (E : L2.St → XK) (e : Expr) (f : En → AS → Out D) : Prop:=PE X e (tGz X.K X.mgw z (rD X.K) E f)
abbrev VAz (X : Cx) (z : Lz) (E : L2.St → XK) (es : List Expr) (f : En → AS → Out (List D)) : Prop:=PA X es (tGz X.K X.mgw z (rDs X.K) E f)
abbrev VSz (X : Cx) (z : Lz) (E : L2.St → XK) (s : Stmt) (f : En → AS → Fl) : Prop:=PS X s (tVSz X.K X.mgw z E f)
abbrev VSsz (X : Cx) (z : Lz) (E : L2.St → XK) (s : List Stmt) (f : En → AS → Fl) : Prop:=PSs X s (tVSz X.K X.mgw z E f)
/-- the call of it keeps its promise -/
def ActOk (X : Cx) (z : Lz) (a : Str) : Prop:=∀ E : L2.St → XK,(∀ σ,PassesAt (L2.CX X.prog X.w) X σ (E σ)) → ∀ p1 p2 : Pos,VEz X z E (.Call (.Name a p1) [] [] p2) (vAct z.g)
section
variable {X : Cx} {z : Lz} {E : L2.St → XK} {e : Expr} {es : List Expr} {s : Stmt} {ss : List Stmt} {fe : En → AS → Out D} {fs : En → AS → Out (List D)} {f g : En → AS → Fl} {pos : Pos}
theorem tGz_bind {α ρ γ τ : Type} {K : PySem.W.Frag} {mg : MG} {E : XK} {E1 : L2.St → XK} {R : Hp → Bt → α → ρ → Prop} {R' : Hp → Bt → γ → τ → Prop} {β : Bt} {H : Hp} {Q : τ → Hp → Prop} {Q' : ρ → Hp → Prop}
   {f : En → AS → Out α} {k : α → AS → Out γ} {env : En} {st : AS} {σ : L2.St} (eE : E1 σ = E) (he : EnvR K H β env σ) (hs : Sim K mg β st H) (hz : LzOk z β σ H) (h : Post K mg R' E β H Q ((f env st).bind k))
   (hk : ∀ a st1 β1 H1 u,Ext β H β1 H1 → Sim K mg β1 st1 H1 → EnvR K H1 β1 env σ → LzOk z β1 σ H1 → R H1 β1 a u → Post K mg R' E β1 H1 Q (k a st1) → Q' u H1) : tGz K mg z R E1 f σ H Q':=by
 refine ⟨β,env,st,he,hs,hz,?_⟩
 rw [eE]
 cases e : f env st with
 | ok a st1 =>
   rw [e] at h
   exact fun β1 H1 u x s r=>hk a st1 β1 H1 u x s (he.ext x) (hz.ext x) r (Post.ext x h)
 | exc c fs st1 =>
   rw [e] at h
   exact h
 | bad =>
   rw [e] at h
   exact h
theorem flz_bind {α ρ : Type} {K : PySem.W.Frag} {mg : MG} {E : XK} {E1 : L2.St → XK} {R : Hp → Bt → α → ρ → Prop} {Q' : ρ → Hp → Prop} {f : En → AS → Out α} {k : α → AS → Fl} {β : Bt} {H : Hp} {De : Ends} {env : En} {st : AS} {σ : L2.St} (eE : E1 σ = E) (he : EnvR K H β env σ) (hs : Sim K mg β st H) (hz : LzOk z β σ H) (h : PostS K mg E β H De ((f env st).fl k))
   (hk : ∀ a st1 β1 H1 u,Ext β H β1 H1 → Sim K mg β1 st1 H1 → EnvR K H1 β1 env σ → LzOk z β1 σ H1 → R H1 β1 a u → PostS K mg E β1 H1 De (k a st1) → Q' u H1) : tGz K mg z R E1 f σ H Q':=by
 refine ⟨β,env,st,he,hs,hz,?_⟩
 rw [eE]
 cases e : f env st with
 | ok a st1 =>
   rw [e] at h
   exact fun β1 H1 u x s r=>hk a st1 β1 H1 u x s (he.ext x) (hz.ext x) r (PostS.ext x h)
 | exc c fs st1 =>
   rw [e] at h
   exact h
 | bad =>
   rw [e] at h
   exact h
theorem vez_of (h : ∀ E',VE X E' e fe) : VEz X z E e fe:=⟨fun pins s σ H Q I ⟨β,env,st,he,hs,_,q⟩=>(h (E σ)).run pins s σ H Q I ⟨β,env,st,he,hs,q⟩⟩
theorem vaz_of (h : ∀ E',VA X E' es fs) : VAz X z E es fs:=⟨fun pos pins s σ H Q I ⟨β,env,st,he,hs,_,q⟩=>(h (E σ)).run pos pins s σ H Q I ⟨β,env,st,he,hs,q⟩⟩
theorem vaz_cons (ha : VEz X z E e fe) (hr : VAz X z E es fs) (hs : starEach (e :: es) X.env = (false,eval e X.env) :: starEach es X.env:=by rfl) : VAz X z E (e :: es) (vCons fe fs):=by
 refine weakA (pa_cons ha hr hs) fun σ H Q ⟨β,env,st,he,hs,hz,h⟩=>?_
 refine tGz_bind rfl he hs hz h fun a st1 β1 H1 u x1 s1 e1 z1 r1 h1=>?_
 refine tGz_bind rfl e1 s1 z1 h1 fun as st2 β2 H2 us x2 s2 e2 z2 r2 h2=>?_
 exact h2 β2 H2 _ (Ext.refl _ _) s2 (.cons (r1.ext x2) r2)
theorem vez_tup {x1} (h : VAz X z E es fs) : VEz X z E (.Tuple es x1 pos) (vA gTup fs):=by
 refine weakE (pe_tup h) fun σ H Q ⟨β,env,st,he,hs,hz,h⟩=>?_
 refine tGz_bind rfl he hs hz h fun ds st1 β1 H1 us x1 s1 e1 z1 r1 h1=>?_
 obtain ⟨hl,h2⟩:=h1.ite
 exact ⟨by rw [r1.length]; exact hl,new_tup h2 s1 r1⟩
theorem vssz_one (h : VSz X z E s f) : VSsz X z E [s] f:=pss_one h
theorem vsz_ret (he : VEz X z E e fe) : VSz X z E (.Return (some e) pos) (sRet fe) :=
 weakS (ps_ret he) fun De σ H ⟨β,env,st,he,hs,hz,h⟩=>flz_bind rfl he hs hz h fun a st1 β1 H1 u x s1 e1 _ r1 h1=>h1 β1 H1 u (Ext.refl _ _) s1 r1
end
section
variable {X : Cx} {z : Lz} {E : XK} {e : Expr} {s : Stmt} {ss : List Stmt} {fe : En → AS → Out D} {f g : En → AS → Fl} {pos : Pos}
/-- the try,and what comes behind it -/
theorem vssz_last (h1 : VSz X z (fun _=>E) s f) (h2 : VSs X E ss g) : VSsz X z (fun _=>E) (s :: ss) (sSeq f g):=by
 refine weakSs (pss_cons h1 h2) fun De σ H ⟨β,env,st,he,hs,hz,h⟩=>⟨β,env,st,he,hs,hz,?_⟩
 unfold sSeq Fl.seq at h
 cases o : f env st with
 | nx env1 st1 =>
   rw [o] at h
   exact fun β1 H1 σ1 x s1 e1=>⟨β1,env1,st1,e1,s1,PostS.ext x h⟩
 | rt d st1=>rw [o] at h; exact h
 | bk d st1=>rw [o] at h; exact h
 | ct d st1=>rw [o] at h; exact h
 | exc c fs st1=>rw [o] at h; exact h
 | bad=>rw [o] at h; exact h
end
section
variable {X : Cx} {z : Lz} {E : XK} {body suite : List Stmt} {b0 : Stmt} {x n : Str} {cv : Value} {i : Nat} {np pos pos' : Pos} {fb : En → AS → Fl}
theorem vsz_tryAs {L : Isa} {fh : Str → List (Str × D) → En → AS → Fl} (h1 : X.stack = X.env :: X.outer) (h2 : X.env.frame = some X.env.locals) (h3 : X.N.Nodup) (h4 : X.N[i]? = some n) (h5 : X.env.kindOf n = some NameKind.local) (h6 : Names X x cv)
   (tk : Takes X fun cls d _ H=>E cls d H) (hL : ∀ p ∈ L,∃ Ca,X.mg p.1 = some (.ref Ca) ∧ PySem.W.exmOne X.K (.ref Ca) cv = some p.2)
   (hbody : ∀ (W : WX) (pn : List (Addr × Obj)) (xe : Value → Shared → Prop),Takes (X.tr pn xe) W → VSsz (X.tr pn xe) z (fun σ cls d H=>W cls d σ H) body fb)
   (hsuite : ∀ (a : Addr) (oe : Obj) (cls : Value) (d : Option Addr) (pn : List (Addr × Obj)) (c : Str) (fs : List (Str × D)),Zc cls d oe → (∃ vs,oe.data = Data.fields vs) → PSs (X.suite a ((a,oe) :: pn)) (b0 :: suite) (tVSX X.K X.mgw ⟨i,a,cls,d,c,fs⟩ (fh c fs))) :
   VSz X z (fun _=>E) (.Try body [.ExceptHandler (some (.Name x np)) (some n) (b0 :: suite) pos'] [] [] pos) (sTryAs i L fb fh):=by
 refine weakS (ps_try_as (tb:=fun W=>tVSz X.K X.mgw z (fun σ cls d H=>W cls d σ H) fb) (ts:=fun a cls d De σ H=>∃ c fs,tVSX X.K X.mgw ⟨i,a,cls,d,c,fs⟩ (fh c fs) De σ H) h1 h2 h3 h4 h5 h6 tk
   (fun W pn xe tk' _=>hbody W pn xe tk') fun a oe cls d pn hz hf=>⟨fun pins s σ H De I q=>?_⟩) fun De σ H hh=>?_
 · obtain ⟨c,fs,q⟩:=q
   exact (hsuite a oe cls d pn c fs hz hf).run pins s σ H De I q
 obtain ⟨β,env,st,he,hs,hz,h⟩:=hh
 refine ⟨β,env,st,he,hs,hz,?_⟩
 unfold sTryAs at h
 cases o : fb env st with
 | nx e s=>rw [o] at h; exact h
 | rt d s=>rw [o] at h; exact h
 | bk e s=>rw [o] at h; exact h
 | ct e s=>rw [o] at h; exact h
 | bad=>rw [o] at h; exact h
 | exc c fs st1 =>
   rw [o] at h
   dsimp only [Fl.catch] at h
   intro β' H' cls d x1 s1 xr
   obtain ⟨Ca,dx,vs,rfl,gC,rfl,q4,q5,q6⟩:=xr
   cases lk : L.lookup c with
   | none=>rw [lk] at h; exact h.elim
   | some b =>
     rw [lk] at h
     have hm : (c,b) ∈ L:=by
       clear h hL
       induction L with
       | nil=>cases lk
       | cons p L ih =>
         rw [show p :: L = (p.1,p.2) :: L from rfl,List.lookup_cons] at lk
         split at lk
         · rename_i e
           cases lk
           rw [beq_iff_eq.mp e]
           exact List.mem_cons_self
         · exact List.mem_cons_of_mem _ (ih lk)
     obtain ⟨Ca2,g2,ex⟩:=hL _ hm
     obtain rfl : Ca = Ca2:=by
       have gC : X.mg c = _:=gC
       have g2 : X.mg c = _:=g2
       rw [gC] at g2
       cases g2
       rfl
     refine ⟨b,ex,fun e a na=>?_,fun e=>?_⟩
     · subst e
       dsimp only at h
       have il : i < env.length:=by
         by_cases il : i < env.length
         · exact il
         · rw [if_neg il] at h; exact h.elim
       rw [if_pos il] at h
       have he2 : EnvR X.K H' β' (env.set i none) (σ.set i (some (.ref a))):=by
         refine ⟨by rw [List.length_set,List.length_set]; exact he.len,fun j dd hj=>?_⟩
         by_cases ij : j = i
         · subst ij
           by_cases hl : j < env.length
           · rw [List.getElem?_set_self hl] at hj; cases hj
           · rw [List.getElem?_eq_none (by rw [List.length_set]; omega)] at hj; cases hj
         · rw [List.getElem?_set_ne (Ne.symm ij)] at hj
           obtain ⟨u,e1,e2⟩:=(he.ext x1).get j dd hj
           exact ⟨u,by rw [List.getElem?_set_ne (Ne.symm ij)]; exact e1,e2⟩
       have sl : i < σ.length:=by rw [← he.len]; exact il
       refine ⟨c,fs,β',env.set i none,st1,he2,s1,⟨List.getElem?_set_self sl,Ca,dx,vs,rfl,gC,rfl,q4,q5,q6⟩,?_⟩
       have h:=PostS.ext x1 h
       have kl : ∀ {β2 : Bt} {H2 : Hp} {env2 : En} {σ2 : L2.St},EnvR X.K H2 β2 env2 σ2 → EnvR X.K H2 β2 (killE [i] env2) (σ2.set i none):=fun {β2 H2 env2 σ2} q=>by
         refine ⟨by rw [killE,killE,List.length_set,List.length_set]; exact q.len,fun j dd hj=>?_⟩
         rw [killE,killE] at hj
         by_cases ij : j = i
         · subst ij
           by_cases hl : j < env2.length
           · rw [List.getElem?_set_self hl] at hj; cases hj
           · rw [List.getElem?_eq_none (by rw [List.length_set]; omega)] at hj; cases hj
         · rw [List.getElem?_set_ne (Ne.symm ij)] at hj
           obtain ⟨u,e1,e2⟩:=q.get j dd hj
           exact ⟨u,by rw [List.getElem?_set_ne (Ne.symm ij)]; exact e1,e2⟩
       cases o2 : fh c fs (env.set i none) st1 with
       | nx e s=>rw [o2] at h; exact fun β2 H2 σ2 x2 s2 e2=>h β2 H2 _ x2 s2 (kl e2)
       | bk e s=>rw [o2] at h; exact fun β2 H2 σ2 x2 s2 e2=>h β2 H2 _ x2 s2 (kl e2)
       | ct e s=>rw [o2] at h; exact fun β2 H2 σ2 x2 s2 e2=>h β2 H2 _ x2 s2 (kl e2)
       | rt d s=>rw [o2] at h; exact h
       | exc _ _ _=>rw [o2] at h; exact h.elim
       | bad=>rw [o2] at h; exact h.elim
     · subst e
       dsimp only at h
       exact h β' H' (.ref Ca) (some dx) x1 s1 ⟨Ca,dx,vs,rfl,gC,rfl,q4,q5,q6⟩
end
end VL
namespace G
open PySem VL
noncomputable def B__law_draw_d535 : En → AS → Fl :=
   (sSeq (sAugS (vVar 0) (vC (.int 3)) (iiD fun a b=>.int (a + b)) (vC (.int 1)))
   (sSeq (sIf (vB (v2 gtD (v2 ixD (vVar 0) (vC (.int 2))) (vC (.int 0)))) (sSeq (sSet 2 (v2 modD (v2 ixD (vVar 0) (vC (.int 2))) (vVar 1)))
   (sSeq (sAsg (v2 fdivD (v2 ixD (vVar 0) (vC (.int 2))) (vVar 1)) (kSub (vVar 0) (vC (.int 2))))
   (sRet (vVar 2)))) sNext)
   (sSeq (sSet 3 (vIfE (vB (v2 (eqD false) (v2 ixD (vVar 0) (vC (.int 0))) (vA (gLst false) vNil))) (vC (.int 7)) (v2 ixD (v2 ixD (vVar 0) (vC (.int 0))) (v2 modD (v2 ixD (vVar 0) (vC (.int 1))) (vA (g1 lenD) (vCons (v2 ixD (vVar 0) (vC (.int 0))) vNil))))))
   (sSeq (sAugS (vVar 0) (vC (.int 1)) (iiD fun a b=>.int (a + b)) (vC (.int 1)))
   (sSeq (sIf (vAnd (vB (v2 geD (vVar 3) (v2 powD (vC (.int 10)) (vC (.int 18))))) (vB (v2 leD (v2 ixD (vVar 0) (vC (.int 1))) (vA (g1 lenD) (vCons (v2 ixD (vVar 0) (vC (.int 0))) vNil))))) (sSeq (sAsg (v2 fdivD (vVar 3) (vVar 1)) (kSub (vVar 0) (vC (.int 2))))
   (sRet (v2 modD (vVar 3) (vVar 1)))) sNext)
   (sSeq (sSet 4 (v2 ixD (vVar 0) (vC (.int 3))))
   (sSeq (sSet 5 (v2 modD (v2 (addD false) (v2 (addD false) (v2 modD (vVar 3) (vC (.int 2147483629))) (v2 (mulD false) (v2 (mulD false) (vC (.int 69621)) (vVar 4)) (vVar 4))) (v2 (mulD false) (vC (.int 7)) (vVar 4))) (vC (.int 2147483629))))
   (sSeq (sSet 5 (v2 modD (v2 (addD false) (v2 (mulD false) (vVar 5) (vVar 5)) (v2 (mulD false) (vC (.int 48271)) (vVar 4))) (vC (.int 2147483647))))
   (sSeq (sSet 5 (v2 modD (v2 (addD false) (v2 (mulD false) (vVar 5) (vVar 5)) (v2 (mulD false) (vC (.int 16807)) (vVar 4))) (vC (.int 2147483587))))
   (sRet (v2 modD (v2 fdivD (v2 modD (v2 (addD false) (v2 (mulD false) (vVar 5) (vVar 5)) (vVar 4)) (vC (.int 2147483629))) (vC (.int 131))) (vVar 1))))))))))))
noncomputable def F__law_draw_d535 : List D → AS → Out D:=vFn 6 0 B__law_draw_d535
noncomputable def B__law_word_ffbe : En → AS → Fl :=
   (sSeq (sSet 2 (vC (.str "abcdefghijklmnopqrstuvwxyz")))
   (sSeq (sSet 3 (vCallA 2 0 [] [.pos 0,.pos 1] F__law_draw_d535 (vCons (vVar 0) (vCons (vC (.int 5)) vNil)) vNil))
   (sSeq (sSet 4 (v2 ixD (vVar 2) (vCallA 2 0 [] [.pos 0,.pos 1] F__law_draw_d535 (vCons (vVar 0) (vCons (vC (.int 26)) vNil)) vNil)))
   (sSeq (sIf (vOr (vB (v2 gtD (vVar 3) (vC (.int 1)))) (vB (v2 (eqD false) (vVar 1) (vA (gLst false) vNil)))) (sFor (vA rng1 (vCons (vCallA 2 0 [] [.pos 0,.pos 1] F__law_draw_d535 (vCons (vVar 0) (vCons (vC (.int 8)) vNil)) vNil) vNil)) (kName 5) (sKill [5] (sSet 4 (v2 (addD false) (vVar 4) (v2 ixD (vVar 2) (vCallA 2 0 [] [.pos 0,.pos 1] F__law_draw_d535 (vCons (vVar 0) (vCons (vC (.int 26)) vNil)) vNil)))))) (sSeq (sSet 6 (v2 ixD (vVar 1) (vCallA 2 0 [] [.pos 0,.pos 1] F__law_draw_d535 (vCons (vVar 0) (vCons (vA (g1 lenD) (vCons (vVar 1) vNil)) vNil)) vNil)))
   (sSet 4 (vIfE (vB (v2 (eqD false) (vVar 3) (vC (.int 0)))) (vSl (slD false) (vVar 6) vNoPart (v1 asI (v2 (addD false) (vC (.int 1)) (vCallA 2 0 [] [.pos 0,.pos 1] F__law_draw_d535 (vCons (vVar 0) (vCons (vA (g1 lenD) (vCons (vVar 6) vNil)) vNil)) vNil)))) (v2 (addD false) (vSl (slD false) (vVar 6) vNoPart (v1 asI (vC (.int 7)))) (v2 ixD (vVar 2) (vCallA 2 0 [] [.pos 0,.pos 1] F__law_draw_d535 (vCons (vVar 0) (vCons (vC (.int 26)) vNil)) vNil)))))))
   (sSeq (sFor (vA rng1 (vCons (vC (.int 60)) vNil)) (kName 5) (sKill [5] (sSeq (sIf (vB (v2 (inD true) (vVar 4) (vVar 1))) sBreak sNext)
   (sSet 4 (vCallA 1 0 [] [.pos 0] F__law_after (vCons (vVar 4) vNil) vNil)))))
   (sRet (vVar 4)))))))
noncomputable def F__law_word_ffbe : List D → AS → Out D:=vFn 7 0 B__law_word_ffbe
noncomputable def B__law_prices_d456 : En → AS → Fl :=
   (sSeq (sPar 1 2 (vCons (vA (gLst true) vNil) (vCons (vC (.int 0)) vNil)))
   (sSeq (sFor (vA rng1 (vCons (v2 (addD false) (vC (.int 1)) (vCallA 2 0 [] [.pos 0,.pos 1] F__law_draw_d535 (vCons (vVar 0) (vCons (vC (.int 4)) vNil)) vNil)) vNil)) (kName 3) (sKill [3,4] (sSeq (sSet 4 (vA gTup (vCons (vC (.int 0)) (vCons (vC (.int 1)) (vCons (vCallA 2 0 [] [.pos 0,.pos 1] F__law_draw_d535 (vCons (vVar 0) (vCons (vC (.int 100)) vNil)) vNil) (vCons (v2 subD (vC (.int 100000)) (vCallA 2 0 [] [.pos 0,.pos 1] F__law_draw_d535 (vCons (vVar 0) (vCons (vC (.int 3)) vNil)) vNil)) (vCons (vCallA 2 0 [] [.pos 0,.pos 1] F__law_draw_d535 (vCons (vVar 0) (vCons (vC (.int 100001)) vNil)) vNil) vNil)))))))
   (sSeq (sExpr (vML appD (vVar 1) (vCons (vA gTup (vCons (vVar 2) (vCons (v2 ixD (vVar 4) (vCallA 2 0 [] [.pos 0,.pos 1] F__law_draw_d535 (vCons (vVar 0) (vCons (vC (.int 5)) vNil)) vNil)) vNil))) vNil)))
   (sAug 2 (iiD fun a b=>.int (a + b)) (v2 (addD false) (vC (.int 1)) (v2 ixD (vA gTup (vCons (vC (.int 0)) (vCons (vCallA 2 0 [] [.pos 0,.pos 1] F__law_draw_d535 (vCons (vVar 0) (vCons (vC (.int 90)) vNil)) vNil) (vCons (vCallA 2 0 [] [.pos 0,.pos 1] F__law_draw_d535 (vCons (vVar 0) (vCons (vC (.int 30000)) vNil)) vNil) vNil)))) (vCallA 2 0 [] [.pos 0,.pos 1] F__law_draw_d535 (vCons (vVar 0) (vCons (vC (.int 3)) vNil)) vNil))))))))
   (sRet (vA (g1 tupD) (vCons (vVar 1) vNil)))))
noncomputable def F__law_prices_d456 : List D → AS → Out D:=vFn 5 0 B__law_prices_d456
noncomputable def B__law_menu_d501 : En → AS → Fl :=
   (sSeq (sSet 2 (vA (gLst true) vNil))
   (sSeq (sFor (vA rng1 (vCons (vVar 1) vNil)) (kName 3) (sKill [3] (sExpr (vML appD (vVar 2) (vCons (vCallA 2 0 [] [.pos 0,.pos 1] F__law_word_ffbe (vCons (vVar 0) (vCons (vVar 2) vNil)) vNil) vNil)))))
   (sRet (vA (g1 tupD) (vCons (vLc false [4] (v1 itD (vA (g1 (sortD false)) (vCons (vVar 2) vNil))) (kName 4) tYesV (vA gTup (vCons (vVar 4) (vCons (vCallA 2 0 [] [.pos 0,.pos 1] F__law_draw_d535 (vCons (vVar 0) (vCons (vC (.int 61)) vNil)) vNil) (vCons (vCallA 1 0 [] [.pos 0] F__law_prices_d456 (vCons (vVar 0) vNil) vNil) vNil))))) vNil)))))
noncomputable def F__law_menu_d501 : List D → AS → Out D:=vFn 5 0 B__law_menu_d501
noncomputable def B__law_row_3c8c : En → AS → Fl :=
   (sRet (v2 ixD (vLc false [2] (v1 itD (vVar 0)) (kName 2) (vB (v2 (eqD false) (v2 ixD (vVar 2) (vC (.int 0))) (vVar 1))) (vVar 2)) (vC (.int 0))))
noncomputable def F__law_row_3c8c : List D → AS → Out D:=vFn 3 0 B__law_row_3c8c
noncomputable def B__law_pays : En → AS → Fl :=
   (sSeq (sFor (v1 itD (v1 revD (v2 ixD (vCallA 2 0 [] [.pos 0,.pos 1] F__law_row_3c8c (vCons (vVar 0) (vCons (vVar 1) vNil)) vNil) (vC (.int 2))))) (kTup 2 (kCons (kName 3) (kCons (kName 4) kNil))) (sKill [3,4] (sIf (vB (v2 geD (v2 subD (vVar 2) (vVar 3)) (vC (.int 0)))) (sRet (vVar 4)) sNext)))
   (sRet (vC .non)))
noncomputable def F__law_pays : List D → AS → Out D:=vFn 5 0 B__law_pays
noncomputable def B__law_told_ce03 (g : AS → Out D) : En → AS → Fl :=
   (sSeq (sTryAs 1 [("NoItem",true)] (sRet (vA gTup (vCons (vC (.str "told")) (vCons (vAct g) vNil)))) (fun xc xf=>(sIf (vAnd (v1 truD (xIs [("NoItem",true)] xc)) (vAnd (v1 truD (xIs [("NoItem",true)] xc)) (vNot (v1 truD (xIs [("NoItem",false)] xc))))) (sRet (vA gTup (vCons (vC (.str "no")) (vCons (xFld ["NoItem"] xc xf "item") vNil)))) sNext)))
   (sRet (vA gTup (vCons (vC (.str "other")) vNil))))
noncomputable def F__law_told_ce03 (g : AS → Out D) : AS → Out D:=vFnL 2 0 (B__law_told_ce03 g)
noncomputable def B__law_grown_6fdd : En → AS → Fl :=
   (sSeq (sSet 1 (vA (gLst true) (vCons (v2 ixD (v2 ixD (vVar 0) (vC (.int 0))) (vC (.int 0))) vNil)))
   (sSeq (sTryAs 2 [("NoItem",true)] (sExpr (vCallA 3 0 [.int 0] [.pos 0,.pos 1,.pos 2] F_price (vCons (vVar 0) (vCons (vVar 1) (vCons (vC (.int 0)) vNil))) vNil)) (fun xc xf=>(sSeq (sExpr (vML appD (vVar 1) (vCons (vC (.int 0)) vNil))) (sRet (v2 (eqD false) (xFld ["NoItem"] xc xf "item") (vA (gLst false) (vCons (v2 ixD (v2 ixD (vVar 0) (vC (.int 0))) (vC (.int 0))) (vCons (vC (.int 0)) vNil))))))))
   (sRet (vC (.bl false)))))
noncomputable def F__law_grown_6fdd : List D → AS → Out D:=vFn 3 0 B__law_grown_6fdd
noncomputable def B__law_grown_minutes : En → AS → Fl :=
   (sSeq (sSet 1 (vA (gLst true) (vCons (v2 ixD (v2 ixD (vVar 0) (vC (.int 0))) (vC (.int 0))) vNil)))
   (sSeq (sTryAs 2 [("NoItem",true)] (sExpr (vCallA 2 0 [] [.pos 0,.pos 1] F_minutes_of (vCons (vVar 0) (vCons (vVar 1) vNil)) vNil)) (fun xc xf=>(sSeq (sExpr (vML appD (vVar 1) (vCons (vC (.int 0)) vNil))) (sRet (v2 (eqD false) (xFld ["NoItem"] xc xf "item") (vA (gLst false) (vCons (v2 ixD (v2 ixD (vVar 0) (vC (.int 0))) (vC (.int 0))) (vCons (vC (.int 0)) vNil))))))))
   (sRet (vC (.bl false)))))
noncomputable def F__law_grown_minutes : List D → AS → Out D:=vFn 3 0 B__law_grown_minutes
noncomputable def B__law_right_515c : En → AS → Fl :=
   (sSeq (sFor (v1 itD (vVar 0)) (kTup 3 (kCons (kName 2) (kCons (kName 3) (kCons (kName 4) kNil)))) (sKill [2,3,4,5] (sSeq (sIf (vB (v2 (eqD true) (vA (g1 reprD) (vCons (vCallA 2 0 [] [.pos 0,.pos 1] F_minutes_of (vCons (vVar 0) (vCons (vVar 2) vNil)) vNil) vNil)) (vA (g1 reprD) (vCons (vVar 3) vNil)))) (sRet (vC (.bl false))) sNext)
   (sFor (v1 itD (vVar 1)) (kName 5) (sKill [5] (sIf (vB (v2 (eqD true) (vA (g1 reprD) (vCons (vCallA 3 0 [.int 0] [.pos 0,.pos 1,.pos 2] F_price (vCons (vVar 0) (vCons (vVar 2) (vCons (vVar 5) vNil))) vNil) vNil)) (vA (g1 reprD) (vCons (vCallA 3 0 [] [.pos 0,.pos 1,.pos 2] F__law_pays (vCons (vVar 0) (vCons (vVar 2) (vCons (vVar 5) vNil))) vNil) vNil)))) (sRet (vC (.bl false))) sNext))))))
   (sSeq (sSet 6 (vLc false [9] (v1 itD (vVar 0)) (kName 9) tYesV (v2 ixD (vVar 9) (vC (.int 0)))))
   (sSeq (sSet 7 (vA (gLst false) (vCons (vC (.str "")) (vCons (vC (.str "A")) (vCons (vC .non) (vCons (vC (.bl true)) (vCons (vC (.int 0)) (vCons (vA gTup vNil) (vCons (vA (gLst false) vNil) (vCons (vA gTup (vCons (vC (.str "a")) vNil)) (vCons (vA (gLst false) (vCons (v2 ixD (vVar 6) (vC (.int 0))) vNil)) (vCons (vA gTup (vCons (v2 ixD (vVar 6) (vC (.int 0))) vNil)) (vCons (v2 ixD (vVar 0) (vC (.int 0))) (vCons (v2 (addD false) (v2 ixD (vVar 6) (vC (.int 0))) (vC (.str "a"))) (vCons (vSl (slD false) (v2 ixD (vVar 6) (v1 negD (vC (.int 1)))) vNoPart (v1 asI (v1 negD (vC (.int 1))))) vNil)))))))))))))))
   (sSeq (sFor (v1 itD (vVar 7)) (kName 8) (sKill [8] (sIf (vB (v2 (inD true) (vVar 8) (vVar 6))) (sSeq (sIf (vB (v2 (eqD true) (vA (g1 reprD) (vCons (vLam F__law_told_ce03 (vCallA 3 0 [.int 0] [.pos 0,.pos 1,.pos 2] F_price (vCons (vVar 0) (vCons (vVar 8) (vCons (vC (.int 5)) vNil))) vNil)) vNil)) (vA (g1 reprD) (vCons (vA gTup (vCons (vC (.str "no")) (vCons (vVar 8) vNil))) vNil)))) (sRet (vC (.bl false))) sNext)
   (sIf (vB (v2 (eqD true) (vA (g1 reprD) (vCons (vLam F__law_told_ce03 (vCallA 2 0 [] [.pos 0,.pos 1] F_minutes_of (vCons (vVar 0) (vCons (vVar 8) vNil)) vNil)) vNil)) (vA (g1 reprD) (vCons (vA gTup (vCons (vC (.str "no")) (vCons (vVar 8) vNil))) vNil)))) (sRet (vC (.bl false))) sNext)) sNext)))
   (sRet (vAndV (vCallA 1 0 [] [.pos 0] F__law_grown_6fdd (vCons (vVar 0) vNil) vNil) (vCallA 1 0 [] [.pos 0] F__law_grown_minutes (vCons (vVar 0) vNil) vNil)))))))
noncomputable def F__law_right_515c : List D → AS → Out D:=vFn 10 0 B__law_right_515c
noncomputable def B__law_by_hand_ec0d : En → AS → Fl :=
   (sSeq (sSet 0 (vA gTup (vCons (vA gTup (vCons (vC (.str "a")) (vCons (vC (.int 7)) (vCons (vA gTup (vCons (vA gTup (vCons (vC (.int 0)) (vCons (vC (.int 5)) vNil))) (vCons (vA gTup (vCons (vC (.int 10)) (vCons (vC (.int 0)) vNil))) (vCons (vA gTup (vCons (vC (.int 11)) (vCons (vC (.int 9)) vNil))) (vCons (vA gTup (vCons (vC (.int 600)) (vCons (vC (.int 4)) vNil))) vNil))))) vNil)))) (vCons (vA gTup (vCons (vC (.str "ab")) (vCons (vC (.int 0)) (vCons (vA gTup (vCons (vA gTup (vCons (vC (.int 0)) (vCons (vC (.int 1)) vNil))) vNil)) vNil)))) vNil))))
   (sSeq (sSet 1 (vA (gLst false) (vCons (vA gTup (vCons (vC (.int 0)) (vCons (vC (.int 5)) vNil))) (vCons (vA gTup (vCons (vC (.int 9)) (vCons (vC (.int 5)) vNil))) (vCons (vA gTup (vCons (vC (.int 10)) (vCons (vC (.int 0)) vNil))) (vCons (vA gTup (vCons (vC (.int 11)) (vCons (vC (.int 9)) vNil))) (vCons (vA gTup (vCons (vC (.int 599)) (vCons (vC (.int 9)) vNil))) (vCons (vA gTup (vCons (vC (.int 600)) (vCons (vC (.int 4)) vNil))) (vCons (vA gTup (vCons (vC (.int 99999)) (vCons (vC (.int 4)) vNil))) vNil)))))))))
   (sSeq (sIf (vB (v2 (eqD true) (vLc false [2,3] (v1 itD (vVar 1)) (kTup 2 (kCons (kName 2) (kCons (kName 3) kNil))) tYesV (vCallA 3 0 [.int 0] [.pos 0,.pos 1,.pos 2] F_price (vCons (vVar 0) (vCons (vC (.str "a")) (vCons (vVar 2) vNil))) vNil)) (vLc false [2,3] (v1 itD (vVar 1)) (kTup 2 (kCons (kName 2) (kCons (kName 3) kNil))) tYesV (vVar 3)))) (sRet (vC (.bl false))) sNext)
   (sRet (vAndV (v2 (eqD false) (vCallA 3 0 [.int 0] [.pos 0,.pos 1,.pos 2] F_price (vCons (vVar 0) (vCons (vC (.str "ab")) (vCons (vC (.int 99999)) vNil))) vNil) (vC (.int 1))) (vAndV (v2 (eqD false) (vCallA 2 0 [] [.pos 0,.pos 1] F_minutes_of (vCons (vVar 0) (vCons (vC (.str "a")) vNil)) vNil) (vC (.int 7))) (v2 (eqD false) (vCallA 2 0 [] [.pos 0,.pos 1] F_minutes_of (vCons (vVar 0) (vCons (vC (.str "ab")) vNil)) vNil) (vC (.int 0)))))))))
noncomputable def F__law_by_hand_ec0d : List D → AS → Out D:=vFn 4 0 B__law_by_hand_ec0d
noncomputable def B_law_4787 : En → AS → Fl :=
   (sSeq (sSet 1 (vCallA 1 0 [] [.pos 0] F__law_feed_6a37 (vCons (vVar 0) vNil) vNil))
   (sSeq (sFor (vA rng1 (vCons (vC (.int 3)) vNil)) (kName 2) (sKill [2,3,4,5,6,7,8,9] (sSeq (sSet 3 (vCallA 2 0 [] [.pos 0,.pos 1] F__law_menu_d501 (vCons (vVar 1) (vCons (v2 (addD false) (vC (.int 1)) (vCallA 2 0 [] [.pos 0,.pos 1] F__law_draw_d535 (vCons (vVar 1) (vCons (vC (.int 12)) vNil)) vNil)) vNil)) vNil))
   (sSeq (sSet 4 (vA (gLst true) (vCons (vC (.int 0)) (vCons (vC (.int 99999)) (vCons (vCallA 2 0 [] [.pos 0,.pos 1] F__law_draw_d535 (vCons (vVar 1) (vCons (vC (.int 100000)) vNil)) vNil) vNil)))))
   (sSeq (sFor (v1 itD (vVar 3)) (kTup 3 (kCons (kName 5) (kCons (kName 6) (kCons (kName 7) kNil)))) (sKill [5,6,7,8] (sSeq (sSet 8 (v2 ixD (v2 ixD (vVar 7) (vCallA 2 0 [] [.pos 0,.pos 1] F__law_draw_d535 (vCons (vVar 1) (vCons (vA (g1 lenD) (vCons (vVar 7) vNil)) vNil)) vNil)) (vC (.int 0))))
   (sExpr (vML extD (vVar 4) (vCons (vA (gLst false) (vCons (vVar 8) (vCons (vA maxD (vCons (vC (.int 0)) (vCons (v2 subD (vVar 8) (vC (.int 1))) vNil))) (vCons (v2 (addD false) (vVar 8) (vC (.int 1))) vNil)))) vNil))))))
   (sSeq (sSet 9 (vA (g1 reprD) (vCons (vVar 3) vNil)))
   (sIf (vOr (vNot (v1 truD (vCallA 2 0 [] [.pos 0,.pos 1] F__law_right_515c (vCons (vVar 3) (vCons (vLc false [10] (v1 itD (vVar 4)) (kName 10) tYesV (vA minD (vCons (vC (.int 99999)) (vCons (vVar 10) vNil)))) vNil)) vNil))) (vB (v2 (eqD true) (vA (g1 reprD) (vCons (vVar 3) vNil)) (vVar 9)))) (sRet (vC (.bl false))) sNext)))))))
   (sRet (vCallA 0 0 [] [] F__law_by_hand_ec0d vNil vNil))))
noncomputable def F_law_4787 : List D → AS → Out D:=vFn 11 0 B_law_4787
end G
namespace G
open PySem VL
end G
namespace V05
open PySem VL G Kd W9 W26 WG TB
theorem eq_rz5 {x y : D} {n1 k1 n2 k2 : Nat} (h1 : Rz n1 k1 x) (h2 : Rz n2 k2 y) (l1 : k1 ≤ 60) (l2 : k2 ≤ 60) (neg : Bool) (st : AS) : eqD neg x y st = .ok (.bl (xor neg (eqvD x y))) st:=by
 have f1 : (valD st x).fit = true:=by
   rw [val_pure h1.p]; unfold D.fit; rw [h1.p,h1.f.shaped (by omega) l1]; rfl
 have f2 : (valD st y).fit = true:=by
   rw [val_pure h2.p]; unfold D.fit; rw [h2.p,h2.f.shaped (by omega) l2]; rfl
 unfold eqD
 rw [f1,f2,val_pure h1.p,val_pure h2.p]
 split <;> rfl
theorem word_asc {x : Str} (h : wordS x = true) : asc x ∧ x.length ≤ 20:=by
 unfold wordS letter at h
 simp only [Bool.and_eq_true,decide_eq_true_eq,List.all_eq_true] at h
 refine ⟨?_,by omega⟩
 unfold asc
 intro c hc
 have:=h.2.2 c hc
 omega
theorem rz_word {x : Str} {k : Nat} (h : wordS x = true) : Rz 1 k (.str x):=rz_str (word_asc h)
theorem find_head {α : Type} (p : α → Bool) : ∀ l : List α,(l.filter p).head? = l.find? p
 | []=>rfl
 | x :: l=>by
   rw [List.find?_cons]
   cases h : p x with
   | true=>rw [List.filter_cons_of_pos h]; rfl
   | false=>rw [List.filter_cons_of_neg (by rw [h]; decide)]; exact find_head p l
theorem f_lrow (m : Menu) (item : Str) (st : AS) (ml : m.length ≤ 1000) {r : Str × Int × List (Int × Int)} (h : rowOf m item = some r) : F__law_row_3c8c [eMenu m,.str item] st = .ok (eRow r) st:=by
 rw [show eMenu m = .tup (m.map eRow) from rfl]
 have cp : ∀ S,compL (kName 2) (v1 asB (v2 (eqD false) (v2 ixD (vVar 2) (vC (.int 0))) (vVar 1))) (vVar 2) [some (.tup (m.map eRow)),some (.str item),none] [] (m.map eRow) S = .ok ((m.filter fun r=>decide (r.1 = item)).map eRow) S:=fun S=>by
   obtain ⟨X,hX⟩ : ∃ X,X = some (D.tup (m.map eRow)):=⟨_,rfl⟩
   rw [← hX]
   refine comp_en eRow (fun r=>decide (r.1 = item)) eRow ok_nil m fun x _=>⟨_,rfl,?_,fun _=>rfl⟩
   by_cases e : x.1 = item <;> simp [eRow,eqD,scalD,eqvD,D.py,PyData.eqv,e]
 have hd:=find_head (fun r : Str × Int × List (Int × Int)=>decide (r.1 = item)) m
 rw [show m.find? (fun r=>decide (r.1 = item)) = some r from h] at hd
 have fl:=List.length_filter_le (fun r : Str × Int × List (Int × Int)=>decide (r.1 = item)) m
 obtain ⟨F,hF⟩ : ∃ F,F = m.filter (fun r=>decide (r.1 = item)):=⟨_,rfl⟩
 rw [← hF] at hd cp fl
 obtain ⟨t,rfl⟩ : ∃ t,F = r :: t:=by
   cases F with
   | nil=>cases hd
   | cons a t=>injection hd with hd; exact ⟨t,by rw [hd]⟩
 clear hF hd
 have l1 : (m.map eRow).length ≤ 16000000:=by rw [List.length_map]; omega
 have l2 : ((r :: t).map eRow).length ≤ 16000000:=by rw [List.length_map]; omega
 have ix : ∀ S,ixD (.lst ((r :: t).map eRow)) (.int 0) S = .ok (eRow r) S:=fun S=>by
   rw [List.map_cons]
   generalize t.map eRow = T
   simp [L2.atI,L2.ixN]
 have rt : VL.ret 0 st (eRow r) st = .ok (eRow r) st:=ret_len rfl
 generalize (r :: t).map eRow = RT at *
 generalize m.map eRow = MR at *
 generalize eRow r = R at *
 refine eq_of_wp ?_
 unfold F__law_row_3c8c
 rw [E5]; simp only [List.map_cons,List.map_nil,List.length_cons,List.length_nil,Nat.reduceAdd,Nat.reduceSub,List.replicate_succ,List.replicate_zero,List.cons_append,List.nil_append]
 unfold B__law_row_3c8c
 try simp -dsimp -implicitDefEqProofs [-ixD,-Int.toNat_natCast,↓A1,↓A8,↓B1,↓A7,↓C6,↓C7,↓D6,↓F0,↓E3,↓C8,↓C9,↓F3,↓F1,↓E6,↓F6,↓E9,↓E8,↓D9,↓E7,↓E4,↓F4,↓F5,↓B5,↓B4,↓C2,↓B6,↓C0,↓C1,↓A6,↓B9,↓A9,↓C3,↓A0,↓B7,↓B8,↓C5,↓C4,↓E5,mk,F7,F8,F9,G0,G5,G6,G7,G8,G9,H6,H7,H8,H9,I6,I7,I8,I9,J0,J1,J3,J4,J5,l1]
 refine wp_of (cp _) ?_
 try simp -dsimp -implicitDefEqProofs [-ixD,-Int.toNat_natCast,↓A1,↓A8,↓B1,↓A7,↓C6,↓C7,↓D6,↓F0,↓E3,↓C8,↓C9,↓F3,↓F1,↓E6,↓F6,↓E9,↓E8,↓D9,↓E7,↓E4,↓F4,↓F5,↓B5,↓B4,↓C2,↓B6,↓C0,↓C1,↓A6,↓B9,↓A9,↓C3,↓A0,↓B7,↓B8,↓C5,↓C4,↓E5,mk,F7,F8,F9,G0,G5,G6,G7,G8,G9,H6,H7,H8,H9,I6,I7,I8,I9,J0,J1,J3,J4,J5,l2,-ixD,ix,rt]
 exact ⟨rfl,rfl⟩
theorem last_find {α : Type} (p : α → Bool) (l : List α) : (l.filter p).getLast? = l.reverse.find? p:=by
 rw [← find_head,List.filter_reverse,List.head?_reverse]
theorem f_lpays (m : Menu) (item : Str) (minute : Int) (st : AS) (ml : m.length ≤ 1000) {r : Str × Int × List (Int × Int)} {p : Int} (h : rowOf m item = some r) (hp : lastP r minute = some p) (hl : r.2.2.length ≤ 1000) : F__law_pays [eMenu m,.str item,.int minute] st = .ok (.int p) st:=by
 have rw_:=fun S=>f_lrow m item S ml h
 have i2 : ∀ S,ixD (eRow r) (.int 2) S = .ok (.tup (r.2.2.map ePr)) S:=fun S=>by
   show ixD (.tup [.str r.1,.int r.2.1,.tup (r.2.2.map ePr)]) (.int 2) S = _
   generalize r.2.2.map ePr = P at *
   simp [L2.atI,L2.ixN]
 have hp2 : (r.2.2.reverse.find? fun q=>decide (q.1 ≤ minute)).map (·.2) = some p:=by
   rw [← last_find,← List.getLast?_map]
   exact hp
 have rv : ∀ S,revD (.tup (r.2.2.map ePr)) S = .ok (.tup (r.2.2.reverse.map ePr)) S:=fun S=>by
   rw [List.map_reverse]
   generalize r.2.2.map ePr = P at *
   simp
 obtain ⟨q,hq,qp⟩:=Option.map_eq_some_iff.mp hp2
 obtain ⟨M,hM⟩ : ∃ M,M = eMenu m:=⟨_,rfl⟩
 rw [← hM] at rw_ ⊢
 have lp : ∀ S,forL (kTup 2 (kCons (kName 3) (kCons (kName 4) kNil))) (sKill [3,4] (sIf (v1 asB (v2 geD (v2 subD (vVar 2) (vVar 3)) (vC (.int 0)))) (sRet (vVar 4)) sNext)) [] (r.2.2.reverse.map ePr) [some M,some (.str item),some (.int minute),none,none] S = .rt (.int p) S:=fun S=>by
   rw [for_find ePr (fun q=>decide (q.1 ≤ minute)) (fun q=>.int q.2) ok_nil r.2.2.reverse ?c,hq]
   · show Fl.rt (D.int q.2) S = _
     rw [qp]
   case c =>
     intro x _
     refine ⟨_,by simp [ePr]; rfl,?_⟩
     by_cases hx : x.1 ≤ minute
     · have : 0 ≤ minute - x.1:=by omega
       simp [hx,this]
     · have : ¬ 0 ≤ minute - x.1:=by omega
       simp [hx,this,Fl.kill,killE]
 have rt : VL.ret 0 st (.int p) st = .ok (.int p) st:=ret_len rfl
 generalize r.2.2.reverse.map ePr = RV at *
 generalize r.2.2.map ePr = P at *
 generalize eRow r = R at *
 refine eq_of_wp ?_
 unfold F__law_pays
 rw [E5]; simp only [List.map_cons,List.map_nil,List.length_cons,List.length_nil,Nat.reduceAdd,Nat.reduceSub,List.replicate_succ,List.replicate_zero,List.cons_append,List.nil_append]
 unfold B__law_pays
 try simp -dsimp -implicitDefEqProofs [-ixD,-Int.toNat_natCast,↓A1,↓A8,↓B1,↓A7,↓C6,↓C7,↓D6,↓F0,↓E3,↓C8,↓C9,↓F3,↓F1,↓E6,↓F6,↓E9,↓E8,↓D9,↓E7,↓E4,↓F4,↓F5,↓B5,↓B4,↓C2,↓B6,↓C0,↓C1,↓A6,↓B9,↓A9,↓C3,↓A0,↓B7,↓B8,↓C5,↓C4,↓E5,mk,F7,F8,F9,G0,G5,G6,G7,G8,G9,H6,H7,H8,H9,I6,I7,I8,I9,J0,J1,J3,J4,J5,rw_,-ixD,i2,-revD,rv,lp,rt]
 exact ⟨rfl,rfl⟩
theorem f_row_no (m : Menu) (t : D) (st : AS) (hn : ∀ r ∈ m,eqD false (.str r.1) t st = .ok (.bl false) st) : F_menu_row [eMenu m,t] st = .exc (Str.ofString "NoItem") [(Str.ofString "item",t)] st:=by
 have lp : forL (kName 2) (sKill [2] (sIf (v1 asB (v2 (eqD false) (v2 ixD (vVar 2) (vC (.int 0))) (vVar 1))) (sRet (vVar 2)) sNext)) [] (m.map eRow) [some (eMenu m),some t,none] st = .nx [some (eMenu m),some t,none] st:=by
   generalize eMenu m = M
   rw [for_find eRow (fun _=>false) eRow ok_nil m ?c,show m.find? (fun _=>false) = none by simp]
   case c =>
     intro x hx
     exact ⟨_,rfl,by simp [eRow,hn x hx,Fl.kill,killE]⟩
 rw [show eMenu m = .tup (m.map eRow) from rfl] at lp ⊢
 generalize m.map eRow = MR at *
 unfold F_menu_row B_menu_row vFn
 simp -implicitDefEqProofs [lp]
theorem wp_vFnL5 {n frz : Nat} {p : En → AS → Fl} {st : AS} {Q : D → AS → Prop} {X : XQ} : (vFnL n frz p st).wp Q X = (p (List.replicate n none) st).wp (fun _ s=>(VL.ret frz st .non s).wp Q X) (fun d s=>(VL.ret frz st d s).wp Q X) (fun _ _=>False) (fun _ _=>False) X:=wp_fin
theorem told_no {g : AS → Out D} {st : AS} {x : D} (h : g st = .exc (Str.ofString "NoItem") [(Str.ofString "item",x)] st) : F__law_told_ce03 g st = .ok (.tup [.str (Str.ofString "no"),x]) st:=by
 refine eq_of_wp ?_
 unfold F__law_told_ce03
 rw [wp_vFnL5]
 simp only [List.replicate_succ,List.replicate_zero]
 unfold B__law_told_ce03
 try simp -dsimp -implicitDefEqProofs [-ixD,-Int.toNat_natCast,↓A1,↓A8,↓B1,↓A7,↓C6,↓C7,↓D6,↓F0,↓E3,↓C8,↓C9,↓F3,↓F1,↓E6,↓F6,↓E9,↓E8,↓D9,↓E7,↓E4,↓F4,↓F5,↓B5,↓B4,↓C2,↓B6,↓C0,↓C1,↓A6,↓B9,↓A9,↓C3,↓A0,↓B7,↓B8,↓C5,↓C4,↓E5,mk,F7,F8,F9,G0,G5,G6,G7,G8,G9,H6,H7,H8,H9,I6,I7,I8,I9,J0,J1,J3,J4,J5,-sTryAs]
 rw [wp_tryAs (by simp)]
 try simp -dsimp -implicitDefEqProofs [-ixD,-Int.toNat_natCast,↓A1,↓A8,↓B1,↓A7,↓C6,↓C7,↓D6,↓F0,↓E3,↓C8,↓C9,↓F3,↓F1,↓E6,↓F6,↓E9,↓E8,↓D9,↓E7,↓E4,↓F4,↓F5,↓B5,↓B4,↓C2,↓B6,↓C0,↓C1,↓A6,↓B9,↓A9,↓C3,↓A0,↓B7,↓B8,↓C5,↓C4,↓E5,mk,F7,F8,F9,G0,G5,G6,G7,G8,G9,H6,H7,H8,H9,I6,I7,I8,I9,J0,J1,J3,J4,J5,h]
 unfold tryXas
 rw [show (([("NoItem",true)] : Isa).lookup (Str.ofString "NoItem")) = some true by decide]
 have i1 : ∀ en S,xIs [(Str.ofString "NoItem",true)] (Str.ofString "NoItem") en S = .ok (.bl true) S:=fun _ _=>rfl
 have i2 : ∀ en S,xIs [(Str.ofString "NoItem",false)] (Str.ofString "NoItem") en S = .ok (.bl false) S:=fun _ _=>rfl
 have i3 : ∀ en S,xFld [Str.ofString "NoItem"] (Str.ofString "NoItem") [(Str.ofString "item",x)] (Str.ofString "item") en S = .ok x S:=fun _ _=>rfl
 have rt : VL.ret 0 st (.tup [.str (Str.ofString "no"),x]) st = .ok (.tup [.str (Str.ofString "no"),x]) st:=ret_len rfl
 try simp -dsimp -implicitDefEqProofs [-ixD,-Int.toNat_natCast,↓A1,↓A8,↓B1,↓A7,↓C6,↓C7,↓D6,↓F0,↓E3,↓C8,↓C9,↓F3,↓F1,↓E6,↓F6,↓E9,↓E8,↓D9,↓E7,↓E4,↓F4,↓F5,↓B5,↓B4,↓C2,↓B6,↓C0,↓C1,↓A6,↓B9,↓A9,↓C3,↓A0,↓B7,↓B8,↓C5,↓C4,↓E5,mk,F7,F8,F9,G0,G5,G6,G7,G8,G9,H6,H7,H8,H9,I6,I7,I8,I9,J0,J1,J3,J4,J5,-xIs,-xFld,i1,i2,i3,rt]
 all_goals try exact ⟨rfl,rfl⟩
theorem eq_refs {st : AS} {i : Nat} {ds : List D} {y : D} {n1 k1 n2 k2 : Nat} (h : st[i]? = some (.lst ds)) (h1 : Rz n1 k1 (.lst ds)) (h2 : Rz n2 k2 y) (l1 : k1 ≤ 60) (l2 : k2 ≤ 60) (neg : Bool) :
   eqD neg y (.ref i) st = .ok (.bl (xor neg (eqvD y (.lst ds)))) st ∧ eqD neg (.ref i) y st = .ok (.bl (xor neg (eqvD (.lst ds) y))) st:=by
 have v : valD st (.ref i) = .lst ds:=by simp [h]
 have f1 : (D.lst ds).fit = true:=by
   unfold D.fit; rw [h1.p,h1.f.shaped (by omega) l1]; rfl
 have f2 : (valD st y).fit = true:=by
   rw [val_pure h2.p]; unfold D.fit; rw [h2.p,h2.f.shaped (by omega) l2]; rfl
 constructor
 · unfold eqD
   rw [v,f1,f2,val_pure h2.p,if_neg (by simp [scalD])]
   rfl
 · unfold eqD
   rw [v,f1,f2,val_pure h2.p,if_neg (by simp [scalD])]
   rfl
end V05
namespace V05
open PySem VL G Kd W9 W26 WG TB
theorem dr5 : F__law_draw_d535 = F__law_draw_ed7e:=rfl
theorem mn5 : F__law_menu_d501 = F__law_menu_3a71:=rfl
structure Fz (ns : List Int) (n : Nat) (st : AS) : Prop where
 ln : st.length = 1
 fd : Fd 0 ns n st
theorem fz_split {ns : List Int} {n m : Nat} {st X S : AS} (f : Fz ns n st) (d : Dr 0 ns m (st ++ X) S) : ∃ st1,S = st1 ++ X ∧ Fz ns m st1:=by
 have hl:=d.len
 have l1:=f.ln
 rw [List.length_append,l1] at hl
 have e : S = S.take 1 ++ X:=by
   apply List.ext_getElem?
   intro j
   rcases Nat.lt_or_ge j 1 with z | z
   · rw [List.getElem?_append_left (by rw [List.length_take]; omega),List.getElem?_take,if_pos z]
   · rw [d.at_ j (by omega),List.getElem?_append_right (by omega),List.getElem?_append_right (by rw [List.length_take]; omega),List.length_take,l1]
     congr 1
     omega
 have tl : (S.take 1).length = 1:=by rw [List.length_take]; omega
 refine ⟨S.take 1,e,tl,d.fd.to ?_⟩
 rw [List.getElem?_take,if_pos (by omega)]
theorem fz_app {ns : List Int} {n : Nat} {st : AS} (f : Fz ns n st) (X : List C) : Fd 0 ns n (st ++ X):=f.fd.to (List.getElem?_append_left (by rw [f.ln]; omega))
theorem wp_dz {ns : List Int} {n : Nat} {st X : AS} {m : Int} {Q : D → AS → Prop} {E : XQ} (f : Fz ns n st) (hn : n < 900000000) (h0 : 0 < m) (h1 : m < 4611686018427387904)
   (h : ∀ r st1,0 ≤ r → r < m → st1.length = 1 → Fz ns (n + 1) st1 → Q (.int r) (st1 ++ X)) : (F__law_draw_d535 [.ref 0,.int m] (st ++ X)).wp Q E:=by
 obtain ⟨r,S,e,r0,r1,d⟩:=draw_ok (m:=m) (fz_app f X) (by omega) h0 h1
 obtain ⟨st1,rfl,f1⟩:=fz_split f d
 rw [dr5]
 exact wp_of e (h r st1 r0 r1 f1.ln f1)
theorem ix_tup5 {ds : List D} {r : Int} (h0 : 0 ≤ r) (h1 : r < ds.length) : ∃ d ∈ ds,∀ S,ixD (.tup ds) (.int r) S = .ok d S:=by
 have hl : r.toNat < ds.length:=by omega
 have e : L2.atI ds r = some ds[r.toNat]:=by rw [atI_pos h0 h1]; exact List.getElem?_eq_getElem hl
 exact ⟨_,List.getElem_mem hl,fun S=>by simp [e]⟩
end V05
namespace V05
open PySem VL G Kd W9 W26 WG TB
/-- a menu and offs as drawn -/
structure Mo (m : Menu) (o : Offs) : Prop where
 m0 : m ≠ []
 m12 : m.length ≤ 12
 row : ∀ r ∈ m,Kd.RowOk r
 o6 : o.length ≤ 6
 off : ∀ x ∈ o,OffOk x
section
variable {m : Menu} {o : Offs}
theorem Mo.okm (h : Mo m o) : OkMenu m:=⟨fun r hr=>by have:=(h.row r hr).l1; omega,fun r hr=>by
 obtain ⟨b,pk⟩:=(h.row r hr).p
 have l0:=(h.row r hr).l0
 cases e : r.2.2 with
 | nil=>rw [e] at l0; cases l0
 | cons p q=>exact ⟨p,List.mem_cons_self,pk.hd p q e⟩⟩
theorem Mo.oko (h : Mo m o) : OkOffs o:=⟨by have:=h.o6; omega,fun x hx=>⟨(h.off x hx).c0,(h.off x hx).c1⟩⟩
theorem Mo.w (h : Mo m o) : ∀ r ∈ m,wordS r.1 = true:=fun r hr=>(h.row r hr).w
theorem Mo.rzm (h : Mo m o) : Rz 300 4 (eMenu m):=by
 have hr : ∀ r ∈ m,Rz 20 3 (eRow r):=fun r hr=>by
   have k:=h.row r hr
   obtain ⟨b,pk⟩:=k.p
   have m0:=k.m0
   have m1:=k.m1
   have bl:=pk.bl
   have l1:=k.l1
   have p : Rz 13 2 (.tup (r.2.2.map ePr)):=rz_tup (rzs_mapN (N:=4) (c:=3) (k:=1) ePr (fun q hq=>by
     have:=pk.mem q hq
     exact rz_tup (rzs_cons (rz_i (by omega) (by omega)) (rzs_cons (rz_i (by omega) (by omega)) rzs_nil))) k.l1)
   exact (rz_tup (rzs_cons (rz_word k.w) (rzs_cons (rz_i (by omega) (by omega)) (rzs_cons p rzs_nil)))).mono (by omega) (by omega)
 exact (rz_tup (rzs_mapN (N:=12) eRow hr h.m12)).mono (by omega) (by omega)
theorem Mo.cost (h : Mo m o) {item : Str} (hi : (rowOf m item).isSome = true) {minute : Int} (h0 : 0 ≤ minute) : 0 ≤ costT m o item minute ∧ costT m o item minute ≤ 100000:=by
 obtain ⟨r,hr⟩:=Option.isSome_iff_exists.mp hi
 obtain ⟨p,hp⟩:=h.okm.last hr h0
 have b:=h.oko.pct item minute
 have k:=h.row r (List.mem_of_find?_eq_some hr)
 obtain ⟨b2,pk⟩:=k.p
 have pm : 0 ≤ p ∧ p ≤ 100000:=by
   have:=List.mem_of_getLast? hp
   obtain ⟨q,hq,rfl⟩:=List.mem_map.mp this
   have:=pk.mem q (List.mem_filter.mp hq).1
   omega
 have ct : costT m o item minute = (p * (100 - pct o item minute) + 100 - 1) / 100:=by
   unfold costT
   rw [hr]
   show ((lastP r minute).getD 0 * _ + 100 - 1) / 100 = _
   rw [hp]
   rfl
 rw [ct]
 generalize pct o item minute = pc at *
 have h1 : 0 ≤ p * (100 - pc):=Int.mul_nonneg pm.1 (by omega)
 have h2 : p * (100 - pc) ≤ p * 100:=Int.mul_le_mul_of_nonneg_left (by omega) pm.1
 omega
/-- what no menu has -/
def Thing (m : Menu) (t : D) : Prop:=(∀ r ∈ m,∀ S,eqD false (.str r.1) t S = .ok (.bl false) S) ∧ Rz 400 5 t
theorem thing_else (h : Mo m o) {t : D} (rz : Rz 400 5 t) (ht : ∀ s : Str,eqvD (.str s) t = false) : Thing m t:=⟨fun r hr S=>by
 rw [eq_rz5 (rz_word (k:=0) (h.w r hr)) rz (by omega) (by omega),ht r.1]
 rfl,rz⟩
end
end V05
namespace V05
open PySem VL G Kd W9 W26 WG TB
end V05
namespace V04
open PySem VL G Kd W9 W26 WG TB V05
section
variable {m : Menu}
/-- a menu as drawn -/
structure Mm (m : Menu) : Prop where
 m0 : m ≠ []
 m12 : m.length ≤ 12
 row : ∀ r ∈ m,Kd.RowOk r
 nd : (m.map (·.1)).Nodup
theorem Mm.mo (h : Mm m) : Mo m []:=⟨h.m0,h.m12,h.row,by simp,by simp⟩
theorem look_row (nd : (m.map (·.1)).Nodup) {r : Str × Int × List (Int × Int)} (hr : r ∈ m) : rowOf m r.1 = some r:=by
 unfold rowOf
 induction m with
 | nil=>cases hr
 | cons a l ih =>
   rw [List.map_cons,List.nodup_cons] at nd
   rcases List.mem_cons.mp hr with e | k
   · subst e
     rw [List.find?_cons_of_pos (by simp)]
   · have ne : ¬ a.1 = r.1:=fun e=>nd.1 (by rw [e]; exact List.mem_map_of_mem k)
     rw [List.find?_cons_of_neg (by simpa using ne)]
     exact ih nd.2 k
theorem f_minutes_of {item : Str} {r : Str × Int × List (Int × Int)} (h : rowOf m item = some r) (st : AS) : F_minutes_of [eMenu m,.str item] st = .ok (.int r.2.1) st:=by
 have e:=f_menu_row m item st h
 have i1 : ∀ S,ixD (eRow r) (.int 1) S = .ok (.int r.2.1) S:=fun S=>by
   show ixD (.tup [.str r.1,.int r.2.1,.tup (r.2.2.map ePr)]) (.int 1) S = _
   generalize r.2.2.map ePr = P at *
   simp [L2.atI,L2.ixN]
 generalize eMenu m = M at *
 generalize eRow r = R at *
 refine eq_of_wp ?_
 unfold F_minutes_of
 rw [E5]; simp only [List.map_cons,List.map_nil,List.length_cons,List.length_nil,Nat.reduceAdd,Nat.reduceSub,List.replicate_succ,List.replicate_zero,List.cons_append,List.nil_append]
 unfold B_minutes_of
 try simp -dsimp -implicitDefEqProofs [-ixD,-Int.toNat_natCast,↓A1,↓A8,↓B1,↓A7,↓C6,↓C7,↓D6,↓F0,↓E3,↓C8,↓C9,↓F3,↓F1,↓E6,↓F6,↓E9,↓E8,↓D9,↓E7,↓E4,↓F4,↓F5,↓B5,↓B4,↓C2,↓B6,↓C0,↓C1,↓A6,↓B9,↓A9,↓C3,↓A0,↓B7,↓B8,↓C5,↓C4,↓E5,mk,F7,F8,F9,G0,G5,G6,G7,G8,G9,H6,H7,H8,H9,I6,I7,I8,I9,J0,J1,J3,J4,J5,e,-ixD,i1]
 all_goals try exact ⟨rfl,rfl⟩
theorem f_price_no (t : D) (minute : Int) (st : AS) (hn : ∀ r ∈ m,eqD false (.str r.1) t st = .ok (.bl false) st) : F_price [eMenu m,t,.int minute] st = .exc (Str.ofString "NoItem") [(Str.ofString "item",t)] st:=by
 have e:=f_row_no m t st hn
 generalize eMenu m = M at *
 unfold F_price B_price vFn
 simp -implicitDefEqProofs [e]
theorem f_minutes_no (t : D) (st : AS) (hn : ∀ r ∈ m,eqD false (.str r.1) t st = .ok (.bl false) st) : F_minutes_of [eMenu m,t] st = .exc (Str.ofString "NoItem") [(Str.ofString "item",t)] st:=by
 have e:=f_row_no m t st hn
 generalize eMenu m = M at *
 unfold F_minutes_of B_minutes_of vFn
 simp -implicitDefEqProofs [e]
theorem f_grown4 (st : AS) {r : Str × Int × List (Int × Int)} {m' : Menu} (e : m = r :: m') (hw : ∀ r ∈ m,wordS r.1 = true) : F__law_grown_6fdd [eMenu m] st = .ok (.bl true) st ∧ F__law_grown_minutes [eMenu m] st = .ok (.bl true) st:=by
 have wr:=hw r (by rw [e]; exact List.mem_cons_self)
 have i0 : ∀ S,ixD (eMenu m) (.int 0) S = .ok (eRow r) S:=fun S=>by
   rw [e,show eMenu (r :: m') = .tup (eRow r :: m'.map eRow) from rfl]
   generalize m'.map eRow = MR
   simp [L2.atI,L2.ixN]
 have i1 : ∀ S,ixD (eRow r) (.int 0) S = .ok (.str r.1) S:=fun S=>by
   show ixD (.tup [.str r.1,.int r.2.1,.tup (r.2.2.map ePr)]) (.int 0) S = _
   generalize r.2.2.map ePr = P at *
   simp [L2.atI,L2.ixN]
 have g0 : ∀ c : C,(st ++ [c])[st.length]? = some c:=fun c=>by simp
 have s0 : ∀ c c' : C,(st ++ [c]).set st.length c' = st ++ [c']:=fun c c'=>by simp
 have R1 : Rz 2 1 (.lst [.str r.1]):=rz_lst (k:=0) (rzs_cons (rz_word wr) rzs_nil)
 have R2 : Rz 3 1 (.lst [.str r.1,.int 0]):=rz_lst (k:=0) (rzs_cons (rz_word wr) (rzs_cons (rz_i (by omega) (by omega)) rzs_nil))
 have nx : ∀ x ∈ m,eqD false (.str x.1) (.ref st.length) (st ++ [.lst [.str r.1]]) = .ok (.bl false) (st ++ [.lst [.str r.1]]):=fun x hx=>by
   rw [(eq_refs (g0 _) R1 (rz_word (k:=0) (hw x hx)) (by omega) (by omega) false).1]
   rfl
 have CN:=f_price_no (.ref st.length) 0 (st ++ [.lst [.str r.1]]) nx
 have CM:=f_minutes_no (.ref st.length) (st ++ [.lst [.str r.1]]) nx
 have EQ : eqD false (.ref st.length) (.lst [.str r.1,.int 0]) (st ++ [.lst [.str r.1,.int 0]]) = .ok (.bl true) (st ++ [.lst [.str r.1,.int 0]]):=by
   rw [(eq_refs (g0 _) R2 R2 (by omega) (by omega) false).2]
   simp [eqvD,D.py,D.pys,PyData.eqv,PyData.eqvAll]
 have AP : appD (.ref st.length) [.int 0] (st ++ [C.lst [.str r.1]]) = .ok .non (st ++ [.lst [.str r.1,.int 0]]):=by
   simp [g0,s0,F8 (show 1 < 16000000 by omega)]
 have rt : VL.ret 0 st (.bl true) (st ++ [C.lst [.str r.1,.int 0]]) = .ok (.bl true) st:=ret_app _ rfl
 generalize eMenu m = M at *
 generalize eRow r = R at *
 have i3 : ∀ en S,xFld [Str.ofString "NoItem"] (Str.ofString "NoItem") [(Str.ofString "item",.ref st.length)] (Str.ofString "item") en S = .ok (.ref st.length) S:=fun _ _=>rfl
 constructor
 · refine eq_of_wp ?_
   unfold F__law_grown_6fdd
   rw [E5]; simp only [List.map_cons,List.map_nil,List.length_cons,List.length_nil,Nat.reduceAdd,Nat.reduceSub,List.replicate_succ,List.replicate_zero,List.cons_append,List.nil_append]
   unfold B__law_grown_6fdd
   try simp -dsimp -implicitDefEqProofs [-ixD,-Int.toNat_natCast,↓A1,↓A8,↓B1,↓A7,↓C6,↓C7,↓D6,↓F0,↓E3,↓C8,↓C9,↓F3,↓F1,↓E6,↓F6,↓E9,↓E8,↓D9,↓E7,↓E4,↓F4,↓F5,↓B5,↓B4,↓C2,↓B6,↓C0,↓C1,↓A6,↓B9,↓A9,↓C3,↓A0,↓B7,↓B8,↓C5,↓C4,↓E5,mk,F7,F8,F9,G0,G5,G6,G7,G8,G9,H6,H7,H8,H9,I6,I7,I8,I9,J0,J1,J3,J4,J5,-ixD,i0,i1,-sTryAs]
   rw [wp_tryAs (by simp)]
   try simp -dsimp -implicitDefEqProofs [-ixD,-Int.toNat_natCast,↓A1,↓A8,↓B1,↓A7,↓C6,↓C7,↓D6,↓F0,↓E3,↓C8,↓C9,↓F3,↓F1,↓E6,↓F6,↓E9,↓E8,↓D9,↓E7,↓E4,↓F4,↓F5,↓B5,↓B4,↓C2,↓B6,↓C0,↓C1,↓A6,↓B9,↓A9,↓C3,↓A0,↓B7,↓B8,↓C5,↓C4,↓E5,mk,F7,F8,F9,G0,G5,G6,G7,G8,G9,H6,H7,H8,H9,I6,I7,I8,I9,J0,J1,J3,J4,J5,CN]
   unfold tryXas
   rw [show (([("NoItem",true)] : Isa).lookup (Str.ofString "NoItem")) = some true by decide]
   try simp -dsimp -implicitDefEqProofs [-ixD,-Int.toNat_natCast,↓A1,↓A8,↓B1,↓A7,↓C6,↓C7,↓D6,↓F0,↓E3,↓C8,↓C9,↓F3,↓F1,↓E6,↓F6,↓E9,↓E8,↓D9,↓E7,↓E4,↓F4,↓F5,↓B5,↓B4,↓C2,↓B6,↓C0,↓C1,↓A6,↓B9,↓A9,↓C3,↓A0,↓B7,↓B8,↓C5,↓C4,↓E5,mk,F7,F8,F9,G0,G5,G6,G7,G8,G9,H6,H7,H8,H9,I6,I7,I8,I9,J0,J1,J3,J4,J5,-xFld,i3,-appD,AP,-ixD,i0,i1,EQ,rt]
   all_goals try exact ⟨rfl,rfl⟩
 · refine eq_of_wp ?_
   unfold F__law_grown_minutes
   rw [E5]; simp only [List.map_cons,List.map_nil,List.length_cons,List.length_nil,Nat.reduceAdd,Nat.reduceSub,List.replicate_succ,List.replicate_zero,List.cons_append,List.nil_append]
   unfold B__law_grown_minutes
   try simp -dsimp -implicitDefEqProofs [-ixD,-Int.toNat_natCast,↓A1,↓A8,↓B1,↓A7,↓C6,↓C7,↓D6,↓F0,↓E3,↓C8,↓C9,↓F3,↓F1,↓E6,↓F6,↓E9,↓E8,↓D9,↓E7,↓E4,↓F4,↓F5,↓B5,↓B4,↓C2,↓B6,↓C0,↓C1,↓A6,↓B9,↓A9,↓C3,↓A0,↓B7,↓B8,↓C5,↓C4,↓E5,mk,F7,F8,F9,G0,G5,G6,G7,G8,G9,H6,H7,H8,H9,I6,I7,I8,I9,J0,J1,J3,J4,J5,-ixD,i0,i1,-sTryAs]
   rw [wp_tryAs (by simp)]
   try simp -dsimp -implicitDefEqProofs [-ixD,-Int.toNat_natCast,↓A1,↓A8,↓B1,↓A7,↓C6,↓C7,↓D6,↓F0,↓E3,↓C8,↓C9,↓F3,↓F1,↓E6,↓F6,↓E9,↓E8,↓D9,↓E7,↓E4,↓F4,↓F5,↓B5,↓B4,↓C2,↓B6,↓C0,↓C1,↓A6,↓B9,↓A9,↓C3,↓A0,↓B7,↓B8,↓C5,↓C4,↓E5,mk,F7,F8,F9,G0,G5,G6,G7,G8,G9,H6,H7,H8,H9,I6,I7,I8,I9,J0,J1,J3,J4,J5,CM]
   unfold tryXas
   rw [show (([("NoItem",true)] : Isa).lookup (Str.ofString "NoItem")) = some true by decide]
   try simp -dsimp -implicitDefEqProofs [-ixD,-Int.toNat_natCast,↓A1,↓A8,↓B1,↓A7,↓C6,↓C7,↓D6,↓F0,↓E3,↓C8,↓C9,↓F3,↓F1,↓E6,↓F6,↓E9,↓E8,↓D9,↓E7,↓E4,↓F4,↓F5,↓B5,↓B4,↓C2,↓B6,↓C0,↓C1,↓A6,↓B9,↓A9,↓C3,↓A0,↓B7,↓B8,↓C5,↓C4,↓E5,mk,F7,F8,F9,G0,G5,G6,G7,G8,G9,H6,H7,H8,H9,I6,I7,I8,I9,J0,J1,J3,J4,J5,-xFld,i3,-appD,AP,-ixD,i0,i1,EQ,rt]
   all_goals try exact ⟨rfl,rfl⟩
theorem in_else {ws : List Str} (hw : ∀ w ∈ ws,wordS w = true) (l : ws.length ≤ 100) {t : D} {n k : Nat} (rz : Rz n k t) (hk : k ≤ 60) (ht : ∀ s : Str,eqvD (.str s) t = false) (S : AS) : inD true t (.lst (ws.map D.str)) S = .ok (.bl true) S:=by
 have R : Rz 101 1 (.lst (ws.map D.str)):=(rz_lst (rzs_mapN (N:=100) D.str (fun x hx=>rz_word (k:=0) (hw x hx)) l)).mono (by omega) (by omega)
 have v : valD S t = t:=val_pure rz.p
 have f1 : t.fit = true:=by unfold D.fit; rw [rz.p,rz.f.shaped (by omega) hk]; rfl
 have f2 : (D.lst (ws.map D.str)).fit = true:=by unfold D.fit; rw [R.p,R.f.shaped (by omega) (by omega)]; rfl
 have an : ((ws.map D.str).any fun d=>eqvD d t) = false:=by
   rw [List.any_map,List.any_eq_false]
   intro w _
   show ¬ eqvD (.str w) t = true
   rw [ht w]
   decide
 have p2 : (valD S (.lst (ws.map D.str))).pure = true:=R.p
 generalize ws.map D.str = WD at *
 unfold inD
 rw [show seqOf S (.lst WD) = some WD from rfl]
 dsimp only
 rw [v,f1,f2,an,p2]
 split <;> simp
/-- what may be asked: where no item is it,nothing is told of it -/
def Th4 (m : Menu) (WD : List D) (t : D) : Prop:=Rz 400 5 t ∧ ∃ b,(∀ S,inD true t (.lst WD) S = .ok (.bl b) S) ∧ (b = true → ∀ r ∈ m,∀ S,eqD false (.str r.1) t S = .ok (.bl false) S)
theorem th_str {WD : List D} (e : WD = (m.map (·.1)).map D.str) {t : Str} (a : asc t ∧ t.length ≤ 20) : Th4 m WD (.str t):=⟨(rz_str (k:=5) a).mono (by omega) (Nat.le_refl 5),!decide (t ∈ m.map (·.1)),fun S=>by rw [e,in_lst]; simp,fun hb r hr S=>by
 have ht : t ∉ m.map (·.1):=by simpa using hb
 have e2 : ¬ r.1 = t:=fun x=>ht (x ▸ List.mem_map_of_mem hr)
 simp [eqD,scalD,eqvD,D.py,PyData.eqv,e2]⟩
theorem th_else (h : Mm m) {WD : List D} (e : WD = (m.map (·.1)).map D.str) {t : D} (rz : Rz 400 5 t) (ht : ∀ s : Str,eqvD (.str s) t = false) : Th4 m WD t:=⟨rz,true,fun S=>by
 rw [e]
 exact in_else (fun w hw=>by obtain ⟨r,hr,rfl⟩:=List.mem_map.mp hw; exact (h.row r hr).w) (by rw [List.length_map]; have:=h.m12; omega) rz (by omega) ht S,fun _=>(thing_else h.mo rz ht).1⟩
end
end V04
namespace V04
open PySem VL G Kd W9 W26 WG TB V05
open L2 (cutS)
def Mc : Menu:=[(Str.ofString "a",7,[(0,5),(10,0),(11,9),(600,4)]),(Str.ofString "ab",0,[(0,1)])]
def Rc : List (Int × Int):=[(0,5),(9,5),(10,0),(11,9),(599,9),(600,4),(99999,4)]
theorem f_by_hand (st : AS) : F__law_by_hand_ec0d [] st = .ok (.bl true) st:=by
 have ra : rowOf Mc (Str.ofString "a") = some (Str.ofString "a",7,[(0,5),(10,0),(11,9),(600,4)]):=by decide +kernel
 have rb : rowOf Mc (Str.ofString "ab") = some (Str.ofString "ab",0,[(0,1)]):=by decide +kernel
 have PA : ∀ p ∈ Rc,∀ S,F_price [eMenu Mc,.str (Str.ofString "a"),.int p.1] S = .ok (.int p.2) S:=fun p hp S=>by
   refine f_price Mc _ p.1 S ra ?_ (by decide)
   revert p
   decide +kernel
 have PB : ∀ S,F_price [eMenu Mc,.str (Str.ofString "ab"),.int 99999] S = .ok (.int 1) S:=fun S=>f_price Mc _ 99999 S rb (by decide +kernel) (by decide)
 have MA : ∀ S,F_minutes_of [eMenu Mc,.str (Str.ofString "a")] S = .ok (.int 7) S:=fun S=>f_minutes_of ra S
 have MB : ∀ S,F_minutes_of [eMenu Mc,.str (Str.ofString "ab")] S = .ok (.int 0) S:=fun S=>f_minutes_of rb S
 have lit : D.tup [D.tup [D.str (Str.ofString "a"),D.int 7,D.tup [D.tup [D.int 0,D.int 5],D.tup [D.int 10,D.int 0],D.tup [D.int 11,D.int 9],D.tup [D.int 600,D.int 4]]],D.tup [D.str (Str.ofString "ab"),D.int 0,D.tup [D.tup [D.int 0,D.int 1]]]] = eMenu Mc:=rfl
 obtain ⟨M,hM⟩ : ∃ M,M = eMenu Mc:=⟨_,rfl⟩
 rw [← hM] at PA PB MA MB lit
 have c1 : ∀ S,compL (kTup 2 (kCons (kName 2) (kCons (kName 3) kNil))) tYesV (vCallA 3 0 [.int 0] [.pos 0,.pos 1,.pos 2] F_price (vCons (vVar 0) (vCons (vC (.str (Str.ofString "a"))) (vCons (vVar 2) vNil))) vNil) [some M,some (.lst (Rc.map ePr)),none,none] [] (Rc.map ePr) S = .ok (Rc.map fun p=>.int p.2) S:=fun S=>by
   obtain ⟨X,hX⟩ : ∃ X,X = some (D.lst (Rc.map ePr)):=⟨_,rfl⟩
   rw [← hX]
   refine comp_all ePr (fun p=>.int p.2) ok_nil Rc fun p hp=>⟨_,by simp [ePr]; rfl,rfl,?_⟩
   have:=PA p hp S
   simp -implicitDefEqProofs [this]
 have c2 : ∀ S,compL (kTup 2 (kCons (kName 2) (kCons (kName 3) kNil))) tYesV (vVar 3) [some M,some (.lst (Rc.map ePr)),none,none] [] (Rc.map ePr) S = .ok (Rc.map fun p=>.int p.2) S:=fun S=>by
   obtain ⟨X,hX⟩ : ∃ X,X = some (D.lst (Rc.map ePr)):=⟨_,rfl⟩
   rw [← hX]
   exact comp_all ePr (fun p=>.int p.2) ok_nil Rc fun p hp=>⟨_,by simp [ePr]; rfl,rfl,rfl⟩
 have RL : Rz 22 2 (.lst (Rc.map fun p=>.int p.2)):=by
   refine (rz_lst (rzs_mapN (N:=7) (c:=3) (k:=1) (fun p : Int × Int=>D.int p.2) (fun p hp=>?_) (by decide))).mono (by omega) (by omega)
   refine (rz_i ?_ ?_).mono (by omega) (Nat.le_refl 1)
   · revert p; decide
   · revert p; decide
 have EQ : ∀ S,eqD true (.lst (Rc.map fun p=>.int p.2)) (.lst (Rc.map fun p=>.int p.2)) S = .ok (.bl false) S:=fun S=>by
   rw [eq_rz5 RL RL (by omega) (by omega)]
   rfl
 have l1 : (Rc.map ePr).length ≤ 16000000:=by decide
 have l2 : (Rc.map fun p=>D.int p.2).length ≤ 16000000:=by decide
 have rlit : D.lst [D.tup [D.int 0,D.int 5],D.tup [D.int 9,D.int 5],D.tup [D.int 10,D.int 0],D.tup [D.int 11,D.int 9],D.tup [D.int 599,D.int 9],D.tup [D.int 600,D.int 4],D.tup [D.int 99999,D.int 4]] = .lst (Rc.map ePr):=rfl
 obtain ⟨RD,hRD⟩ : ∃ RD,RD = Rc.map ePr:=⟨_,rfl⟩
 obtain ⟨PD,hPD⟩ : ∃ PD,PD = Rc.map fun p=>D.int p.2:=⟨_,rfl⟩
 rw [← hRD] at c1 c2 l1 rlit
 rw [← hPD] at c1 c2 l2 EQ
 refine eq_of_wp ?_
 unfold F__law_by_hand_ec0d
 rw [E5]; simp only [List.map_cons,List.map_nil,List.length_cons,List.length_nil,Nat.reduceAdd,Nat.reduceSub,List.replicate_succ,List.replicate_zero,List.cons_append,List.nil_append]
 unfold B__law_by_hand_ec0d
 try simp -dsimp -implicitDefEqProofs [-ixD,-Int.toNat_natCast,↓A1,↓A8,↓B1,↓A7,↓C6,↓C7,↓D6,↓F0,↓E3,↓C8,↓C9,↓F3,↓F1,↓E6,↓F6,↓E9,↓E8,↓D9,↓E7,↓E4,↓F4,↓F5,↓B5,↓B4,↓C2,↓B6,↓C0,↓C1,↓A6,↓B9,↓A9,↓C3,↓A0,↓B7,↓B8,↓C5,↓C4,↓E5,mk,F7,F8,F9,G0,G5,G6,G7,G8,G9,H6,H7,H8,H9,I6,I7,I8,I9,J0,J1,J3,J4,J5,-eqD]
 have rl2 : [D.tup [D.int 0,D.int 5],D.tup [D.int 9,D.int 5],D.tup [D.int 10,D.int 0],D.tup [D.int 11,D.int 9],D.tup [D.int 599,D.int 9],D.tup [D.int 600,D.int 4],D.tup [D.int 99999,D.int 4]] = RD:=by
   rw [hRD]
   rfl
 rw [lit,rlit,rl2]
 refine wp_of (c1 _) ?_
 try simp -dsimp -implicitDefEqProofs [-ixD,-Int.toNat_natCast,↓A1,↓A8,↓B1,↓A7,↓C6,↓C7,↓D6,↓F0,↓E3,↓C8,↓C9,↓F3,↓F1,↓E6,↓F6,↓E9,↓E8,↓D9,↓E7,↓E4,↓F4,↓F5,↓B5,↓B4,↓C2,↓B6,↓C0,↓C1,↓A6,↓B9,↓A9,↓C3,↓A0,↓B7,↓B8,↓C5,↓C4,↓E5,mk,F7,F8,F9,G0,G5,G6,G7,G8,G9,H6,H7,H8,H9,I6,I7,I8,I9,J0,J1,J3,J4,J5,l1,l2]
 try simp only [List.set_cons_succ,List.set_cons_zero]
 refine wp_of (c2 _) ?_
 try simp -dsimp -implicitDefEqProofs [-ixD,-Int.toNat_natCast,↓A1,↓A8,↓B1,↓A7,↓C6,↓C7,↓D6,↓F0,↓E3,↓C8,↓C9,↓F3,↓F1,↓E6,↓F6,↓E9,↓E8,↓D9,↓E7,↓E4,↓F4,↓F5,↓B5,↓B4,↓C2,↓B6,↓C0,↓C1,↓A6,↓B9,↓A9,↓C3,↓A0,↓B7,↓B8,↓C5,↓C4,↓E5,mk,F7,F8,F9,G0,G5,G6,G7,G8,G9,H6,H7,H8,H9,I6,I7,I8,I9,J0,J1,J3,J4,J5,l2,EQ,PB,MA,MB]
 all_goals try exact ⟨rfl,rfl⟩
section
variable {m : Menu}
theorem f_right4 (h : Mm m) {ms : List Int} (hms : ∀ x ∈ ms,0 ≤ x ∧ x ≤ 99999) (hl : ms.length ≤ 60) (st : AS) : F__law_right_515c [eMenu m,.lst (ms.map D.int)] st = .ok (.bl true) st:=by
 have m12:=h.m12
 have hw : ∀ r ∈ m,wordS r.1 = true:=fun r hr=>(h.row r hr).w
 obtain ⟨r0,mt,em⟩ : ∃ r0 mt,m = r0 :: mt:=by
   cases e : m with
   | nil=>exact absurd e h.m0
   | cons a b=>exact ⟨a,b,rfl⟩
 have GR:=fun S=>f_grown4 S em hw
 have MO:=fun r (hr : r ∈ m) (S : AS)=>f_minutes_of (look_row h.nd hr) S
 have PX : ∀ r ∈ m,∀ x : Int,0 ≤ x → ∃ p : Int,(0 ≤ p ∧ p ≤ 100000) ∧ (∀ S,F_price [eMenu m,.str r.1,.int x] S = .ok (.int p) S) ∧ ∀ S,F__law_pays [eMenu m,.str r.1,.int x] S = .ok (.int p) S:=fun r hr x h0=>by
   have lk:=look_row h.nd hr
   obtain ⟨p,hp⟩:=h.mo.okm.last lk h0
   have k:=h.row r hr
   have l1:=k.l1
   refine ⟨p,?_,fun S=>f_price m r.1 x S lk hp (by omega),fun S=>f_lpays m r.1 x S (by omega) lk hp (by omega)⟩
   obtain ⟨b2,pk⟩:=k.p
   have:=List.mem_of_getLast? hp
   obtain ⟨q,hq,rfl⟩:=List.mem_map.mp this
   have:=pk.mem q (List.mem_filter.mp hq).1
   omega
 have TN:=fun (t : D) (S : AS) (hn : ∀ r ∈ m,∀ S,eqD false (.str r.1) t S = .ok (.bl false) S)=>told_no (f_price_no (m:=m) t 5 S fun r hr=>hn r hr S)
 have TM:=fun (t : D) (S : AS) (hn : ∀ r ∈ m,∀ S,eqD false (.str r.1) t S = .ok (.bl false) S)=>told_no (f_minutes_no (m:=m) t S fun r hr=>hn r hr S)
 obtain ⟨ws,hws⟩ : ∃ ws,ws = m.map (·.1):=⟨_,rfl⟩
 have wsw : ∀ w ∈ ws,wordS w = true:=fun w hw2=>by
   rw [hws] at hw2
   obtain ⟨r,hr,rfl⟩:=List.mem_map.mp hw2
   exact hw r hr
 have wsl : ws.length ≤ 12:=by rw [hws,List.length_map]; exact m12
 have ws0 : 0 < ws.length:=by rw [hws,em]; simp
 obtain ⟨WD,hWD⟩ : ∃ WD,WD = ws.map D.str:=⟨_,rfl⟩
 have eWD : WD = (m.map (·.1)).map D.str:=by rw [hWD,hws]
 obtain ⟨MD,hMD⟩ : ∃ MD,MD = m.map eRow:=⟨_,rfl⟩
 have eM : eMenu m = .tup MD:=by rw [hMD]; rfl
 have rR : Rz 400 5 (eRow r0):=by
   have k:=h.row r0 (by rw [em]; exact List.mem_cons_self)
   obtain ⟨b,pk⟩:=k.p
   have m0:=k.m0
   have m1:=k.m1
   have bl:=pk.bl
   have l1:=k.l1
   have p : Rz 13 2 (.tup (r0.2.2.map ePr)):=rz_tup (rzs_mapN (N:=4) (c:=3) (k:=1) ePr (fun q hq=>by
     have:=pk.mem q hq
     exact rz_tup (rzs_cons (rz_i (by omega) (by omega)) (rzs_cons (rz_i (by omega) (by omega)) rzs_nil))) k.l1)
   exact (rz_tup (rzs_cons (rz_word k.w) (rzs_cons (rz_i (by omega) (by omega)) (rzs_cons p rzs_nil)))).mono (by omega) (by omega)
 have TR : Th4 m WD (eRow r0):=th_else h eWD rR fun s=>rfl
 have ir : ∀ S,ixD (.tup MD) (.int 0) S = .ok (eRow r0) S:=fun S=>by
   rw [hMD,em,List.map_cons]
   generalize mt.map eRow = MR
   simp [L2.atI,L2.ixN]
 simp only [eM] at GR MO PX TN TM
 rw [eM]
 have MDl : MD.length ≤ 16000000:=by rw [hMD,List.length_map]; omega
 have cw : ∀ (a1 a7 a8 : Option D) S,compL (kName 9) tYesV (v2 ixD (vVar 9) (vC (.int 0))) [some (.tup MD),a1,none,none,none,none,none,a7,a8,none] [] MD S = .ok WD S:=fun a1 a7 a8 S=>by
   rw [hMD,eWD,List.map_map]
   obtain ⟨X,hX⟩ : ∃ X,X = some (D.tup (m.map eRow)):=⟨_,rfl⟩
   rw [← hX]
   refine comp_all eRow (D.str ∘ (·.1)) ok_nil m fun r _=>⟨_,rfl,rfl,?_⟩
   show (ixD (.tup [.str r.1,.int r.2.1,.tup (r.2.2.map ePr)]) (.int 0) S) = _
   generalize r.2.2.map ePr = P at *
   simp [L2.atI,L2.ixN]
 have wdl : WD.length ≤ 16000000:=by rw [hWD,List.length_map]; omega
 obtain ⟨MI,hMI⟩ : ∃ MI,MI = ms.map D.int:=⟨_,rfl⟩
 rw [← hMI]
 refine eq_of_wp ?_
 unfold F__law_right_515c
 rw [E5]; simp only [List.map_cons,List.map_nil,List.length_cons,List.length_nil,Nat.reduceAdd,Nat.reduceSub,List.replicate_succ,List.replicate_zero,List.cons_append,List.nil_append]
 unfold B__law_right_515c
 try simp -dsimp -implicitDefEqProofs [-ixD,-Int.toNat_natCast,↓A1,↓A8,↓B1,↓A7,↓C6,↓C7,↓D6,↓F0,↓E3,↓C8,↓C9,↓F3,↓F1,↓E6,↓F6,↓E9,↓E8,↓D9,↓E7,↓E4,↓F4,↓F5,↓B5,↓B4,↓C2,↓B6,↓C0,↓C1,↓A6,↓B9,↓A9,↓C3,↓A0,↓B7,↓B8,↓C5,↓C4,↓E5,mk,F7,F8,F9,G0,G5,G6,G7,G8,G9,H6,H7,H8,H9,I6,I7,I8,I9,J0,J1,J3,J4,J5]
 refine wp_for0 (fun ds env S=>Hold (∃ (rest : Menu),ds = rest.map eRow ∧ (∀ r ∈ rest,r ∈ m) ∧ env = [some (.tup MD),some (.lst MI),none,none,none,none,none,none,none,none] ∧ S = st)) ?_ ?_ ?_
 · exact ⟨m,hMD,fun r hr=>hr,rfl,rfl⟩
 · rintro dd ds env S ⟨rest,q1,q2,q3,q4⟩
   subst q3
   subst q4
   cases rest with
   | nil=>cases q1
   | cons r rest =>
     injection q1 with q1 q8
     have q1 : dd = .tup [.str r.1,.int r.2.1,.tup (r.2.2.map ePr)]:=q1
     subst q1
     subst q8
     have hr:=q2 r List.mem_cons_self
     have mo:=MO r hr
     have k:=h.row r hr
     have m0:=k.m0
     have m1:=k.m1
     have RZ:=fun S=>repr_rz (st:=S) (rz_i (k:=0) (i:=r.2.1) (by omega) (by omega)) (by omega) (by omega)
     obtain ⟨PD,hPD⟩ : ∃ PD,PD = D.tup (r.2.2.map ePr):=⟨_,rfl⟩
     rw [← hPD]
     generalize txt (D.int r.2.1).py = t3 at *
     try simp -dsimp -implicitDefEqProofs [-ixD,-Int.toNat_natCast,↓A1,↓A8,↓B1,↓A7,↓C6,↓C7,↓D6,↓F0,↓E3,↓C8,↓C9,↓F3,↓F1,↓E6,↓F6,↓E9,↓E8,↓D9,↓E7,↓E4,↓F4,↓F5,↓B5,↓B4,↓C2,↓B6,↓C0,↓C1,↓A6,↓B9,↓A9,↓C3,↓A0,↓B7,↓B8,↓C5,↓C4,↓E5,mk,F7,F8,F9,G0,G5,G6,G7,G8,G9,H6,H7,H8,H9,I6,I7,I8,I9,J0,J1,J3,J4,J5,mo,-reprD,RZ]
     try simp only [List.set_cons_succ,List.set_cons_zero]
     refine wp_for0 (fun ds env S'=>Hold (∃ (xs : List Int),ds = xs.map D.int ∧ (∀ x ∈ xs,x ∈ ms) ∧ env = [some (.tup MD),some (.lst MI),some (.str r.1),some (.int r.2.1),some PD,none,none,none,none,none] ∧ S' = S)) ?_ ?_ ?_
     · exact ⟨ms,hMI,fun x hx=>hx,rfl,rfl⟩
     · rintro dd ds2 env S' ⟨xs,k1,k0,k2,k3⟩
       subst k2
       subst k3
       cases xs with
       | nil=>cases k1
       | cons x xs =>
         injection k1 with k1 k8
         subst k1
         subst k8
         have hx:=hms x (k0 x List.mem_cons_self)
         obtain ⟨p,pb,p1,p2⟩:=PX r hr x hx.1
         have RP:=fun S=>repr_rz (st:=S) (rz_i (k:=0) (i:=p) (by omega) (by omega)) (by omega) (by omega)
         have fin : Hold (∃ (xs' : List Int),xs.map D.int = xs'.map D.int ∧ (∀ x ∈ xs',x ∈ ms) ∧ ([some (.tup MD),some (.lst MI),some (.str r.1),some (.int r.2.1),some PD,none,none,none,none,none] : En) = [some (.tup MD),some (.lst MI),some (.str r.1),some (.int r.2.1),some PD,none,none,none,none,none] ∧ S' = S'):=⟨xs,rfl,fun y hy=>k0 y (List.mem_cons_of_mem _ hy),rfl,rfl⟩
         generalize txt (D.int p).py = t4 at *
         try simp -dsimp -implicitDefEqProofs [-ixD,-Int.toNat_natCast,↓A1,↓A8,↓B1,↓A7,↓C6,↓C7,↓D6,↓F0,↓E3,↓C8,↓C9,↓F3,↓F1,↓E6,↓F6,↓E9,↓E8,↓D9,↓E7,↓E4,↓F4,↓F5,↓B5,↓B4,↓C2,↓B6,↓C0,↓C1,↓A6,↓B9,↓A9,↓C3,↓A0,↓B7,↓B8,↓C5,↓C4,↓E5,mk,F7,F8,F9,G0,G5,G6,G7,G8,G9,H6,H7,H8,H9,I6,I7,I8,I9,J0,J1,J3,J4,J5,p1,p2,-reprD,RP]
         all_goals try dsimp only [killE,List.set_cons_succ,List.set_cons_zero]
         all_goals first | exact fin | exact ⟨xs,rfl,fun y hy=>k0 y (List.mem_cons_of_mem _ hy)⟩
     · rintro env S' ⟨xs,k1,k0,k2,k3⟩
       subst k2
       subst k3
       all_goals try dsimp only [killE,List.set_cons_succ,List.set_cons_zero]
       exact ⟨rest,rfl,fun y hy=>q2 y (List.mem_cons_of_mem _ hy),rfl,rfl⟩
 rintro env S' ⟨rest,q1,q2,q3,q4⟩
 subst q3
 subst q4
 try simp -dsimp -implicitDefEqProofs [-ixD,-Int.toNat_natCast,↓A1,↓A8,↓B1,↓A7,↓C6,↓C7,↓D6,↓F0,↓E3,↓C8,↓C9,↓F3,↓F1,↓E6,↓F6,↓E9,↓E8,↓D9,↓E7,↓E4,↓F4,↓F5,↓B5,↓B4,↓C2,↓B6,↓C0,↓C1,↓A6,↓B9,↓A9,↓C3,↓A0,↓B7,↓B8,↓C5,↓C4,↓E5,mk,F7,F8,F9,G0,G5,G6,G7,G8,G9,H6,H7,H8,H9,I6,I7,I8,I9,J0,J1,J3,J4,J5,MDl]
 refine wp_of (cw _ _ _ _) ?_
 obtain ⟨w0,wt,ew⟩ : ∃ w0 wt,ws = w0 :: wt:=by
   cases e : ws with
   | nil=>rw [e] at ws0; cases ws0
   | cons a b=>exact ⟨a,b,rfl⟩
 obtain ⟨wl,hwl,hwlm⟩ : ∃ wl,ws.getLast? = some wl ∧ wl ∈ ws:=by
   have hn : ws ≠ []:=fun e=>by rw [e] at ws0; cases ws0
   exact ⟨_,List.getLast?_eq_some_getLast hn,List.getLast_mem hn⟩
 have w0w:=wsw w0 (by rw [ew]; exact List.mem_cons_self)
 have i0 : ∀ S,ixD (.lst WD) (.int 0) S = .ok (.str w0) S:=fun S=>by
   rw [hWD,ew,List.map_cons]
   generalize wt.map D.str = T
   simp [L2.atI,L2.ixN]
 have WDn : WD ≠ []:=fun e=>by
   have:=congrArg List.length e
   rw [hWD,List.length_map] at this
   rw [this] at ws0
   cases ws0
 have il : ∀ S,ixD (.lst WD) (.int (-1)) S = .ok (.str wl) S:=fun S=>by
   have ha:=atI_last WDn
   rw [hWD,List.getLast?_map,hwl,← hWD] at ha
   simp [ha]
 have ng : ∀ S,negD (.int 1) S = .ok (.int (-1)) S:=fun _=>rfl
 obtain ⟨wx,hwx,wxa⟩ : ∃ wx : Str,wx = w0 ++ Str.ofString "a" ∧ asc wx ∧ wx.length ≤ 20:=by
   obtain ⟨cs,e,wd⟩:=word_mk w0w
   have a:=word_asc w0w
   have l8 : w0.length ≤ 8:=by
     have w2:=w0w
     unfold wordS at w2
     simp only [Bool.and_eq_true,decide_eq_true_eq] at w2
     omega
   subst e
   rw [mkS_len] at a l8
   rw [ofs_a,mkS_app]
   refine ⟨_,rfl,?_,by rw [mkS_len,List.length_append,List.length_singleton]; omega⟩
   have a1:=a.1
   unfold asc at a1 ⊢
   rw [mkS_cps] at a1 ⊢
   intro c hc
   rcases List.mem_append.mp hc with k | k
   · exact a1 c k
   · rw [List.mem_singleton.mp k]; omega
 have AE : ∀ S,addD false (.str w0) (.str (Str.ofString "a")) S = .ok (.str wx) S:=fun S=>by
   have l1 : w0.length + (Str.ofString "a").length ≤ 16000000:=by
     have:=(word_asc w0w).2
     have e : (Str.ofString "a").length = 1:=by decide +kernel
     omega
   rw [hwx]
   simp [F7 l1]
 obtain ⟨wy,hwy,wya⟩ : ∃ wy : Str,cutS wl none (some (-1)) = wy ∧ asc wy ∧ wy.length ≤ 20:=by
   obtain ⟨cs,e,wd⟩:=word_mk (wsw wl hwlm)
   have a:=word_asc (wsw wl hwlm)
   subst e
   rw [mkS_len] at a
   refine ⟨_,rfl,?_,?_⟩
   · unfold cutS
     rw [mkS_cps]
     have a1:=a.1
     unfold asc at a1 ⊢
     rw [mkS_cps] at a1
     intro c hc
     exact a1 c (by
       have hc2 : c ∈ (mkS (List.take _ (List.drop _ cs))).cps.toList:=hc
       rw [mkS_cps] at hc2
       exact List.mem_of_mem_drop (List.mem_of_mem_take hc2))
   · unfold cutS
     rw [mkS_cps]
     show (mkS (List.take _ (List.drop _ cs))).length ≤ 20
     rw [mkS_len,List.length_take,List.length_drop]
     omega
 have wll : wl.length ≤ 16000000:=by have:=(word_asc (wsw wl hwlm)).2; omega
 try simp -dsimp -implicitDefEqProofs [-ixD,-Int.toNat_natCast,↓A1,↓A8,↓B1,↓A7,↓C6,↓C7,↓D6,↓F0,↓E3,↓C8,↓C9,↓F3,↓F1,↓E6,↓F6,↓E9,↓E8,↓D9,↓E7,↓E4,↓F4,↓F5,↓B5,↓B4,↓C2,↓B6,↓C0,↓C1,↓A6,↓B9,↓A9,↓C3,↓A0,↓B7,↓B8,↓C5,↓C4,↓E5,mk,F7,F8,F9,G0,G5,G6,G7,G8,G9,H6,H7,H8,H9,I6,I7,I8,I9,J0,J1,J3,J4,J5,wdl,-ixD,i0,-negD,ng,il,-addD,AE,ir,wll,hwy]
 try simp only [List.set_cons_succ,List.set_cons_zero]
 obtain ⟨TL,hTL⟩ : ∃ TL : List D,TL = [.str (Str.ofString ""),.str (Str.ofString "A"),.non,.bl true,.int 0,.tup [],.lst [],.tup [.str (Str.ofString "a")],.lst [.str w0],.tup [.str w0],eRow r0,.str wx,.str wy]:=⟨_,rfl⟩
 have TH : ∀ t ∈ TL,Th4 m WD t:=fun t k=>by
   rw [hTL] at k
   simp only [List.mem_cons,List.not_mem_nil,or_false] at k
   rcases k with rfl | rfl | rfl | rfl | rfl | rfl | rfl | rfl | rfl | rfl | rfl | rfl | rfl
   · exact th_str eWD ⟨by unfold asc; decide,by decide⟩
   · exact th_str eWD ⟨by unfold asc; decide,by decide⟩
   · exact th_else h eWD ((rz_non (k:=5)).mono (by omega) (Nat.le_refl 5)) fun s=>rfl
   · exact th_else h eWD ((rz_bl (k:=5)).mono (by omega) (Nat.le_refl 5)) fun s=>rfl
   · exact th_else h eWD ((rz_i (k:=5) (by omega) (by omega)).mono (by omega) (Nat.le_refl 5)) fun s=>rfl
   · exact th_else h eWD ((rz_tup (n:=0) (k:=4) rzs_nil).mono (by omega) (Nat.le_refl 5)) fun s=>rfl
   · exact th_else h eWD ((rz_lst (n:=0) (k:=4) rzs_nil).mono (by omega) (Nat.le_refl 5)) fun s=>rfl
   · exact th_else h eWD ((rz_tup (k:=4) (rzs_cons (rz_str (x:=Str.ofString "a") ⟨by unfold asc; decide,by decide⟩) rzs_nil)).mono (by omega) (Nat.le_refl 5)) fun s=>rfl
   · exact th_else h eWD ((rz_lst (k:=4) (rzs_cons (rz_word w0w) rzs_nil)).mono (by omega) (Nat.le_refl 5)) fun s=>rfl
   · exact th_else h eWD ((rz_tup (k:=4) (rzs_cons (rz_word w0w) rzs_nil)).mono (by omega) (Nat.le_refl 5)) fun s=>rfl
   · exact TR
   · exact th_str eWD wxa
   · exact th_str eWD wya
 rw [← hTL]
 refine wp_for0 (fun ds env S=>Hold ((∀ t ∈ ds,Th4 m WD t) ∧ env = [some (.tup MD),some (.lst MI),none,none,none,none,some (.lst WD),some (.lst TL),none,none] ∧ S = S')) ?_ ?_ ?_
 · exact ⟨TH,rfl,rfl⟩
 · rintro dd ds env S ⟨k1,k2,k3⟩
   subst k2
   subst k3
   obtain ⟨rz,b,inb,hb⟩:=k1 dd List.mem_cons_self
   have fin : Hold ((∀ t ∈ ds,Th4 m WD t) ∧ ([some (.tup MD),some (.lst MI),none,none,none,none,some (.lst WD),some (.lst TL),none,none] : En) = [some (.tup MD),some (.lst MI),none,none,none,none,some (.lst WD),some (.lst TL),none,none] ∧ S = S):=⟨fun t ht=>k1 t (List.mem_cons_of_mem _ ht),rfl,rfl⟩
   cases b with
   | false =>
     try simp -dsimp -implicitDefEqProofs [-ixD,-Int.toNat_natCast,↓A1,↓A8,↓B1,↓A7,↓C6,↓C7,↓D6,↓F0,↓E3,↓C8,↓C9,↓F3,↓F1,↓E6,↓F6,↓E9,↓E8,↓D9,↓E7,↓E4,↓F4,↓F5,↓B5,↓B4,↓C2,↓B6,↓C0,↓C1,↓A6,↓B9,↓A9,↓C3,↓A0,↓B7,↓B8,↓C5,↓C4,↓E5,mk,F7,F8,F9,G0,G5,G6,G7,G8,G9,H6,H7,H8,H9,I6,I7,I8,I9,J0,J1,J3,J4,J5,inb]
     all_goals try dsimp only [killE,List.set_cons_succ,List.set_cons_zero]
     all_goals first | exact fin | exact fun t ht=>k1 t (List.mem_cons_of_mem _ ht)
   | true =>
     have SA:=fun S=>TN dd S (hb rfl)
     have SB:=fun S=>TM dd S (hb rfl)
     have RQ:=rz_tup (rzs_cons (rz_str (x:=Str.ofString "no") ⟨by unfold asc; decide,by decide⟩) (rzs_cons rz rzs_nil))
     have RD:=fun S=>repr_rz (st:=S) RQ (by omega) (by omega)
     clear RQ
     generalize txt (D.tup [.str (Str.ofString "no"),dd]).py = t3 at *
     try simp -dsimp -implicitDefEqProofs [-ixD,-Int.toNat_natCast,↓A1,↓A8,↓B1,↓A7,↓C6,↓C7,↓D6,↓F0,↓E3,↓C8,↓C9,↓F3,↓F1,↓E6,↓F6,↓E9,↓E8,↓D9,↓E7,↓E4,↓F4,↓F5,↓B5,↓B4,↓C2,↓B6,↓C0,↓C1,↓A6,↓B9,↓A9,↓C3,↓A0,↓B7,↓B8,↓C5,↓C4,↓E5,mk,F7,F8,F9,G0,G5,G6,G7,G8,G9,H6,H7,H8,H9,I6,I7,I8,I9,J0,J1,J3,J4,J5,inb,SA,SB,-reprD,RD]
     all_goals try dsimp only [killE,List.set_cons_succ,List.set_cons_zero]
     all_goals first | exact fin | exact fun t ht=>k1 t (List.mem_cons_of_mem _ ht)
 · rintro env S ⟨k1,k2,k3⟩
   subst k2
   subst k3
   have G1:=fun S=>(GR S).1
   have G2:=fun S=>(GR S).2
   try simp -dsimp -implicitDefEqProofs [-ixD,-Int.toNat_natCast,↓A1,↓A8,↓B1,↓A7,↓C6,↓C7,↓D6,↓F0,↓E3,↓C8,↓C9,↓F3,↓F1,↓E6,↓F6,↓E9,↓E8,↓D9,↓E7,↓E4,↓F4,↓F5,↓B5,↓B4,↓C2,↓B6,↓C0,↓C1,↓A6,↓B9,↓A9,↓C3,↓A0,↓B7,↓B8,↓C5,↓C4,↓E5,mk,F7,F8,F9,G0,G5,G6,G7,G8,G9,H6,H7,H8,H9,I6,I7,I8,I9,J0,J1,J3,J4,J5,G1,G2]
   all_goals try exact ⟨rfl,rfl⟩
end
end V04
namespace V04
open PySem VL G Kd W9 W26 WG TB V05
theorem f_feed4 (ns : List Int) (h : ns.length ≤ 63) : F__law_feed_6a37 [.fzl (ns.map D.int)] [] = .ok (.ref 0) [feedC ns 0 0 0]:=by
 have ct : VL.cut (ns.map D.int) none (some 63) = ns.map D.int:=by
   rw [cut_to _ 63 (by decide)]
   exact List.take_of_length_le (by simpa using h)
 have z4 : (4 : Nat) ≤ sizeLine:=by rw [sizeLine_eq]; omega
 have rt : VL.ret 0 [] (.ref 0) [feedC ns 0 0 0] = .ok (.ref 0) [feedC ns 0 0 0]:=by
   unfold VL.ret
   rw [if_neg (by simp),if_neg (fun z=>by
     have w : (D.ref 0).low 0 = true:=z.1
     simp [D.low] at w)]
 simp -implicitDefEqProofs [F__law_feed_6a37,B__law_feed_6a37,mk,ct,z4]
 exact rt
theorem cellX {st X : AS} {c : C} (ln : st.length = 1) : (st ++ (X ++ [c]))[1 + X.length]? = some c:=by
 rw [← List.append_assoc,List.getElem?_append_right (by rw [List.length_append,ln]; omega),List.length_append,ln]
 simp
theorem setX {st X : AS} {c c' : C} (ln : st.length = 1) : (st ++ (X ++ [c])).set (1 + X.length) c' = st ++ (X ++ [c']):=by
 rw [← List.append_assoc,List.set_append_right _ _ (by rw [List.length_append,ln]; omega),List.length_append,ln]
 simp
theorem ext_atX {st X : AS} {ns : List Int} (ms : List Int) (ln : st.length = 1) (l : ns.length + ms.length ≤ 1000) : extD (.ref (1 + X.length)) [.lst (ms.map D.int)] (st ++ (X ++ [C.lst (ns.map D.int)])) = .ok .non (st ++ (X ++ [C.lst ((ns ++ ms).map D.int)])):=by
 have g1:=cellX (X:=X) (c:=C.lst (ns.map D.int)) ln
 have g2:=fun c'=>setX (X:=X) (c:=C.lst (ns.map D.int)) (c':=c') ln
 have ll : (ns.map D.int).length + (ms.map D.int).length ≤ 16000000:=by rw [List.length_map,List.length_map]; omega
 rw [List.map_append]
 generalize ns.map D.int = N at *
 generalize ms.map D.int = M at *
 generalize 1 + X.length = L at *
 simp [g1,g2,F7 ll]
theorem law_wp4 (ns : List Int) (hl : ns.length ≤ 63) : (F_law_4787 [.fzl (ns.map D.int)] []).wp (fun d _=>d = .bl true) noX:=by
 have e0:=f_feed4 ns hl
 have f : Fz ns 0 [feedC ns 0 0 0]:=⟨rfl,⟨0,0,0,rfl,by omega,by omega,by omega⟩⟩
 unfold F_law_4787
 rw [E5]; simp only [List.map_cons,List.map_nil,List.length_cons,List.length_nil,Nat.reduceAdd,Nat.reduceSub,List.replicate_succ,List.replicate_zero,List.cons_append,List.nil_append]
 unfold B_law_4787
 have r3 : ∀ S,rng1 [.int 3] S = .ok ([.int 0,.int 1,.int 2],[]) S:=fun S=>rng1_ok (j:=3) (by omega) (by omega)
 try simp -dsimp -implicitDefEqProofs [-ixD,-Int.toNat_natCast,↓A1,↓A8,↓B1,↓A7,↓C6,↓C7,↓D6,↓F0,↓E3,↓C8,↓C9,↓F3,↓F1,↓E6,↓F6,↓E9,↓E8,↓D9,↓E7,↓E4,↓F4,↓F5,↓B5,↓B4,↓C2,↓B6,↓C0,↓C1,↓A6,↓B9,↓A9,↓C3,↓A0,↓B7,↓B8,↓C5,↓C4,↓E5,mk,F7,F8,F9,G0,G5,G6,G7,G8,G9,H6,H7,H8,H9,I6,I7,I8,I9,J0,J1,J3,J4,J5,e0,r3]
 try simp only [List.set_cons_succ,List.set_cons_zero]
 refine wp_for0 (fun ds env S=>Hold (∃ (n : Nat) (st X : AS),n + 2000 * ds.length ≤ 10000 ∧ Fz ns n st ∧ S = st ++ X ∧ env = [some (.fzl (ns.map D.int)),some (.ref 0),none,none,none,none,none,none,none,none,none])) ?_ ?_ ?_
 · exact ⟨0,_,[],by simp,f,by simp,rfl⟩
 · clear f
   rintro dd ds env S ⟨n,st,X,q1,f,q2,q3⟩
   subst q2
   subst q3
   rw [List.length_cons] at q1
   try simp -dsimp -implicitDefEqProofs [-ixD,-Int.toNat_natCast,↓A1,↓A8,↓B1,↓A7,↓C6,↓C7,↓D6,↓F0,↓E3,↓C8,↓C9,↓F3,↓F1,↓E6,↓F6,↓E9,↓E8,↓D9,↓E7,↓E4,↓F4,↓F5,↓B5,↓B4,↓C2,↓B6,↓C0,↓C1,↓A6,↓B9,↓A9,↓C3,↓A0,↓B7,↓B8,↓C5,↓C4,↓E5,mk,F7,F8,F9,G0,G5,G6,G7,G8,G9,H6,H7,H8,H9,I6,I7,I8,I9,J0,J1,J3,J4,J5]
   refine wp_dz f (by omega) (by omega) (by omega) ?_
   intro r1 st z1 y1 ln f
   obtain ⟨m,S2,em,ml,mo,dr⟩:=f_menu (k:=1 + r1) (fz_app f X) (by omega) (by omega) (by omega)
   rw [← mn5] at em
   obtain ⟨st2,rfl,f2⟩:=fz_split f dr
   have M : Mm m:=⟨fun e=>by rw [e] at ml; simp at ml; omega,by omega,mo.row,ris_nodup mo.ris⟩
   have RZ:=fun S=>repr_rz (st:=S) M.mo.rzm (by omega) (by omega)
   have AD : ∀ (x : Int) S,addD false (.int 1) (.int x) S = .ok (.int (1 + x)) S:=fun x S=>by simp
   have RI:=fun (ms : List Int) (h1 : ∀ x ∈ ms,0 ≤ x ∧ x ≤ 99999) (h2 : ms.length ≤ 60) (S : AS)=>f_right4 M h1 h2 S
   have eM : eMenu m = .tup (m.map eRow):=rfl
   obtain ⟨MD,hMD⟩ : ∃ MD,MD = m.map eRow:=⟨_,rfl⟩
   rw [eM,← hMD] at em RZ
   simp only [eM,← hMD] at RI
   generalize txt (D.tup MD).py = t1 at *
   try simp -dsimp -implicitDefEqProofs [-ixD,-Int.toNat_natCast,↓A1,↓A8,↓B1,↓A7,↓C6,↓C7,↓D6,↓F0,↓E3,↓C8,↓C9,↓F3,↓F1,↓E6,↓F6,↓E9,↓E8,↓D9,↓E7,↓E4,↓F4,↓F5,↓B5,↓B4,↓C2,↓B6,↓C0,↓C1,↓A6,↓B9,↓A9,↓C3,↓A0,↓B7,↓B8,↓C5,↓C4,↓E5,mk,F7,F8,F9,G0,G5,G6,G7,G8,G9,H6,H7,H8,H9,I6,I7,I8,I9,J0,J1,J3,J4,J5,-addD,AD,em]
   try simp only [List.set_cons_succ,List.set_cons_zero]
   refine wp_dz f2 (by omega) (by omega) (by omega) ?_
   intro r2 st z2 y2 ln f
   try simp -dsimp -implicitDefEqProofs [-ixD,-Int.toNat_natCast,↓A1,↓A8,↓B1,↓A7,↓C6,↓C7,↓D6,↓F0,↓E3,↓C8,↓C9,↓F3,↓F1,↓E6,↓F6,↓E9,↓E8,↓D9,↓E7,↓E4,↓F4,↓F5,↓B5,↓B4,↓C2,↓B6,↓C0,↓C1,↓A6,↓B9,↓A9,↓C3,↓A0,↓B7,↓B8,↓C5,↓C4,↓E5,mk,F7,F8,F9,G0,G5,G6,G7,G8,G9,H6,H7,H8,H9,I6,I7,I8,I9,J0,J1,J3,J4,J5]
   try simp only [List.set_cons_succ,List.set_cons_zero]
   rw [ln]
   have mx : ∀ (x : Int) S,maxD [.int 0,.int x] S = .ok (.int (max 0 x)) S:=fun x S=>by simp
   have sb : ∀ (x : Int) S,subD (.int x) (.int 1) S = .ok (.int (x - 1)) S:=fun x S=>by simp
   have ad : ∀ (x : Int) S,addD false (.int x) (.int 1) S = .ok (.int (x + 1)) S:=fun x S=>by simp
   have mlen : m.length ≤ 12:=M.m12
   refine wp_for0 (fun ds env S=>Hold (∃ (st1 : AS) (k : Nat) (rest : Menu) (L : List Int),ds = rest.map eRow ∧ (∀ r ∈ rest,r ∈ m) ∧ k + rest.length ≤ n + 1 + 600 + 13 ∧ L.length + 3 * rest.length ≤ 39 ∧ (∀ x ∈ L,0 ≤ x ∧ x ≤ 300000) ∧ Fz ns k st1 ∧ env = [some (.fzl (ns.map D.int)),some (.ref 0),some dd,some (.tup MD),some (.ref (1 + X.length)),none,none,none,none,none,none] ∧ S = st1 ++ (X ++ [.lst (L.map D.int)]))) ?_ ?_ ?_
   · refine ⟨st,_,m,[0,99999,r2],hMD,fun r hr=>hr,by omega,by simp; omega,fun x hx=>?_,f,rfl,rfl⟩
     simp only [List.mem_cons,List.not_mem_nil,or_false] at hx
     omega
   · rintro d2 ds2 env S ⟨st1,k,rest,L,q1,q2,q3,q4,q5,f,q6,q7⟩
     subst q6
     subst q7
     cases rest with
     | nil=>cases q1
     | cons r rest =>
       injection q1 with q1 q8
       have q1 : d2 = .tup [.str r.1,.int r.2.1,.tup (r.2.2.map ePr)]:=q1
       subst q1
       subst q8
       rw [List.length_cons] at q3 q4
       have rk:=M.row r (q2 r List.mem_cons_self)
       obtain ⟨b,pk⟩:=rk.p
       have l0:=rk.l0
       have l1:=rk.l1
       have lenp : (r.2.2.map ePr).length = r.2.2.length:=List.length_map _
       have memP : ∀ d ∈ r.2.2.map ePr,∃ p ∈ r.2.2,d = ePr p:=fun d hd=>by
         obtain ⟨p,hp,rfl⟩:=List.mem_map.mp hd
         exact ⟨p,hp,rfl⟩
       have bl:=pk.bl
       generalize r.2.2.map ePr = PD at *
       have lp2 : PD.length ≤ 16000000:=by omega
       try simp -dsimp -implicitDefEqProofs [-ixD,-Int.toNat_natCast,↓A1,↓A8,↓B1,↓A7,↓C6,↓C7,↓D6,↓F0,↓E3,↓C8,↓C9,↓F3,↓F1,↓E6,↓F6,↓E9,↓E8,↓D9,↓E7,↓E4,↓F4,↓F5,↓B5,↓B4,↓C2,↓B6,↓C0,↓C1,↓A6,↓B9,↓A9,↓C3,↓A0,↓B7,↓B8,↓C5,↓C4,↓E5,mk,F7,F8,F9,G0,G5,G6,G7,G8,G9,H6,H7,H8,H9,I6,I7,I8,I9,J0,J1,J3,J4,J5,lp2]
       refine wp_dz f (by omega) (by omega) (by omega) ?_
       intro r2 st2 z2 y2 ln f
       obtain ⟨d,hd,ix⟩:=ix_tup5 z2 y2
       obtain ⟨p,hp,rfl⟩:=memP d hd
       have pm:=pk.mem p hp
       have ip : ∀ S,ixD (ePr p) (.int 0) S = .ok (.int p.1) S:=fun S=>by simp [ePr]
       have g1:=cellX (X:=X) (c:=C.lst (L.map D.int)) ln
       have ex:=ext_atX (X:=X) (ns:=L) [p.1,max 0 (p.1 - 1),p.1 + 1] ln (by simp; omega)
       have fin : Hold (∃ (st1 : AS) (k' : Nat) (rest' : Menu) (L' : List Int),rest.map eRow = rest'.map eRow ∧ (∀ r ∈ rest',r ∈ m) ∧ k' + rest'.length ≤ n + 1 + 600 + 13 ∧ L'.length + 3 * rest'.length ≤ 39 ∧ (∀ x ∈ L',0 ≤ x ∧ x ≤ 300000) ∧ Fz ns k' st1 ∧ ([some (.fzl (ns.map D.int)),some (.ref 0),some dd,some (.tup MD),some (.ref (1 + X.length)),none,none,none,none,none,none] : En) = [some (.fzl (ns.map D.int)),some (.ref 0),some dd,some (.tup MD),some (.ref (1 + X.length)),none,none,none,none,none,none] ∧ st2 ++ (X ++ [C.lst ((L ++ [p.1,max 0 (p.1 - 1),p.1 + 1]).map D.int)]) = st1 ++ (X ++ [.lst (L'.map D.int)])) :=
         ⟨st2,k + 1,rest,L ++ [p.1,max 0 (p.1 - 1),p.1 + 1],rfl,fun x hx=>q2 x (List.mem_cons_of_mem _ hx),by omega,by rw [List.length_append]; simp; omega,fun x hx=>by
           rcases List.mem_append.mp hx with h | h
           · exact q5 x h
           · simp only [List.mem_cons,List.not_mem_nil,or_false] at h
             omega,f,rfl,rfl⟩
       rw [show [p.1,max 0 (p.1 - 1),p.1 + 1].map D.int = [.int p.1,.int (max 0 (p.1 - 1)),.int (p.1 + 1)] from rfl] at ex
       generalize (L ++ [p.1,max 0 (p.1 - 1),p.1 + 1]).map D.int = L2 at *
       generalize L.map D.int = L1 at *
       generalize ePr p = PR at *
       generalize 1 + X.length = LX at *
       try simp -dsimp -implicitDefEqProofs [-ixD,-Int.toNat_natCast,↓A1,↓A8,↓B1,↓A7,↓C6,↓C7,↓D6,↓F0,↓E3,↓C8,↓C9,↓F3,↓F1,↓E6,↓F6,↓E9,↓E8,↓D9,↓E7,↓E4,↓F4,↓F5,↓B5,↓B4,↓C2,↓B6,↓C0,↓C1,↓A6,↓B9,↓A9,↓C3,↓A0,↓B7,↓B8,↓C5,↓C4,↓E5,mk,F7,F8,F9,G0,G5,G6,G7,G8,G9,H6,H7,H8,H9,I6,I7,I8,I9,J0,J1,J3,J4,J5,ix,ip,-maxD,mx,-subD,sb,-addD,ad,-extD,ex,g1]
       all_goals try dsimp only [killE,List.set_cons_succ,List.set_cons_zero]
       all_goals exact fin
   · rintro env S ⟨st1,k,rest,L,q1',q2,q3,q4,q5,f,q6,q7⟩
     subst q6
     subst q7
     have g1:=cellX (X:=X) (c:=C.lst (L.map D.int)) f.ln
     have l1 : (L.map D.int).length ≤ 16000000:=by rw [List.length_map]; omega
     have cp : ∀ (a2 a4 : Option D) (a9 : Option D) (LX : Nat),LX = 1 + X.length → compL (kName 10) tYesV (vA minD (vCons (vC (.int 99999)) (vCons (vVar 10) vNil))) [some (.fzl (ns.map D.int)),some (.ref 0),a2,some (.tup MD),a4,none,none,none,none,a9,none] [(LX,.lst (L.map D.int))] (L.map D.int) (st1 ++ (X ++ [C.lst (L.map D.int)])) = .ok ((L.map fun x=>min 99999 x).map D.int) (st1 ++ (X ++ [C.lst (L.map D.int)])):=fun a2 a4 a9 LX e=>by
       subst e
       rw [List.map_map]
       generalize hc : st1 ++ (X ++ [C.lst (L.map D.int)]) = SS at *
       generalize ns.map D.int = NN
       exact comp_all D.int (D.int ∘ fun x=>min 99999 x) (ok_one g1) L fun x _=>⟨_,rfl,rfl,by simp⟩
     have l2 : ((L.map fun x=>min 99999 x).map D.int).length ≤ 16000000:=by rw [List.length_map,List.length_map]; omega
     have ri:=fun S=>RI (L.map fun x=>min 99999 x) (fun x hx=>by
       obtain ⟨y,hy,rfl⟩:=List.mem_map.mp hx
       have:=q5 y hy
       omega) (by rw [List.length_map]; omega) S
     have fin : Hold (∃ (n' : Nat) (st X' : AS),n' + 2000 * ds.length ≤ 10000 ∧ Fz ns n' st ∧ st1 ++ (X ++ [C.lst (L.map D.int)]) = st ++ X' ∧ ([some (.fzl (ns.map D.int)),some (.ref 0),none,none,none,none,none,none,none,none,none] : En) = [some (.fzl (ns.map D.int)),some (.ref 0),none,none,none,none,none,none,none,none,none]):=⟨k,st1,X ++ [C.lst (L.map D.int)],by omega,f,rfl,rfl⟩
     obtain ⟨LX,hLX⟩ : ∃ LX,LX = 1 + X.length:=⟨_,rfl⟩
     rw [← hLX] at g1 ⊢
     generalize (L.map fun x=>min 99999 x).map D.int = L2 at *
     generalize L.map D.int = L1 at *
     try simp -dsimp -implicitDefEqProofs [-ixD,-Int.toNat_natCast,↓A1,↓A8,↓B1,↓A7,↓C6,↓C7,↓D6,↓F0,↓E3,↓C8,↓C9,↓F3,↓F1,↓E6,↓F6,↓E9,↓E8,↓D9,↓E7,↓E4,↓F4,↓F5,↓B5,↓B4,↓C2,↓B6,↓C0,↓C1,↓A6,↓B9,↓A9,↓C3,↓A0,↓B7,↓B8,↓C5,↓C4,↓E5,mk,F7,F8,F9,G0,G5,G6,G7,G8,G9,H6,H7,H8,H9,I6,I7,I8,I9,J0,J1,J3,J4,J5,-reprD,RZ,g1,l1]
     try simp only [List.set_cons_succ,List.set_cons_zero]
     refine wp_of (cp _ _ _ LX hLX) ?_
     try simp -dsimp -implicitDefEqProofs [-ixD,-Int.toNat_natCast,↓A1,↓A8,↓B1,↓A7,↓C6,↓C7,↓D6,↓F0,↓E3,↓C8,↓C9,↓F3,↓F1,↓E6,↓F6,↓E9,↓E8,↓D9,↓E7,↓E4,↓F4,↓F5,↓B5,↓B4,↓C2,↓B6,↓C0,↓C1,↓A6,↓B9,↓A9,↓C3,↓A0,↓B7,↓B8,↓C5,↓C4,↓E5,mk,F7,F8,F9,G0,G5,G6,G7,G8,G9,H6,H7,H8,H9,I6,I7,I8,I9,J0,J1,J3,J4,J5,l2,ri,-reprD,RZ]
     all_goals try dsimp only [killE,List.set_cons_succ,List.set_cons_zero]
     all_goals exact fin
 · rintro env S ⟨n,st,X,q1,f,q2,q3⟩
   subst q3
   have bh:=fun S=>f_by_hand S
   try simp -dsimp -implicitDefEqProofs [-ixD,-Int.toNat_natCast,↓A1,↓A8,↓B1,↓A7,↓C6,↓C7,↓D6,↓F0,↓E3,↓C8,↓C9,↓F3,↓F1,↓E6,↓F6,↓E9,↓E8,↓D9,↓E7,↓E4,↓F4,↓F5,↓B5,↓B4,↓C2,↓B6,↓C0,↓C1,↓A6,↓B9,↓A9,↓C3,↓A0,↓B7,↓B8,↓C5,↓C4,↓E5,mk,F7,F8,F9,G0,G5,G6,G7,G8,G9,H6,H7,H8,H9,I6,I7,I8,I9,J0,J1,J3,J4,J5,bh]
   exact ret_bl
theorem law_true (ns : List Int) (h : ns.length ≤ 63) : ∃ st,F_law_4787 [.fzl (ns.map D.int)] [] = .ok (.bl true) st:=by
 obtain ⟨d,st,e,rfl⟩:=(law_wp4 ns h).eq
 exact ⟨st,e⟩
end V04
namespace VL
open PySem PySem.Spec PyProof.Rows L2 TB
section
variable {X : Cx} {z : Zi} {a b e : Expr} {es : List Expr} {fa fb : En → AS → Out D} {fs : En → AS → Out (List D)} {pos p : Pos} {x : Str}
theorem OkC.vxe {op : CmpOp} {g : D → D → AS → Out D} (h : OkC X E0 op g) (ha : VEX X z a fa) (hb : VEX X z b fb) (hm : behindInMarks op b = false) : VEX X z (.Compare a [op] [b] pos) (v2 g fa fb):=by
 obtain ⟨r,h1,h2⟩:=h
 refine weakE (pe_cmpR h1 ha hb hm) fun σ H Q ⟨β,env,st,he,hs,hz,h⟩=>?_
 refine tGX_bind he hs hz h fun x st1 β1 H1 u x1 s1 e1 z1 r1 h1=>?_
 exact tGX_bind e1 s1 z1 h1 fun y st2 β2 H2 v x2 s2 e2 z2 r2 h3=>h2 β2 H2 st2 x y u v Q s2 (r1.ext x2) r2 h3
end
end VL
namespace VL
open PySem PySem.Spec PyProof.Rows L2 TB
section
variable (P : Program) (w : World) (K : PySem.W.Frag) (mg : Str → Option Value) (base : Heap)
abbrev lamY (N : List Str) (x : Str) (sg : Scope) (g : Addr) (cdg : Value) (A : Around) (outer : List Env) (s : Shared) (H : Hp) : Cx:=cxOf (L2.CX P w) P w K mg base N x sg g cdg A outer s H E0
/-- what the def's text does,whatever the lambda does -/
def LamV (k : Nat) (N : List Str) (x : Str) (sg : Scope) (g : Addr) (cdg : Value) (bg : List Stmt) (a : Str) (F : (AS → Out D) → AS → Out D) : Prop :=
 ∀ (A : Around) (outer : List Env) (s : Shared) (H : Hp) (z : Lz) (st : AS) (Q : VK),A.guards = some [] → Room k (A.deeper (envOfC x sg s.heap.objs.size g cdg)) → z.H = H → Sim K ⟨mg,w⟩ z.β st H →
   (∀ (pn : List (Addr × Obj)) (xe : Value → Shared → Prop),ActOk ((lamY P w K mg base N x sg g cdg A outer s H).tr pn xe) z a) → Post K ⟨mg,w⟩ (rD K) E0 z.β H Q (F z.g st) →
   ∃ t,PSs (lamY P w K mg base N x sg g cdg A outer s H) bg t ∧ t ⟨fun _ H'=>Q .non H',Q,fun _ _=>False,fun _ _=>False⟩ (L2.start N [.ref z.f]) H
structure LamG (k : Nat) (g : Addr) (fd : FuncData) (x a : Str) (F : (AS → Out D) → AS → Out D) : Prop where
 ex : ∃ (N : List Str) (sd : Stmt) (oc : Value) (od : Option Addr) (dV kV doc pm : Value) (an : Option Addr) (cdv ct : Value) (osl : Array (Option Value)),fd = PySem.W.fnOf x x (defArgs sd) (defBody sd) (defScope sd) dV kV doc pm an cdv ct ∧
   K.lookup g = some ⟨oc,od,.func fd,osl⟩ ∧ PySem.W.codeIn K cdv x = true ∧ FnScope N [a] (defScope sd) ∧ N[0]? = some a ∧ Vis (defScope sd) a ∧ LamV P w K mg base k N x (defScope sd) g cdv (defBody sd) a F
end
section
variable {P : Program} {w : World} {K : PySem.W.Frag} {mg : Str → Option Value} {base : Heap}
theorem gokL {x : Str} {sd : Stmt} {g : Addr} {fd : FuncData} {N : List Str} {a : Str} {k : Nat} {body : (AS → Out D) → En → AS → Fl} (frz : Nat) (F : Fun K x x sd g fd) (S : FnScope N [a] (defScope sd)) (hN0 : N[0]? = some a) (hva : Vis (defScope sd) a)
   (walk : ∀ (cdv : Value) (A : Around),A.guards = some [] → ∀ (outer : List Env) (s : Shared) (H : Hp) (z : Lz),Room k (A.deeper (envOfC x (defScope sd) s.heap.objs.size g cdv)) →
     (∀ (pn : List (Addr × Obj)) (xe : Value → Shared → Prop),ActOk ((lamY P w K mg base N x (defScope sd) g cdv A outer s H).tr pn xe) z a) → VSsz (lamY P w K mg base N x (defScope sd) g cdv A outer s H) z (fun _=>E0) (defBody sd) (body z.g)) :
   LamG P w K mg base k g fd x a (fun gf st=>vFnL N.length frz (body gf) st):=by
 obtain ⟨oc,od,kV,doc,pm,an,cdv,ct,osl,rfl,lk,hcd⟩:=F.ex
 refine ⟨N,sd,oc,od,.none,kV,doc,pm,an,cdv,ct,osl,rfl,lk,hcd,S,hN0,hva,fun A outer s H z st Q hg hr hH hS act hp=>?_⟩
 subst hH
 have nl : 0 < N.length:=(List.getElem?_eq_some_iff.mp hN0).1
 have se:=start_env (K:=K) (H:=z.H) (β:=z.β) (ds:=[.cv (.v (.ref z.f))]) (vs:=[.ref z.f]) (N:=N) (.cons (.cv rfl) .nil)
 have s0 : (L2.start N [V.ref z.f])[0]? = some (some (.ref z.f)):=by
   obtain ⟨u,h1,h2⟩:=se.get 0 (.cv (.v (.ref z.f))) (by simp)
   cases h2 with
   | cv h=>rw [h1,show u = V.ref z.f from h]
 refine ⟨_,walk cdv A hg outer s z.H z hr act,z.β,List.replicate N.length none,st,se.less (by simp; omega) (fun i d h=>?_),hS,⟨s0,Ext.refl _ _⟩,?_⟩
 · rw [List.getElem?_replicate] at h
   split at h <;> cases h
 · change Post K ⟨mg,w⟩ (rD K) E0 z.β z.H Q ((body z.g (List.replicate N.length none) st).fin frz st) at hp
   unfold Fl.fin at hp
   cases o : body z.g (List.replicate N.length none) st with
   | rt d st' =>
     rw [o] at hp
     exact fun β' H' u x S' r'=>ret_ok hS S' x r' hp
   | nx env st' =>
     rw [o] at hp
     exact fun β' H' σ' x S' _=>ret_ok hS S' x .non hp
   | exc c fs st'=>rw [o] at hp; exact hp
   | bk env st'=>rw [o] at hp; exact hp.elim
   | ct env st'=>rw [o] at hp; exact hp.elim
   | bad=>rw [o] at hp; exact hp.elim
theorem post_neL {α ρ : Type} {mg : MG} {R : Hp → Bt → α → ρ → Prop} {E E' : XK} {β : Bt} {H : Hp} {Q : ρ → Hp → Prop} {o : Out α} (h : Post K mg R E β H Q o.ne) : Post K mg R E' β H Q o:=by
 cases o with
 | ok a s=>exact h
 | exc _ _ _=>exact h.elim
 | bad=>exact h
end
section
variable {X : Cx} {E : XK}
/-- the lambda's call,in the def that got it -/
theorem act_ok {β1 : Bt} {H1 : Hp} {s1 : Shared} {pins : List (Addr × Obj)} {σ : L2.St} {env : En} {fb : En → AS → Out D} {N : List Str} {x a : Str} {sg : Scope} {g : Addr} {cdg pm ctv : Value} {f c' : Addr} {params : Arguments} {body : Expr} {scope : Scope} {j : Nat} {pn : List (Addr × Obj)} {xe : Value → Shared → Prop}
   (I1 : Inv X pins σ H1 s1) (he : EnvR X.K H1 β1 env σ) (L : LamX.LamS X.env.scope scope) (gd : X.A.guards = some []) (hr : Room (j + 1) (X.A.deeper (envOfC x sg s1.heap.objs.size g cdg))) (hN0 : N[0]? = some a) (hva : Vis sg a)
   (of0 : s1.heap.get? f = some (PySem.W.kla_obj "<lambda>" (X.env.qual ++ "<lambda>") params body scope (cloFrom X.env.cells scope.names []) pm c' ctv)) (hfn : H1 f = none) (hfr : f ∉ frs X.stack) (hco : H1 c' = some (LamX.CodeO c' (X.env.qual ++ "<lambda>"))) (co : β1.out c')
   (hbind : bindArgs (PySem.W.kla_fn "<lambda>" (X.env.qual ++ "<lambda>") params body scope (cloFrom X.env.cells scope.names []) pm (.ref c') ctv) ⟨[],[]⟩ = pure [])
   (hbody : ∀ (A : Around) (outer : List Env) (s : Shared) (H : Hp) (E : XK),A.guards = some [] → Room j (A.deeper (LamX.lamEnv X scope s.heap.objs.size f c')) → VE (LamX.lamCx X A outer s H E scope f c') E body fb)
   (hd : (a == ("__debug__" : Str)) = false:=by decide) (hcd : (a == ("__classdict__" : Str)) = false:=by decide) :
   ActOk ((lamY X.prog X.w X.K X.mg X.base N x sg g cdg X.A X.stack s1 H1).tr pn xe) ⟨f,β1,H1,fun s=>fb env s⟩ a:=by
 intro E2 hpass p1 p2
 constructor
 intro pinsZ sZ σZ HZ Q IZ h
 obtain ⟨βz,envz,stz,_,hsz,⟨hf0,hx⟩,hp⟩:=h
 have hcz : HZ c' = some (LamX.CodeO c' (X.env.qual ++ "<lambda>")):=(hx.kept c' _ hco co (fun ps=>LamX.codeO_ne ps)).1
 have vr:=(pe_var (X:=(lamY X.prog X.w X.K X.mg X.base N x sg g cdg X.A X.stack s1 H1).tr pn xe) (pos:=p1) (i:=0) hN0 hva hd hcd).run pinsZ sZ σZ HZ (fun v H=>v = .ref f ∧ H = HZ) IZ ⟨.ref f,hf0,rfl,rfl⟩
 refine wpAny_Call_Name_kw (thn vr ?_)
 rintro u s2 ⟨v,H2,I2,rv,e1,e2⟩
 subst e1 e2
 cases rv
 have of2 : s2.heap.get? f = some (PySem.W.kla_obj "<lambda>" (X.env.qual ++ "<lambda>") params body scope (cloFrom X.env.cells scope.names []) pm c' ctv):=by
   refine I2.base.keep f _ of0 hfn hfr fun z=>?_
   cases (show f ∈ ([] : List Addr) from z)
 refine PySem.W.callWith_F0 ⟨_,_,_,_,of2⟩ ?_
 have un : Un (frs X.stack) [] H1 H2 s1.heap s2.heap:=I2.base
 obtain ⟨oc,vs,tk,hoc,hdc,hvc⟩:=(I2.hok c' _ hcz).1
 have pre : tV X.K X.mgw (E2 σZ) fb σ H2 Q:=⟨βz,env,stz,he.ext hx,hsz,hp⟩
 have run : codeAny (model X.prog X.w) (X.A.deeper (envOfC x sg s1.heap.objs.size g cdg)) (.call (.ref f) ⟨[],[]⟩) (CR (L2.CX X.prog X.w) (envOfC x sg s1.heap.objs.size g cdg :: X.stack) X.prog X.w H2 s2 Q (E2 σZ)) s2:=by
   refine PySem.W.kla_callFunE hr.depth of2 rfl L.co L.gen rfl ⟨c',oc,vs,tk,rfl,hoc,hdc,hvc⟩ ?_
   rw [hbind]
   refine wpAny_pure (wpAny_newFunctionEnv (fun y hy=>(L.own y hy).2) (fun y hy=>by cases hy) ?_ L.kind)
   intro h₁ hns hsb
   refine ⟨I2.nolimit.fresh _ hsb,?_⟩
   have kp : ∀ b o,s2.heap.get? b = some o → h₁.get? b = some o:=by
     intro b o e
     exact hsb.extBut b o (Nat.ne_of_lt (Heap.lt_size e)) (Heap.get?_push_of_some _ e)
   have J:=LamX.lam_start2 (E:=E2 σZ) (f:=f) (c':=c') (tk:=s2.toks + ([] : List (Str × Value)).length) I1 L I2.env0 hr.hd un hns kp
   have hb:=hbody (X.A.deeper (envOfC x sg s1.heap.objs.size g cdg)) (envOfC x sg s1.heap.objs.size g cdg :: X.stack) s2 H2 (E2 σZ) gd (hr.deeper _)
   refine PySem.W.kla_codeExpr (wpAny_mono (hb.run [] _ _ H2 Q J pre) ?_ (fun e s' hq=>hq))
   rintro v s' ⟨w',H',J',rv,q⟩
   exact ⟨w',H',J'.os,J'.bare,J'.base,J'.hok,rv,q⟩
 refine wpAny_call (codeAny_mono run ?_)
 intro r s' hq
 match r,hq with
 | .error e,hq=>exact hpass σZ pinsZ H2 s2 e s' I2 hq
 | .ok (.ret u),hq=>exact I2.after hq
 | .ok .next,hq=>exact hq.elim
 | .ok .brk,hq=>exact hq.elim
 | .ok .cont,hq=>exact hq.elim
/-- f(lambda: e) -/
theorem ve_lam {g c Pt : Addr} {fd : FuncData} {x a : Str} {k j : Nat} {params : Arguments} {body : Expr} {scope : Scope} {F : (AS → Out D) → AS → Out D} {fb : En → AS → Out D} {p lpos pos : Pos}
   (G : LamG X.prog X.w X.K X.mg X.base k g fd x a F) (gd : X.A.guards = some []) (hr : Room (j + 2) X.A) (hkj : k ≤ j + 1) (hg : Gl X x) (hm : X.mg x = some (.ref g)) (hk : PySem.W.keepIn X.K (.ref g) = true) (hb : BindV X.K fd [a] 1 [] [] [.pos 0])
   (TB : LamX.TabB X.base X.mg c Pt) (hcode : X.env.code = .ref c) (hmT : (Pt,X.env.qual ++ "<lambda>") ∈ tabL X.K) (hu : ∀ q ∈ tabL X.K,q.1 = Pt → q.2 = X.env.qual ++ "<lambda>") (L : LamX.LamS X.env.scope scope) (hdef : defaultsOf params X.env = ([],[]))
   (hbind : ∀ (q : Str) (cl : List (Str × Addr)) (pm cv ctv : Value),bindArgs (PySem.W.kla_fn "<lambda>" q params body scope cl pm cv ctv) ⟨[],[]⟩ = pure [])
   (hbody : ∀ (A : Around) (outer : List Env) (s : Shared) (H : Hp) (E : XK) (f c' : Addr),A.guards = some [] → Room j (A.deeper (LamX.lamEnv X scope s.heap.objs.size f c')) → VE (LamX.lamCx X A outer s H E scope f c') E body fb)
   (hdb : (x == ("__debug__" : Str)) = false:=by decide) (hd : (a == ("__debug__" : Str)) = false:=by decide) (hcd : (a == ("__classdict__" : Str)) = false:=by decide) :
   VE X E (.Call (.Name x p) [.Lambda params body scope lpos] [] pos) (vLam F fb):=by
 obtain ⟨N,sd,oc,od,dV,kV,doc,pm,an,cdv,ct,osl,rfl,lk,hcg,S,hN0,hva,V⟩:=G.ex
 constructor
 rintro pins s σ H Q I ⟨β,env,st,he,hs,h⟩
 refine wpAny_Call_Name_kw (ld_glob I hg hm ?_ hdb)
 refine PySem.W.callWith_K (h₀:=X.base) I.ok.mod.kin hk ?_ (by rfl) (by rfl)
 show wpAny _ _ (spliced ((false,eval (.Lambda params body scope lpos) X.env) :: backTo pos (starEach [] X.env))) _ _ s
 refine Calls.spliced_cons (LamX.lam_make2 I TB hcode hmT hu hs.tabs hdef (L.has I.ok) ?_)
 intro f c' pm' ctv H1 s' I1 eN T1 hf hfn hfr hco
 refine Calls.spliced_nil ⟨I1.kIn,?_⟩
 have hs1:=hs.grown eN T1
 have co:=hs.noCode eN hco
 have he1 : EnvR X.K H1 β env σ:=he.ext (ext_grown eN)
 obtain ⟨ds',rd,hbt⟩:=hb s' [.ref f] [] I1.kIn rfl rfl
 have rc : codeAny (model X.prog X.w) X.A (.call (.ref g) ⟨[.ref f],[]⟩) (CR (L2.CX X.prog X.w) X.stack X.prog X.w H1 s' Q E0) s':=by
   refine LamX.run_ofS (N:=N) (ps:=[a]) (us:=[.ref f]) (vs:=[.ref f]) lk hcg S hr I1.env0 hbt (.cons rfl .nil) rfl fun hr2=>?_
   refine V X.A X.stack s' H1 ⟨f,β,H1,fun s=>fb env s⟩ st Q gd (hr2.mono hkj) rfl hs1 (fun pn xe=>?_) ?_
   · exact act_ok I1 he1 L gd hr2 hN0 hva hf hfn hfr hco co (hbind _ _ _ _ _) (fun A outer s H E hg hr=>hbody A outer s H E f c' hg hr) hd hcd
   · exact post_neL (Post.ext (ext_grown eN) h)
 refine wpAny_call (codeAny_mono rc ?_)
 intro r s2 hq
 match r,hq with
 | .error e,hq =>
   obtain ⟨_,_,_,_,_,_,_,_,_,_,_,_,z⟩:=hq
   exact z.elim
 | .ok (.ret u),hq=>exact I1.after hq
 | .ok .next,hq=>exact hq.elim
 | .ok .brk,hq=>exact hq.elim
 | .ok .cont,hq=>exact hq.elim
end
end VL
namespace VL
open PySem PySem.Spec PyProof.Rows L2 TB
section
variable {P : Program} {w : World} {K : PySem.W.Frag} {mg : Str → Option Value} {base : Heap}
/-- a def whose code object is known -/
theorem gokVC {x : Str} {sd : Stmt} {f : Addr} {fd : FuncData} {N ps : List Str} {k : Nat} {body : En → AS → Fl} (frz : Nat) (F : Fun K x x sd f fd) (S : FnScope N ps (defScope sd))
   (walk : ∀ (cdv : Value) (A : Around),fd.code = cdv → A.guards = some [] → ∀ (outer : List Env) (s : Shared) (H : Hp) (E : XK),Room k (A.deeper (envOfC x (defScope sd) s.heap.objs.size f cdv)) →
     VSs (cxOf (L2.CX P w) P w K mg base N x (defScope sd) f cdv A outer s H E) E (defBody sd) body) :
   FnG P w K mg base (L2.CX P w) (k + 1) f fd ps (spV K ⟨mg,w⟩ ps.length (vFn N.length frz body)):=by
 obtain ⟨oc,od,kV,doc,pm,an,cdv,ct,osl,rfl,lk,hcd⟩:=F.ex
 refine gfn lk hcd S ?_ ?_
 · rintro vs H Q E ⟨_,_,_,e,_⟩
   exact e
 intro A hg outer s H vs Q E hr hsp
 obtain ⟨β,ds,st,hl,r,hS,hp⟩:=hsp
 refine ⟨_,walk cdv A rfl hg outer s H E hr,β,_,st,start_env r,hS,?_⟩
 unfold vFn Fl.fin at hp
 cases o : body (ds.map some ++ List.replicate (N.length - ds.length) none) st with
 | rt d st'=>rw [o] at hp; exact fun β' H' u x S' r'=>ret_ok hS S' x r' hp
 | nx env st'=>rw [o] at hp; exact fun β' H' σ' x S' _=>ret_ok hS S' x .non hp
 | exc c fs st'=>rw [o] at hp; exact hp
 | bk env st'=>rw [o] at hp; exact hp.elim
 | ct env st'=>rw [o] at hp; exact hp.elim
 | bad=>rw [o] at hp; exact hp.elim
end
end VL
namespace TB
open PySem PySem.Spec PyProof.Rows L2
section
variable {P : Program} {w : World} {K : PySem.W.Frag} {mg mb : Str → Option Value} {k : Nat} {fa a : Addr} {fd : FuncData} {x : Str} {sp : Sp} {s1 : Shared} {vs : List Value} {ns : List Int} {cs : List (Addr × Addr)}
abbrev voidT : Obj:={ cls:=.none,data:=.fields #[] }
theorem lawT0 {H : Hp} (KX : K.In s1.heap) (hns : s1.heap.Ns mainGlobals mg) (hb : s1.heap.Ns builtinsNs mb)
   (hbb : ∀ y : Str,y ≠ "__name__" → mb y = bootBuiltins y) (hlim : s1.heap.NoLimit) (hg : s1.gens = #[])
   (hT : ∀ q ∈ cs,s1.heap.get? q.2 = some voidT) (nT : ∀ q ∈ cs,K.lookup q.2 = none) (CH : ∀ q ∈ cs,PySem.W.CodeHd s1.heap q.1 q.2)
   (hbm : ∃ (bm : Addr) (ob : Obj),mg "__builtins__" = some (.ref bm) ∧ bm ≠ builtinsNs ∧ s1.heap.get? bm = some ob ∧ ob.cls = .type "module" ∧ ob.dict = some builtinsNs ∧ ob.data = .plain)
   (ha : s1.heap.get? a = some { cls:=.type "list",data:=.seq vs.toArray }) (hr : Room k callerA)
   (F : ∀ base : Heap,K.In base → base.Ns mainGlobals mg → (∀ q ∈ cs,LamX.TabB base mg q.1 q.2) → FnG P w K mg base CX0 k fa fd [x] sp)
   (hbind : ∀ (s : Shared) (u : Value),BindsTo s fd ⟨[u],[]⟩ [(x,u)])
   (tbl : ∀ q ∈ cs,H q.2 = some (.tbl #[])) (hO : ∀ b,H b ≠ none → (∃ q ∈ cs,q.2 = b) ∨ b = a ∧ ∃ ob xs,H b = some (.frz ob (.lst xs))) (hok : HOk P w H s1.heap) (notK : H a ≠ none → K.lookup a = none)
   (hsp : sp [.ref a] H (fun v _=>v = .bl true) fun _ _ _=>False) :
   codeAny (model P w) callerA (.call (.ref fa) ⟨[.ref a],[]⟩)
     (fun r s'=>r = .ok (.ret (.bool true)) ∧ OldK s1.heap s'.heap ∧ s'.os = s1.os ∧ AllBare s'.gens) s1:=by
 -- what is neither a void table nor the script is not tracked
 have free : ∀ {b : Addr} {o : Obj},s1.heap.get? b = some o → o.data ≠ .fields #[] → (∀ us n,o.data ≠ .seq us n) → H b = none:=by
   intro b o e h1 h2
   by_cases z : H b = none
   · exact z
   · rcases hO b z with ⟨q,hq,rfl⟩ | ⟨rfl,_⟩
     · have:=Option.some.inj (e.symm.trans (hT q hq))
       rw [this] at h1
       exact absurd rfl h1
     · have:=Option.some.inj (e.symm.trans ha)
       rw [this] at h2
       exact absurd rfl (h2 _ _)
 have nsB : ∀ {b : Addr} {m : Str → Option Value},s1.heap.Ns b m → (hidT s1.heap H).Ns b m:=by
   rintro b m ⟨o,es,ep,e,d,r⟩
   refine ⟨o,es,ep,hidT_get e (free e ?_ ?_),d,r⟩
   · intro z; rw [d] at z; exact nomatch z
   · intro us n z; rw [d] at z; exact nomatch z
 have kinB : K.In (hidT s1.heap H):=by
   intro b o e
   refine hidT_get (KX b o e) ?_
   by_cases z : H b = none
   · exact z
   · rcases hO b z with ⟨q,hq,rfl⟩ | ⟨rfl,_⟩
     · exact absurd ((nT q hq).symm.trans e) (fun q=>nomatch q)
     · exact absurd ((notK z).symm.trans e) (fun q=>nomatch q)
 obtain ⟨mc,hl1,hl2⟩:=hlim
 have M : Mod K mg (hidT s1.heap H):=⟨kinB,nsB hns,⟨mb,nsB hb,hbb⟩,⟨mc,nsB hl1,hl2⟩⟩
 have e0 : Env0 P w K mg (hidT s1.heap H) callerA [] s1 H :=
   { frames:=rfl,mod:=M,bs:=fun b o e=>of_hidT e,bsz:=Nat.le_of_eq (hidT_size _ _),funs:=trivial,
     frf:=fun b hb=>(nomatch (show b ∈ ([] : List Addr) from hb)),hok:=hok,bare:=.of_eq hg }
 have TBs : ∀ q ∈ cs,LamX.TabB (hidT s1.heap H) mg q.1 q.2:=by
   intro q hq
   have ht:=hT q hq
   constructor
   · obtain ⟨o,us,file,tf,flags,tg,inF,text,tt,e1,r1,r2,r3,rest⟩:=CH q hq
     refine ⟨o,us,file,tf,flags,tg,inF,text,tt,hidT_get e1 (free e1 ?_ ?_),r1,r2,r3,rest⟩
     · intro z
       rw [r2] at z
       cases z
       simp at r3
     · intro us n z; rw [r2] at z; exact nomatch z
   · obtain ⟨bm,ob,b1,b2,b3,b4,b5,b6⟩:=hbm
     have n1 : bm ≠ mainGlobals:=by
       rintro rfl
       obtain ⟨o,es,ep,e,hd,_⟩:=hns
       have:=Option.some.inj (e.symm.trans b3)
       rw [this,b6] at hd
       exact nomatch hd
     have n2 : bm ≠ q.2:=by
       rintro rfl
       have:=Option.some.inj (ht.symm.trans b3)
       rw [← this] at b6
       exact nomatch b6
     refine ⟨bm,ob,b1,b2,n1,n2,hidT_get b3 (free b3 ?_ ?_),b4,b5,b6⟩
     · intro z; rw [b6] at z; exact nomatch z
     · intro us n z; rw [b6] at z; exact nomatch z
   · intro z
     obtain ⟨o,es,ep,e,hd,_⟩:=hns
     rw [z] at e
     have:=Option.some.inj (e.symm.trans ht)
     rw [this] at hd
     exact nomatch hd
 have run:=(F _ kinB (nsB hns) TBs).run callerA rfl hr [] s1 H e0 ⟨[.ref a],[]⟩ [.ref a] [.ref a] (hbind s1 _) (.cons rfl .nil) _ _ hsp
 refine codeAny_mono run ?_
 intro r s' h
 match r,h with
 | .ok (.ret u),⟨v,H',os,bare,un,hok',rv,q⟩ =>
   have q' : v = V.bl true:=q
   subst q'
   have eu : u = Value.bool true:=rv
   subst eu
   have kept : ∀ b o,(¬ ∃ q ∈ cs,q.2 = b) → s1.heap.get? b = some o → s'.heap.get? b = some o:=by
     intro b o nb e
     by_cases z : H b = none
     · exact un.keep b o e z (fun q=>nomatch (show b ∈ ([] : List Addr) from q)) (fun q=>nomatch q)
     · rcases hO b z with z1 | ⟨_,ob,xs,z1⟩
       · exact absurd z1 nb
       · have e1:=(hok b _ z1).1
         have e2:=(hok' b _ (un.frzs b ob _ z1)).1
         rw [Option.some.inj (e.symm.trans e1)]
         exact e2
   have grown : ∀ q ∈ cs,∃ us : Array Value,s'.heap.get? q.2 = some { cls:=.none,data:=.fields us }:=by
     intro q hq
     obtain ⟨us,e⟩:=un.tbls q.2 #[] (tbl q hq)
     exact ⟨_,hok' q.2 _ e⟩
   refine ⟨rfl,⟨?_,?_⟩,os,bare⟩
   · intro b o e
     by_cases hb : ∃ q ∈ cs,q.2 = b
     · right; left
       obtain ⟨q,hq,rfl⟩:=hb
       obtain ⟨us,e2⟩:=grown q hq
       have eo:=Option.some.inj (e.symm.trans (hT q hq))
       subst eo
       have ct:=(CH q hq).tab (hT q hq)
       exact ⟨ct.isCodeTable,rfl,#[],us,rfl,by rw [e2,Array.empty_append]⟩
     · exact .inl (kept b o hb e)
   · intro b o e
     by_cases hb : ∃ q ∈ cs,q.2 = b
     · obtain ⟨q,hq,rfl⟩:=hb
       obtain ⟨us,e2⟩:=grown q hq
       exact ⟨_,e2⟩
     · exact ⟨o,kept b o hb e⟩
theorem lawT (KX : K.In s1.heap) (hns : s1.heap.Ns mainGlobals mg) (hb : s1.heap.Ns builtinsNs mb)
   (hbb : ∀ y : Str,y ≠ "__name__" → mb y = bootBuiltins y) (hlim : s1.heap.NoLimit) (hg : s1.gens = #[])
   (hT : ∀ q ∈ cs,s1.heap.get? q.2 = some voidT) (nT : ∀ q ∈ cs,K.lookup q.2 = none) (CH : ∀ q ∈ cs,PySem.W.CodeHd s1.heap q.1 q.2)
   (hbm : ∃ (bm : Addr) (ob : Obj),mg "__builtins__" = some (.ref bm) ∧ bm ≠ builtinsNs ∧ s1.heap.get? bm = some ob ∧ ob.cls = .type "module" ∧ ob.dict = some builtinsNs ∧ ob.data = .plain)
   (ha : s1.heap.get? a = some { cls:=.type "list",data:=.seq vs.toArray }) (hi : IntsAre vs ns) (hl : ns.length ≤ sizeLine) (hr : Room k callerA)
   (F : ∀ base : Heap,K.In base → base.Ns mainGlobals mg → (∀ q ∈ cs,LamX.TabB base mg q.1 q.2) → FnG P w K mg base CX0 k fa fd [x] sp)
   (hbind : ∀ (s : Shared) (u : Value),BindsTo s fd ⟨[u],[]⟩ [(x,u)])
   (hsp : ∀ H : Hp,(∀ q ∈ cs,H q.2 = some (.tbl #[])) → SqL K H a (ns.map V.int) → sp [.ref a] H (fun v _=>v = .bl true) fun _ _ _=>False) :
   codeAny (model P w) callerA (.call (.ref fa) ⟨[.ref a],[]⟩)
     (fun r s'=>r = .ok (.ret (.bool true)) ∧ OldK s1.heap s'.heap ∧ s'.os = s1.os ∧ AllBare s'.gens) s1:=by
 have rv:=vals_ints hi
 classical
 have na : ¬ ∃ q ∈ cs,q.2 = a:=by
   rintro ⟨q,hq,rfl⟩
   have:=Option.some.inj ((hT q hq).symm.trans ha)
   cases this
 let G : Hp:=fun b=>if ∃ q ∈ cs,q.2 = b then some (.tbl #[]) else none
 have gT : ∀ q ∈ cs,G q.2 = some (.tbl #[]):=fun q hq=>if_pos ⟨q,hq,rfl⟩
 have gN : ∀ b,(¬ ∃ q ∈ cs,q.2 = b) → G b = none:=fun b h=>if_neg h
 have ht : ∀ b,(∃ q ∈ cs,q.2 = b) → s1.heap.get? b = some voidT:=by
   rintro b ⟨q,hq,rfl⟩
   exact hT q hq
 by_cases hk : K.lookup a = none
 · let ob : Obj:={ cls:=.type "list",data:=.seq vs.toArray }
   let H : Hp:=upd G a (.frz ob (.lst (ns.map V.int)))
   have hA : H a = some (.frz ob (.lst (ns.map V.int))):=upd_same
   have hN : ∀ b,b ≠ a → H b = G b:=fun b ne=>upd_ne ne
   have hTb : ∀ q ∈ cs,H q.2 = some (.tbl #[]):=fun q hq=>(hN _ fun z=>na ⟨q,hq,z⟩).trans (gT q hq)
   refine lawT0 (H:=H) KX hns hb hbb hlim hg hT nT CH hbm ha hr F hbind hTb ?_ ?_ (fun _=>hk) (hsp H hTb (.inl (.inr ⟨ob,hA⟩)))
   · intro b z
     by_cases e : b = a
     · exact .inr ⟨e,ob,_,e ▸ hA⟩
     · by_cases hm : ∃ q ∈ cs,q.2 = b
       · exact .inl hm
       · exact absurd ((hN b e).trans (gN b hm)) z
   · intro b u q
     by_cases e : b = a
     · subst e
       cases Option.some.inj (q.symm.trans hA)
       exact ⟨ha,Nat.le_trans (Nat.le_of_eq (List.length_map V.int)) hl,vs,_,rv,ha⟩
     · by_cases hm : ∃ q ∈ cs,q.2 = b
       · cases Option.some.inj (q.symm.trans ((hN b e).trans (if_pos hm)))
         exact ht b hm
       · exact nomatch ((hN b e).trans (gN b hm)).symm.trans q
 · obtain ⟨o,ho⟩:=Option.ne_none_iff_exists'.mp hk
   have eo:=Option.some.inj ((KX a o ho).symm.trans ha)
   subst eo
   refine lawT0 (H:=G) KX hns hb hbb hlim hg hT nT CH hbm ha hr F hbind gT ?_ ?_ (fun q=>absurd (gN a na) q) (hsp G gT (.inr ?_))
   · intro b z
     by_cases hm : ∃ q ∈ cs,q.2 = b
     · exact .inl hm
     · exact absurd (gN b hm) z
   · intro b u q
     by_cases hm : ∃ q ∈ cs,q.2 = b
     · cases Option.some.inj (q.symm.trans (if_pos hm))
       exact ht b hm
     · exact nomatch (gN b hm).symm.trans q
   · exact ⟨_,vs.toArray,_,ho,rfl,rfl,rfl,by rw [List.size_toArray,hi.length]; exact hl,rv⟩
end
end TB
namespace TB
open PySem PySem.Spec PyProof.Rows L2
/-- the end of a law whose own def makes lambdas -/
theorem walkU {l : PySem.W.OpenLaw} {k : Nat} {q : Program} {loose : List Str} {XP : (Str → Option Value) → Heap → Prop} {YP : World → Heap → Prop} {d : DefRec} {K : Params → PySem.W.Frag} {x : Str} {Ps : List Addr}
   (hn : l.most = some 63) (hdf : d.params.defaults = [])
   (hY : ∀ (w : World) (h : Heap),YP w h → (K w.params).In h) (hY2 : ∀ (w : World) (h : Heap),YP w h → ∀ b ∈ Ps,h.get? b = some voidT)
   (nT : ∀ (w : World),∀ b ∈ Ps,(K w.params).lookup b = none) (hq : ∀ w : World,∀ p ∈ VL.tabL (K w.params),p.1 ∈ Ps) (hr : Room k callerA)
   (F : ∀ (w : World) (mg : Str → Option Value) (fa : Addr) (g : Heap),(K w.params).In g → g.Ns mainGlobals mg → mg d.name = some (.ref fa) →
     ∃ (fd : FuncData) (cs : List (Addr × Addr)),cs.map (·.2) = Ps ∧ (∀ p ∈ cs,PySem.W.codeHdIn (K w.params) p.1 p.2 = true) ∧ (∀ (s : Shared) (v : Value),BindsTo s fd ⟨[v],[]⟩ [(x,v)]) ∧
       ∀ base : Heap,(K w.params).In base → base.Ns mainGlobals mg → (∀ p ∈ cs,LamX.TabB base mg p.1 p.2) → FnG l.prog w (K w.params) mg base CX0 k fa fd [x] (VL.spLawT (K w.params))) :
   PySem.W.WalkO q loose XP YP l.row.toRowW d [] fun f us=>PySem.call f us:=by
 refine Att.attach_call hn hdf ?_
 intro w s₀ s₁ mg mb fa o pm cd doc a vs ns G Y ho hd hcd hmg hobj hints hlen hg
 have KX:=hY w _ Y
 obtain ⟨fd,cs,e,CH,bnd,prom⟩:=F w mg fa _ KX G.T.g hmg
 subst e
 have h2:=hY2 w _ Y
 have h63 : (63 : Nat) ≤ sizeLine:=by decide
 refine lawT KX G.T.g G.T.b G.T.builtins G.T.nolimit hg (fun p hp=>h2 p.2 (List.mem_map_of_mem hp)) (fun p hp=>nT w p.2 (List.mem_map_of_mem hp)) (fun p hp=>PySem.W.codeHd_of_K KX (CH p hp)) G.T.bmain hobj hints (Nat.le_trans hlen h63) hr prom bnd ?_
 intro H hT hS
 refine ⟨a,ns,rfl,hS,hlen,fun p hp=>?_,fun _=>rfl⟩
 obtain ⟨c,hc,e⟩:=List.mem_map.mp (hq w p hp)
 rw [← e]
 exact hT c hc
end TB
namespace V04
open PySem PySem.Spec PyProof.Rows L2 TB VL G
def topS (i : Nat) : Stmt:=PySem.Challenge.pw_tablebills_k04_prices_by_hour.main.body.getD i (.Pass ⟨0,0,0,0⟩)
abbrev s_menu_row : Stmt:=topS 8
abbrev s_price : Stmt:=topS 6
abbrev s_minutes_of : Stmt:=topS 7
abbrev s__law_feed : Stmt:=topS 10
abbrev s__law_draw : Stmt:=topS 11
abbrev s__law_after : Stmt:=topS 12
abbrev s__law_word : Stmt:=topS 13
abbrev s__law_prices : Stmt:=topS 14
abbrev s__law_menu : Stmt:=topS 15
abbrev s__law_row : Stmt:=topS 16
abbrev s__law_pays : Stmt:=topS 17
abbrev s__law_told : Stmt:=topS 18
abbrev s__law_grown : Stmt:=topS 19
abbrev s__law_grown_minutes : Stmt:=topS 20
abbrev s__law_right : Stmt:=topS 21
abbrev s__law_by_hand : Stmt:=topS 22
abbrev s_law : Stmt:=topS 23
theorem sc_menu_row : FnScope ["menu","item","row"] ["menu","item"] (defScope s_menu_row):=⟨rfl,rfl,rfl,by decide +kernel,rfl,by decide +kernel,by decide +kernel⟩
theorem sc_price : FnScope ["menu","item","minute","prices","start","pence"] ["menu","item","minute"] (defScope s_price):=⟨rfl,rfl,rfl,by decide +kernel,rfl,by decide +kernel,by decide +kernel⟩
theorem sc_minutes_of : FnScope ["menu","item"] ["menu","item"] (defScope s_minutes_of):=⟨rfl,rfl,rfl,by decide +kernel,rfl,by decide +kernel,by decide +kernel⟩
theorem sc__law_feed : FnScope ["_law_script"] ["_law_script"] (defScope s__law_feed):=⟨rfl,rfl,rfl,by decide +kernel,rfl,by decide +kernel,by decide +kernel⟩
theorem sc__law_draw : FnScope ["_law_feed_here","_law_many","_law_told_here","_law_cell","_law_turn","_law_mixed"] ["_law_feed_here","_law_many"] (defScope s__law_draw):=⟨rfl,rfl,rfl,by decide +kernel,rfl,by decide +kernel,by decide +kernel⟩
theorem sc__law_after : FnScope ["_law_word_here","_law_letters","_law_at","_law_sign"] ["_law_word_here"] (defScope s__law_after):=⟨rfl,rfl,rfl,by decide +kernel,rfl,by decide +kernel,by decide +kernel⟩
theorem sc__law_word : FnScope ["_law_feed_here","_law_found","_law_letters","_law_way","_law_word_here","_law_k","_law_own"] ["_law_feed_here","_law_found"] (defScope s__law_word):=⟨rfl,rfl,rfl,by decide +kernel,rfl,by decide +kernel,by decide +kernel⟩
theorem sc__law_prices : FnScope ["_law_feed_here","_law_found","_law_begin","_law_k","_law_pence"] ["_law_feed_here"] (defScope s__law_prices):=⟨rfl,rfl,rfl,by decide +kernel,rfl,by decide +kernel,by decide +kernel⟩
theorem sc__law_menu : FnScope ["_law_feed_here","_law_many","_law_words","_law_k","_law_word_here"] ["_law_feed_here","_law_many"] (defScope s__law_menu):=⟨rfl,rfl,rfl,by decide +kernel,rfl,by decide +kernel,by decide +kernel⟩
theorem sc__law_row : FnScope ["_law_menu_here","_law_item","_law_row_here"] ["_law_menu_here","_law_item"] (defScope s__law_row):=⟨rfl,rfl,rfl,by decide +kernel,rfl,by decide +kernel,by decide +kernel⟩
theorem sc__law_pays : FnScope ["_law_menu_here","_law_item","_law_minute","_law_begin","_law_pence"] ["_law_menu_here","_law_item","_law_minute"] (defScope s__law_pays):=⟨rfl,rfl,rfl,by decide +kernel,rfl,by decide +kernel,by decide +kernel⟩
theorem sc__law_told : FnScope ["_law_ask","e"] ["_law_ask"] (defScope s__law_told):=⟨rfl,rfl,rfl,by decide +kernel,rfl,by decide +kernel,by decide +kernel⟩
theorem sc__law_grown : FnScope ["_law_menu_here","_law_thing","e"] ["_law_menu_here"] (defScope s__law_grown):=⟨rfl,rfl,rfl,by decide +kernel,rfl,by decide +kernel,by decide +kernel⟩
theorem sc__law_grown_minutes : FnScope ["_law_menu_here","_law_thing","e"] ["_law_menu_here"] (defScope s__law_grown_minutes):=⟨rfl,rfl,rfl,by decide +kernel,rfl,by decide +kernel,by decide +kernel⟩
theorem sc__law_right : FnScope ["_law_menu_here","_law_minutes","_law_item","_law_want","_law_prices_here","_law_minute","_law_words","_law_odd","_law_thing","_law_row_here"] ["_law_menu_here","_law_minutes"] (defScope s__law_right):=⟨rfl,rfl,rfl,by decide +kernel,rfl,by decide +kernel,by decide +kernel⟩
theorem sc__law_by_hand : FnScope ["_law_menu_here","_law_rows","_law_minute","_law_pence"] [] (defScope s__law_by_hand):=⟨rfl,rfl,rfl,by decide +kernel,rfl,by decide +kernel,by decide +kernel⟩
theorem sc_law : FnScope ["_law_script","_law_feed_here","_law_turn","_law_menu_here","_law_minutes","_law_item","_law_want","_law_prices_here","_law_begin","_law_kept","_law_minute"] ["_law_script"] (defScope s_law):=⟨rfl,rfl,rfl,by decide +kernel,rfl,by decide +kernel,by decide +kernel⟩
abbrev si_NoItem : Stmt:=clsS (topS 3) 0
theorem sci_NoItem : FnScope ["self","item"] ["self","item"] (defScope si_NoItem):=⟨rfl,rfl,rfl,by decide +kernel,rfl,by decide +kernel,by decide +kernel⟩
theorem oki_NoItem {P : Program} {w : World} {K : PySem.W.Frag} {mg : Str → Option Value} {base : Heap} {C f : Addr} {fd : FuncData} (T : OexL K C) (no_item : PySem.W.findIn K (.ref C) "item" = some none) (F : Fun K "__init__" "NoItem.__init__" si_NoItem f fd) : FnOk P w K mg base CX0 1 f fd ["self","item"] (spI1 K C "item"):=by
 refine F.ok sci_NoItem (fun vs H Q E h=>?_) (fun cdv A outer s H vs Q E hr h=>?_)
 · obtain ⟨a,x,rfl,_⟩:=h
   rfl
 · obtain ⟨a,x,rfl,ea,q⟩:=h
   exact ⟨_,pss_one (ps_first (pv 0) (pv 1)),_,rfl,_,rfl,a,C,rfl,T,no_item,ea,fun dx n ne=>q dx n ne⟩
section
variable {P : Program} {w : World} {K : PySem.W.Frag} {mg : Str → Option Value} {base : Heap}
theorem ok_menu_row {f_menu_row : Addr} {fd_menu_row : FuncData} (F_ : Fun K "menu_row" "menu_row" s_menu_row f_menu_row fd_menu_row) (x_NoItem : ExM P w K mg base "NoItem" ["item"]) : FnG P w K mg base (L2.CX P w) 3 f_menu_row fd_menu_row ["menu","item"] (spV K ⟨mg,w⟩ 2 F_menu_row):=by
 refine gokV (k:=2) 0 F_ sc_menu_row fun cdv A gd outer s H E hr=>?_
 have hu:=hu65 hr
 exact (vss_cons (vs_for (passes_of rfl) rfl (vi_seq (ve_var 0)) (vg_name (i:=2) sc_menu_row.nd rfl (.inl rfl)) (vss_kill [2] (vss_one (vs_if (OkC.vt (oc_eq hu) (ve_sub_ix hu (ve_var 2) ve_int (fun _ _ => rfl)) (ve_var 1) (nomark _)) (vss_one (vs_ret (ve_var 2))) vss_nil))))
     (vss_one (vs_raise1 (f:="item") x_NoItem (hr.mono (by decide)) (by rfl) rfl (takes_of rfl rfl rfl rfl) (ve_var 1))))
theorem ok_price {f_price : Addr} {fd_price : FuncData} {dvs_price : List V} (F_ : FunD K "price" "price" (defArgs s_price) (defBody s_price) (defScope s_price) dvs_price [] f_price fd_price) {f_menu_row : Addr} {fd_menu_row : FuncData} (G_menu_row : FnG P w K mg base (L2.CX P w) 3 f_menu_row fd_menu_row ["menu","item"] (spV K ⟨mg,w⟩ 2 F_menu_row)) (k_menu_row : PySem.W.keepIn K (.ref f_menu_row) = true) (g_menu_row : mg "menu_row" = some (.ref f_menu_row)) (b_menu_row_2 : BindV K fd_menu_row ["menu","item"] 2 [] [] [.pos 0,.pos 1]) : FnG P w K mg base (L2.CX P w) 4 f_price fd_price ["menu","item","minute"] (spV K ⟨mg,w⟩ 3 F_price):=by
 refine gokVD (k:=3) 0 F_ sc_price fun cdv A gd outer s H E hr=>?_
 have hu:=hu65 hr
 exact (vss_cons (vs_set (i:=3) sc_price.nd rfl (.inl rfl) (ve_sub_ix hu (ve_callP (ds:=[]) (dvs:=[]) (ss:=[.pos 0, .pos 1]) G_menu_row gd (hr.mono (by decide)) (by rfl) g_menu_row k_menu_row b_menu_row_2 (by intro us ws h1 h2; match us, h1, ws, h2 with | [_, _], _, [], _ => rfl) (fun _ _ => .nil) (passes_call (takes_of rfl rfl rfl rfl) (fun _ _ _ _ h => h)) (va_cons (ve_var 0) (va_cons (ve_var 1) va_nil))) ve_int (fun _ _ => rfl)))
     (vss_one (vs_ret (ve_sub_ix hu (ve_lc false (own:=[("start",4),("pence",5)]) (by decide) rfl sc_price.nd (vi_seq (ve_var 3)) (blkOk_by (own:=[("start",4),("pence",5)]) (N:=["menu","item","minute","prices","start","pence"]) (sc:=defScope s_price) (by decide +kernel)) (fun _ _ _ _ _=>(vg_tup rfl (vgs_cons (vg_name (i:=4) sc_price.nd rfl (.inl rfl)) (vgs_cons (vg_name (i:=5) sc_price.nd rfl (.inl rfl)) vgs_nil)))) (fun _ _ _ _ _=>(vts_one (OkC.vt (oc_le hu) (ve_var 4) (ve_var 2) (nomark _)))) (fun _ _ _ _ _=>(ve_var 5))) (ve_neg ve_int) (fun _ _=>rfl)))))
theorem ok_minutes_of {f_minutes_of : Addr} {fd_minutes_of : FuncData} (F_ : Fun K "minutes_of" "minutes_of" s_minutes_of f_minutes_of fd_minutes_of) {f_menu_row : Addr} {fd_menu_row : FuncData} (G_menu_row : FnG P w K mg base (L2.CX P w) 3 f_menu_row fd_menu_row ["menu","item"] (spV K ⟨mg,w⟩ 2 F_menu_row)) (k_menu_row : PySem.W.keepIn K (.ref f_menu_row) = true) (g_menu_row : mg "menu_row" = some (.ref f_menu_row)) (b_menu_row_2 : BindV K fd_menu_row ["menu","item"] 2 [] [] [.pos 0,.pos 1]) : FnG P w K mg base (L2.CX P w) 4 f_minutes_of fd_minutes_of ["menu","item"] (spV K ⟨mg,w⟩ 2 F_minutes_of):=by
 refine gokV (k:=3) 0 F_ sc_minutes_of fun cdv A gd outer s H E hr=>?_
 have hu:=hu65 hr
 exact (vss_one (vs_ret (ve_sub_ix hu (ve_callP (ds:=[]) (dvs:=[]) (ss:=[.pos 0,.pos 1]) G_menu_row gd (hr.mono (by decide)) (by rfl) g_menu_row k_menu_row b_menu_row_2 (by intro us ws h1 h2; match us,h1,ws,h2 with | [_,_],_,[],_=>rfl) (fun _ _=>.nil) (passes_call (takes_of rfl rfl rfl rfl) (fun _ _ _ _ h=>h)) (va_cons (ve_var 0) (va_cons (ve_var 1) va_nil))) ve_int (fun _ _=>rfl))))
theorem ok__law_feed {f__law_feed : Addr} {fd__law_feed : FuncData} (F_ : Fun K "_law_feed" "_law_feed" s__law_feed f__law_feed fd__law_feed)  : FnG P w K mg base (L2.CX P w) 2 f__law_feed fd__law_feed ["_law_script"] (spV K ⟨mg,w⟩ 1 F__law_feed_6a37):=by
 refine gokV (k:=1) 0 F_ sc__law_feed fun cdv A gd outer s H E hr=>?_
 have hu:=hu65 hr
 exact (vss_one (vs_ret (ve_lst true (va_cons (ve_slice false (ve_var 0) vo_none (vo_some ve_int)) (va_cons ve_int (va_cons ve_int (va_cons ve_int va_nil)))))))
theorem ok__law_draw {f__law_draw : Addr} {fd__law_draw : FuncData} (F_ : Fun K "_law_draw" "_law_draw" s__law_draw f__law_draw fd__law_draw) (m_len : mg "len" = none) : FnG P w K mg base (L2.CX P w) 2 f__law_draw fd__law_draw ["_law_feed_here","_law_many"] (spV K ⟨mg,w⟩ 2 F__law_draw_d535):=by
 refine gokV (k:=1) 0 F_ sc__law_draw fun cdv A gd outer s H E hr=>?_
 have hu:=hu65 hr
 exact (vss_cons (vs_augS hu (ve_var 0) ve_int ve_int oi_add)
     (vss_cons (vs_if (OkC.vt oc_gt (ve_sub_ix hu (ve_var 0) ve_int (fun _ _=>rfl)) ve_int (nomark _)) (vss_cons (vs_set (i:=2) sc__law_draw.nd rfl (.inl rfl) (ve_mod (ve_sub_ix hu (ve_var 0) ve_int (fun _ _=>rfl)) (ve_var 1)))
     (vss_cons (vs_asg (ve_fdiv (ve_sub_ix hu (ve_var 0) ve_int (fun _ _=>rfl)) (ve_var 1)) (vg_sub hu (ve_var 0) ve_int))
     (vss_one (vs_ret (ve_var 2))))) vss_nil)
     (vss_cons (vs_set (i:=3) sc__law_draw.nd rfl (.inl rfl) (ve_ifExp (OkC.vt (oc_eq hu) (ve_sub_ix hu (ve_var 0) ve_int (fun _ _=>rfl)) (ve_lst false va_nil) (nomark _)) ve_int (ve_sub_ix hu (ve_sub_ix hu (ve_var 0) ve_int (fun _ _=>rfl)) (ve_mod (ve_sub_ix hu (ve_var 0) ve_int (fun _ _=>rfl)) (ve_callB ob_len (by rfl) m_len (by decide +kernel) (va_cons (ve_sub_ix hu (ve_var 0) ve_int (fun _ _=>rfl)) va_nil))) (fun _ _=>rfl))))
     (vss_cons (vs_augS hu (ve_var 0) ve_int ve_int oi_add)
     (vss_cons (vs_if (PW.pt (vw_and (OkC.vt oc_ge (ve_var 3) (ve_pow ve_int ve_int) (nomark _)) (vw_and1 (OkC.vt (oc_le hu) (ve_sub_ix hu (ve_var 0) ve_int (fun _ _=>rfl)) (ve_callB ob_len (by rfl) m_len (by decide +kernel) (va_cons (ve_sub_ix hu (ve_var 0) ve_int (fun _ _=>rfl)) va_nil)) (nomark _))))) (vss_cons (vs_asg (ve_fdiv (ve_var 3) (ve_var 1)) (vg_sub hu (ve_var 0) ve_int))
     (vss_one (vs_ret (ve_mod (ve_var 3) (ve_var 1))))) vss_nil)
     (vss_cons (vs_set (i:=4) sc__law_draw.nd rfl (.inl rfl) (ve_sub_ix hu (ve_var 0) ve_int (fun _ _=>rfl)))
     (vss_cons (vs_set (i:=5) sc__law_draw.nd rfl (.inl rfl) (ve_mod (ve_add false (ve_add false (ve_mod (ve_var 3) ve_int) (ve_mul false (ve_mul false ve_int (ve_var 4)) (ve_var 4))) (ve_mul false ve_int (ve_var 4))) ve_int))
     (vss_cons (vs_set (i:=5) sc__law_draw.nd rfl (.inl rfl) (ve_mod (ve_add false (ve_mul false (ve_var 5) (ve_var 5)) (ve_mul false ve_int (ve_var 4))) ve_int))
     (vss_cons (vs_set (i:=5) sc__law_draw.nd rfl (.inl rfl) (ve_mod (ve_add false (ve_mul false (ve_var 5) (ve_var 5)) (ve_mul false ve_int (ve_var 4))) ve_int))
     (vss_one (vs_ret (ve_mod (ve_fdiv (ve_mod (ve_add false (ve_mul false (ve_var 5) (ve_var 5)) (ve_var 4)) ve_int) ve_int) (ve_var 1)))))))))))))
theorem ok__law_after {f__law_after : Addr} {fd__law_after : FuncData} (F_ : Fun K "_law_after" "_law_after" s__law_after f__law_after fd__law_after) (m_len : mg "len" = none) : FnG P w K mg base (L2.CX P w) 2 f__law_after fd__law_after ["_law_word_here"] (spV K ⟨mg,w⟩ 1 F__law_after):=by
 refine gokV (k:=1) 0 F_ sc__law_after fun cdv A gd outer s H E hr=>?_
 have hu:=hu65 hr
 exact (vss_cons (vs_set (i:=1) sc__law_after.nd rfl (.inl rfl) ve_str)
     (vss_cons (vs_if (OkC.vt (oc_lt hu) (ve_callB ob_len (by rfl) m_len (by decide +kernel) (va_cons (ve_var 0) va_nil)) ve_int (nomark _)) (vss_one (vs_ret (ve_add false (ve_var 0) ve_str))) vss_nil)
     (vss_cons (vs_set (i:=2) sc__law_after.nd rfl (.inl rfl) ve_int)
     (vss_cons (vs_while (passes_of rfl) (PW.pt (vw_and (OkC.vt oc_gt (ve_var 2) ve_int (nomark _)) (vw_and1 (OkC.vt (oc_eq hu) (ve_sub_ix hu (ve_var 0) (ve_var 2) (fun _ _=>rfl)) ve_str (nomark _))))) (vss_one (vs_aug (i:=2) sc__law_after.nd rfl (.inl rfl) ve_int oi_sub)))
     (vss_cons (vs_set (i:=3) sc__law_after.nd rfl (.inl rfl) (ve_sub_ix hu (ve_var 1) (ve_mod (ve_add false (ve_ms PySem.F.slot_str_index PySem.F.type_str_index om_sindex (ve_var 1) (va_cons (ve_sub_ix hu (ve_var 0) (ve_var 2) (fun _ _=>rfl)) va_nil)) ve_int) ve_int) (fun _ _=>rfl)))
     (vss_one (vs_ret (ve_add false (ve_add false (ve_slice false (ve_var 0) vo_none (vo_some (ve_var 2))) (ve_var 3)) (ve_mul false ve_str (ve_sub ve_int (ve_var 2)))))))))))
theorem ok__law_word {f__law_word : Addr} {fd__law_word : FuncData} (F_ : Fun K "_law_word" "_law_word" s__law_word f__law_word fd__law_word) {f__law_after : Addr} {fd__law_after : FuncData} (G__law_after : FnG P w K mg base (L2.CX P w) 2 f__law_after fd__law_after ["_law_word_here"] (spV K ⟨mg,w⟩ 1 F__law_after)) (k__law_after : PySem.W.keepIn K (.ref f__law_after) = true) (g__law_after : mg "_law_after" = some (.ref f__law_after)) {f__law_draw : Addr} {fd__law_draw : FuncData} (G__law_draw : FnG P w K mg base (L2.CX P w) 2 f__law_draw fd__law_draw ["_law_feed_here","_law_many"] (spV K ⟨mg,w⟩ 2 F__law_draw_d535)) (k__law_draw : PySem.W.keepIn K (.ref f__law_draw) = true) (g__law_draw : mg "_law_draw" = some (.ref f__law_draw)) (b__law_after_1 : BindV K fd__law_after ["_law_word_here"] 1 [] [] [.pos 0]) (b__law_draw_2 : BindV K fd__law_draw ["_law_feed_here","_law_many"] 2 [] [] [.pos 0,.pos 1]) (m_len : mg "len" = none) (m_range : mg "range" = none) : FnG P w K mg base (L2.CX P w) 3 f__law_word fd__law_word ["_law_feed_here","_law_found"] (spV K ⟨mg,w⟩ 2 F__law_word_ffbe):=by
 refine gokV (k:=2) 0 F_ sc__law_word fun cdv A gd outer s H E hr=>?_
 have hu:=hu65 hr
 exact (vss_cons (vs_set (i:=2) sc__law_word.nd rfl (.inl rfl) ve_str)
     (vss_cons (vs_set (i:=3) sc__law_word.nd rfl (.inl rfl) (ve_callP (ds:=[]) (dvs:=[]) (ss:=[.pos 0,.pos 1]) G__law_draw gd (hr.mono (by decide)) (by rfl) g__law_draw k__law_draw b__law_draw_2 (by intro us ws h1 h2; match us,h1,ws,h2 with | [_,_],_,[],_=>rfl) (fun _ _=>.nil) (passes_call (takes_of rfl rfl rfl rfl) (fun _ _ _ _ h=>h)) (va_cons (ve_var 0) (va_cons ve_int va_nil))))
     (vss_cons (vs_set (i:=4) sc__law_word.nd rfl (.inl rfl) (ve_sub_ix hu (ve_var 2) (ve_callP (ds:=[]) (dvs:=[]) (ss:=[.pos 0,.pos 1]) G__law_draw gd (hr.mono (by decide)) (by rfl) g__law_draw k__law_draw b__law_draw_2 (by intro us ws h1 h2; match us,h1,ws,h2 with | [_,_],_,[],_=>rfl) (fun _ _=>.nil) (passes_call (takes_of rfl rfl rfl rfl) (fun _ _ _ _ h=>h)) (va_cons (ve_var 0) (va_cons ve_int va_nil))) (fun _ _=>rfl)))
     (vss_cons (vs_if (PW.pt (vw_or (OkC.vt oc_gt (ve_var 3) ve_int (nomark _)) (vw_or1 (OkC.vt (oc_eq hu) (ve_var 1) (ve_lst false va_nil) (nomark _))))) (vss_one (vs_for (passes_of rfl) rfl (vi_range1 (by rfl) m_range (va_cons (ve_callP (ds:=[]) (dvs:=[]) (ss:=[.pos 0,.pos 1]) G__law_draw gd (hr.mono (by decide)) (by rfl) g__law_draw k__law_draw b__law_draw_2 (by intro us ws h1 h2; match us,h1,ws,h2 with | [_,_],_,[],_=>rfl) (fun _ _=>.nil) (passes_call (takes_of rfl rfl rfl rfl) (fun _ _ _ _ h=>h)) (va_cons (ve_var 0) (va_cons ve_int va_nil))) va_nil)) (vg_name (i:=5) sc__law_word.nd rfl (.inl rfl)) (vss_kill [5] (vss_one (vs_set (i:=4) sc__law_word.nd rfl (.inl rfl) (ve_add false (ve_var 4) (ve_sub_ix hu (ve_var 2) (ve_callP (ds:=[]) (dvs:=[]) (ss:=[.pos 0,.pos 1]) G__law_draw gd (hr.mono (by decide)) (by rfl) g__law_draw k__law_draw b__law_draw_2 (by intro us ws h1 h2; match us,h1,ws,h2 with | [_,_],_,[],_=>rfl) (fun _ _=>.nil) (passes_call (takes_of rfl rfl rfl rfl) (fun _ _ _ _ h=>h)) (va_cons (ve_var 0) (va_cons ve_int va_nil))) (fun _ _=>rfl)))))))) (vss_cons (vs_set (i:=6) sc__law_word.nd rfl (.inl rfl) (ve_sub_ix hu (ve_var 1) (ve_callP (ds:=[]) (dvs:=[]) (ss:=[.pos 0,.pos 1]) G__law_draw gd (hr.mono (by decide)) (by rfl) g__law_draw k__law_draw b__law_draw_2 (by intro us ws h1 h2; match us,h1,ws,h2 with | [_,_],_,[],_=>rfl) (fun _ _=>.nil) (passes_call (takes_of rfl rfl rfl rfl) (fun _ _ _ _ h=>h)) (va_cons (ve_var 0) (va_cons (ve_callB ob_len (by rfl) m_len (by decide +kernel) (va_cons (ve_var 1) va_nil)) va_nil))) (fun _ _=>rfl)))
     (vss_one (vs_set (i:=4) sc__law_word.nd rfl (.inl rfl) (ve_ifExp (OkC.vt (oc_eq hu) (ve_var 3) ve_int (nomark _)) (ve_slice false (ve_var 6) vo_none (vo_some (ve_add false ve_int (ve_callP (ds:=[]) (dvs:=[]) (ss:=[.pos 0,.pos 1]) G__law_draw gd (hr.mono (by decide)) (by rfl) g__law_draw k__law_draw b__law_draw_2 (by intro us ws h1 h2; match us,h1,ws,h2 with | [_,_],_,[],_=>rfl) (fun _ _=>.nil) (passes_call (takes_of rfl rfl rfl rfl) (fun _ _ _ _ h=>h)) (va_cons (ve_var 0) (va_cons (ve_callB ob_len (by rfl) m_len (by decide +kernel) (va_cons (ve_var 6) va_nil)) va_nil)))))) (ve_add false (ve_slice false (ve_var 6) vo_none (vo_some ve_int)) (ve_sub_ix hu (ve_var 2) (ve_callP (ds:=[]) (dvs:=[]) (ss:=[.pos 0,.pos 1]) G__law_draw gd (hr.mono (by decide)) (by rfl) g__law_draw k__law_draw b__law_draw_2 (by intro us ws h1 h2; match us,h1,ws,h2 with | [_,_],_,[],_=>rfl) (fun _ _=>.nil) (passes_call (takes_of rfl rfl rfl rfl) (fun _ _ _ _ h=>h)) (va_cons (ve_var 0) (va_cons ve_int va_nil))) (fun _ _=>rfl))))))))
     (vss_cons (vs_for (passes_of rfl) rfl (vi_range1 (by rfl) m_range (va_cons ve_int va_nil)) (vg_name (i:=5) sc__law_word.nd rfl (.inl rfl)) (vss_kill [5] (vss_cons (vs_if (OkC.vt (oc_notin hu) (ve_var 4) (ve_var 1) (by rfl)) (vss_one vs_break) vss_nil)
     (vss_one (vs_set (i:=4) sc__law_word.nd rfl (.inl rfl) (ve_callP (ds:=[]) (dvs:=[]) (ss:=[.pos 0]) G__law_after gd (hr.mono (by decide)) (by rfl) g__law_after k__law_after b__law_after_1 (by intro us ws h1 h2; match us,h1,ws,h2 with | [_],_,[],_=>rfl) (fun _ _=>.nil) (passes_call (takes_of rfl rfl rfl rfl) (fun _ _ _ _ h=>h)) (va_cons (ve_var 4) va_nil)))))))
     (vss_one (vs_ret (ve_var 4))))))))
theorem ok__law_prices {f__law_prices : Addr} {fd__law_prices : FuncData} (F_ : Fun K "_law_prices" "_law_prices" s__law_prices f__law_prices fd__law_prices) {f__law_draw : Addr} {fd__law_draw : FuncData} (G__law_draw : FnG P w K mg base (L2.CX P w) 2 f__law_draw fd__law_draw ["_law_feed_here","_law_many"] (spV K ⟨mg,w⟩ 2 F__law_draw_d535)) (k__law_draw : PySem.W.keepIn K (.ref f__law_draw) = true) (g__law_draw : mg "_law_draw" = some (.ref f__law_draw)) (b__law_draw_2 : BindV K fd__law_draw ["_law_feed_here","_law_many"] 2 [] [] [.pos 0,.pos 1]) (m_range : mg "range" = none) (m_tuple : mg "tuple" = none) : FnG P w K mg base (L2.CX P w) 3 f__law_prices fd__law_prices ["_law_feed_here"] (spV K ⟨mg,w⟩ 1 F__law_prices_d456):=by
 refine gokV (k:=2) 0 F_ sc__law_prices fun cdv A gd outer s H E hr=>?_
 have hu:=hu65 hr
 exact (vss_cons (vs_par (i:=1) (j:=2) (by rfl) sc__law_prices.nd rfl rfl (by decide) rfl rfl (va_cons (ve_lst true va_nil) (va_cons ve_int va_nil)) (by rfl))
     (vss_cons (vs_for (passes_of rfl) rfl (vi_range1 (by rfl) m_range (va_cons (ve_add false ve_int (ve_callP (ds:=[]) (dvs:=[]) (ss:=[.pos 0,.pos 1]) G__law_draw gd (hr.mono (by decide)) (by rfl) g__law_draw k__law_draw b__law_draw_2 (by intro us ws h1 h2; match us,h1,ws,h2 with | [_,_],_,[],_=>rfl) (fun _ _=>.nil) (passes_call (takes_of rfl rfl rfl rfl) (fun _ _ _ _ h=>h)) (va_cons (ve_var 0) (va_cons ve_int va_nil)))) va_nil)) (vg_name (i:=3) sc__law_prices.nd rfl (.inl rfl)) (vss_kill [3,4] (vss_cons (vs_set (i:=4) sc__law_prices.nd rfl (.inl rfl) (ve_tup (va_cons ve_int (va_cons ve_int (va_cons (ve_callP (ds:=[]) (dvs:=[]) (ss:=[.pos 0,.pos 1]) G__law_draw gd (hr.mono (by decide)) (by rfl) g__law_draw k__law_draw b__law_draw_2 (by intro us ws h1 h2; match us,h1,ws,h2 with | [_,_],_,[],_=>rfl) (fun _ _=>.nil) (passes_call (takes_of rfl rfl rfl rfl) (fun _ _ _ _ h=>h)) (va_cons (ve_var 0) (va_cons ve_int va_nil))) (va_cons (ve_sub ve_int (ve_callP (ds:=[]) (dvs:=[]) (ss:=[.pos 0,.pos 1]) G__law_draw gd (hr.mono (by decide)) (by rfl) g__law_draw k__law_draw b__law_draw_2 (by intro us ws h1 h2; match us,h1,ws,h2 with | [_,_],_,[],_=>rfl) (fun _ _=>.nil) (passes_call (takes_of rfl rfl rfl rfl) (fun _ _ _ _ h=>h)) (va_cons (ve_var 0) (va_cons ve_int va_nil)))) (va_cons (ve_callP (ds:=[]) (dvs:=[]) (ss:=[.pos 0,.pos 1]) G__law_draw gd (hr.mono (by decide)) (by rfl) g__law_draw k__law_draw b__law_draw_2 (by intro us ws h1 h2; match us,h1,ws,h2 with | [_,_],_,[],_=>rfl) (fun _ _=>.nil) (passes_call (takes_of rfl rfl rfl rfl) (fun _ _ _ _ h=>h)) (va_cons (ve_var 0) (va_cons ve_int va_nil))) va_nil)))))))
     (vss_cons (vs_expr (ve_ml PySem.F.slot_list_append PySem.F.type_list_append om_append (ve_var 1) (va_cons (ve_tup (va_cons (ve_var 2) (va_cons (ve_sub_ix hu (ve_var 4) (ve_callP (ds:=[]) (dvs:=[]) (ss:=[.pos 0,.pos 1]) G__law_draw gd (hr.mono (by decide)) (by rfl) g__law_draw k__law_draw b__law_draw_2 (by intro us ws h1 h2; match us,h1,ws,h2 with | [_,_],_,[],_=>rfl) (fun _ _=>.nil) (passes_call (takes_of rfl rfl rfl rfl) (fun _ _ _ _ h=>h)) (va_cons (ve_var 0) (va_cons ve_int va_nil))) (fun _ _=>rfl)) va_nil))) va_nil)))
     (vss_one (vs_aug (i:=2) sc__law_prices.nd rfl (.inl rfl) (ve_add false ve_int (ve_sub_ix hu (ve_tup (va_cons ve_int (va_cons (ve_callP (ds:=[]) (dvs:=[]) (ss:=[.pos 0,.pos 1]) G__law_draw gd (hr.mono (by decide)) (by rfl) g__law_draw k__law_draw b__law_draw_2 (by intro us ws h1 h2; match us,h1,ws,h2 with | [_,_],_,[],_=>rfl) (fun _ _=>.nil) (passes_call (takes_of rfl rfl rfl rfl) (fun _ _ _ _ h=>h)) (va_cons (ve_var 0) (va_cons ve_int va_nil))) (va_cons (ve_callP (ds:=[]) (dvs:=[]) (ss:=[.pos 0,.pos 1]) G__law_draw gd (hr.mono (by decide)) (by rfl) g__law_draw k__law_draw b__law_draw_2 (by intro us ws h1 h2; match us,h1,ws,h2 with | [_,_],_,[],_=>rfl) (fun _ _=>.nil) (passes_call (takes_of rfl rfl rfl rfl) (fun _ _ _ _ h=>h)) (va_cons (ve_var 0) (va_cons ve_int va_nil))) va_nil)))) (ve_callP (ds:=[]) (dvs:=[]) (ss:=[.pos 0,.pos 1]) G__law_draw gd (hr.mono (by decide)) (by rfl) g__law_draw k__law_draw b__law_draw_2 (by intro us ws h1 h2; match us,h1,ws,h2 with | [_,_],_,[],_=>rfl) (fun _ _=>.nil) (passes_call (takes_of rfl rfl rfl rfl) (fun _ _ _ _ h=>h)) (va_cons (ve_var 0) (va_cons ve_int va_nil))) (fun _ _=>rfl))) oi_add))))))
     (vss_one (vs_ret (ve_callTy ob_tuple (by rfl) m_tuple (by decide +kernel) (va_cons (ve_var 1) va_nil))))))
theorem ok__law_menu {f__law_menu : Addr} {fd__law_menu : FuncData} (F_ : Fun K "_law_menu" "_law_menu" s__law_menu f__law_menu fd__law_menu) {f__law_draw : Addr} {fd__law_draw : FuncData} (G__law_draw : FnG P w K mg base (L2.CX P w) 2 f__law_draw fd__law_draw ["_law_feed_here","_law_many"] (spV K ⟨mg,w⟩ 2 F__law_draw_d535)) (k__law_draw : PySem.W.keepIn K (.ref f__law_draw) = true) (g__law_draw : mg "_law_draw" = some (.ref f__law_draw)) {f__law_prices : Addr} {fd__law_prices : FuncData} (G__law_prices : FnG P w K mg base (L2.CX P w) 3 f__law_prices fd__law_prices ["_law_feed_here"] (spV K ⟨mg,w⟩ 1 F__law_prices_d456)) (k__law_prices : PySem.W.keepIn K (.ref f__law_prices) = true) (g__law_prices : mg "_law_prices" = some (.ref f__law_prices)) {f__law_word : Addr} {fd__law_word : FuncData} (G__law_word : FnG P w K mg base (L2.CX P w) 3 f__law_word fd__law_word ["_law_feed_here","_law_found"] (spV K ⟨mg,w⟩ 2 F__law_word_ffbe)) (k__law_word : PySem.W.keepIn K (.ref f__law_word) = true) (g__law_word : mg "_law_word" = some (.ref f__law_word)) (b__law_draw_2 : BindV K fd__law_draw ["_law_feed_here","_law_many"] 2 [] [] [.pos 0,.pos 1]) (b__law_prices_1 : BindV K fd__law_prices ["_law_feed_here"] 1 [] [] [.pos 0]) (b__law_word_2 : BindV K fd__law_word ["_law_feed_here","_law_found"] 2 [] [] [.pos 0,.pos 1]) (m_range : mg "range" = none) (m_sorted : mg "sorted" = none) (m_tuple : mg "tuple" = none) : FnG P w K mg base (L2.CX P w) 4 f__law_menu fd__law_menu ["_law_feed_here","_law_many"] (spV K ⟨mg,w⟩ 2 F__law_menu_d501):=by
 refine gokV (k:=3) 0 F_ sc__law_menu fun cdv A gd outer s H E hr=>?_
 have hu:=hu65 hr
 exact (vss_cons (vs_set (i:=2) sc__law_menu.nd rfl (.inl rfl) (ve_lst true va_nil))
     (vss_cons (vs_for (passes_of rfl) rfl (vi_range1 (by rfl) m_range (va_cons (ve_var 1) va_nil)) (vg_name (i:=3) sc__law_menu.nd rfl (.inl rfl)) (vss_kill [3] (vss_one (vs_expr (ve_ml PySem.F.slot_list_append PySem.F.type_list_append om_append (ve_var 2) (va_cons (ve_callP (ds:=[]) (dvs:=[]) (ss:=[.pos 0,.pos 1]) G__law_word gd (hr.mono (by decide)) (by rfl) g__law_word k__law_word b__law_word_2 (by intro us ws h1 h2; match us,h1,ws,h2 with | [_,_],_,[],_=>rfl) (fun _ _=>.nil) (passes_call (takes_of rfl rfl rfl rfl) (fun _ _ _ _ h=>h)) (va_cons (ve_var 0) (va_cons (ve_var 2) va_nil))) va_nil))))))
     (vss_one (vs_ret (ve_callTy ob_tuple (by rfl) m_tuple (by decide +kernel) (va_cons (ve_lc false (own:=[("_law_word_here",4)]) (by decide) rfl sc__law_menu.nd (vi_seq (ve_callB (ob_sorted false) (by rfl) m_sorted (by decide +kernel) (va_cons (ve_var 2) va_nil))) (blkOk_by (own:=[("_law_word_here",4)]) (N:=["_law_feed_here","_law_many","_law_words","_law_k","_law_word_here"]) (sc:=defScope s__law_menu) (by decide +kernel)) (fun _ _ _ _ _=>(vg_name (i:=4) sc__law_menu.nd rfl (.inl rfl))) (fun _ _ _ _ _=>vts_nil) (fun _ _ _ _ _=>(ve_tup (va_cons (ve_var 4) (va_cons (ve_callP (ds:=[]) (dvs:=[]) (ss:=[.pos 0,.pos 1]) G__law_draw gd (hr.mono (by decide)) (by rfl) g__law_draw k__law_draw b__law_draw_2 (by intro us ws h1 h2; match us,h1,ws,h2 with | [_,_],_,[],_=>rfl) (fun _ _=>.nil) passL (va_cons (ve_var 0) (va_cons ve_int va_nil))) (va_cons (ve_callP (ds:=[]) (dvs:=[]) (ss:=[.pos 0]) G__law_prices gd (hr.mono (by decide)) (by rfl) g__law_prices k__law_prices b__law_prices_1 (by intro us ws h1 h2; match us,h1,ws,h2 with | [_],_,[],_=>rfl) (fun _ _=>.nil) passL (va_cons (ve_var 0) va_nil)) va_nil)))))) va_nil))))))
theorem ok__law_row {f__law_row : Addr} {fd__law_row : FuncData} (F_ : Fun K "_law_row" "_law_row" s__law_row f__law_row fd__law_row)  : FnG P w K mg base (L2.CX P w) 2 f__law_row fd__law_row ["_law_menu_here","_law_item"] (spV K ⟨mg,w⟩ 2 F__law_row_3c8c):=by
 refine gokV (k:=1) 0 F_ sc__law_row fun cdv A gd outer s H E hr=>?_
 have hu:=hu65 hr
 exact (vss_one (vs_ret (ve_sub_ix hu (ve_lc false (own:=[("_law_row_here",2)]) (by decide) rfl sc__law_row.nd (vi_seq (ve_var 0)) (blkOk_by (own:=[("_law_row_here",2)]) (N:=["_law_menu_here","_law_item","_law_row_here"]) (sc:=defScope s__law_row) (by decide +kernel)) (fun _ _ _ _ _=>(vg_name (i:=2) sc__law_row.nd rfl (.inl rfl))) (fun _ _ _ _ _=>(vts_one (OkC.vt (oc_eq hu) (ve_sub_ix hu (ve_var 2) ve_int (fun _ _=>rfl)) (ve_var 1) (nomark _)))) (fun _ _ _ _ _=>(ve_var 2))) ve_int (fun _ _=>rfl))))
theorem ok__law_pays {f__law_pays : Addr} {fd__law_pays : FuncData} (F_ : Fun K "_law_pays" "_law_pays" s__law_pays f__law_pays fd__law_pays) {f__law_row : Addr} {fd__law_row : FuncData} (G__law_row : FnG P w K mg base (L2.CX P w) 2 f__law_row fd__law_row ["_law_menu_here","_law_item"] (spV K ⟨mg,w⟩ 2 F__law_row_3c8c)) (k__law_row : PySem.W.keepIn K (.ref f__law_row) = true) (g__law_row : mg "_law_row" = some (.ref f__law_row)) (b__law_row_2 : BindV K fd__law_row ["_law_menu_here","_law_item"] 2 [] [] [.pos 0,.pos 1]) : FnG P w K mg base (L2.CX P w) 3 f__law_pays fd__law_pays ["_law_menu_here","_law_item","_law_minute"] (spV K ⟨mg,w⟩ 3 F__law_pays):=by
 refine gokV (k:=2) 0 F_ sc__law_pays fun cdv A gd outer s H E hr=>?_
 have hu:=hu65 hr
 exact (vss_cons (vs_for (passes_of rfl) rfl (vi_seq (ve_revT (ve_sub_ix hu (ve_callP (ds:=[]) (dvs:=[]) (ss:=[.pos 0, .pos 1]) G__law_row gd (hr.mono (by decide)) (by rfl) g__law_row k__law_row b__law_row_2 (by intro us ws h1 h2; match us, h1, ws, h2 with | [_, _], _, [], _ => rfl) (fun _ _ => .nil) (passes_call (takes_of rfl rfl rfl rfl) (fun _ _ _ _ h => h)) (va_cons (ve_var 0) (va_cons (ve_var 1) va_nil))) ve_int (fun _ _ => rfl)))) (vg_tup rfl (vgs_cons (vg_name (i:=3) sc__law_pays.nd rfl (.inl rfl)) (vgs_cons (vg_name (i:=4) sc__law_pays.nd rfl (.inl rfl)) vgs_nil))) (vss_kill [3, 4] (vss_one (vs_if (OkC.vt oc_ge (ve_sub (ve_var 2) (ve_var 3)) ve_int (nomark _)) (vss_one (vs_ret (ve_var 4))) vss_nil))))
     (vss_one (vs_ret ve_non)))
theorem ok__law_told {f__law_told : Addr} {fd__law_told : FuncData} (F_ : Fun K "_law_told" "_law_told" s__law_told f__law_told fd__law_told) {C_BillError : Addr} (g_BillError : mg "BillError" = some (.ref C_BillError)) {C_LostError : Addr} (g_LostError : mg "LostError" = some (.ref C_LostError)) {C_NoDish : Addr} (g_NoDish : mg "NoDish" = some (.ref C_NoDish)) {C_NoItem : Addr} (g_NoItem : mg "NoItem" = some (.ref C_NoItem)) (eo_NoItem_LostError : ∃ Ca,mg "NoItem" = some (.ref Ca) ∧ PySem.W.exmOne K (.ref Ca) (.ref C_LostError) = some true) (ki_NoItem_BillError_NoDish : ∃ Ca,mg "NoItem" = some (.ref Ca) ∧ IsC K Ca ∧ PySem.W.kitAny K (.ref Ca) [.ref C_BillError,.ref C_NoDish] = some false) (ki_NoItem_LookupError : ∃ Ca,mg "NoItem" = some (.ref Ca) ∧ IsC K Ca ∧ PySem.W.kitOne K (.ref Ca) (.type "LookupError") = some true) (ki_NoItem_NoItem : ∃ Ca,mg "NoItem" = some (.ref Ca) ∧ IsC K Ca ∧ PySem.W.kitOne K (.ref Ca) (.ref C_NoItem) = some true) (xf_NoItem_item : ∃ Ca,mg "NoItem" = some (.ref Ca) ∧ XfC K Ca ∧ PySem.W.findIn K (.ref Ca) "item" = some none) (m_LookupError : mg "LookupError" = none) (m_isinstance : mg "isinstance" = none) : LamG P w K mg base 1 f__law_told fd__law_told "_law_told" "_law_ask" F__law_told_ce03:=by
 refine gokL (k:=1) (body:=B__law_told_ce03) 0 F_ sc__law_told rfl (by first | exact .inl rfl | exact .inr (.inl rfl)) fun cdv A gd outer s H z hr act=>?_
 have hu:=hu65 hr
 exact (vssz_last (vsz_tryAs (i:=1) (L:=[("NoItem", true)]) rfl rfl sc__law_told.nd rfl rfl ⟨by rfl, by decide, .inl g_LostError⟩ (takes_of rfl rfl rfl rfl) (fun p hp => by
       rw [List.mem_singleton.mp hp]
       exact eo_NoItem_LostError) (fun W pn xe tkx=>(vssz_one (vsz_ret (vez_tup (vaz_cons (vez_of fun _=>ve_str) (vaz_cons (act pn xe (fun σ cls d H=>W cls d σ H) (fun σ=>passAt tkx σ) _ _) (vaz_of fun _=>va_nil))))))) (fun a oe cls d pn xc xf hz hf=>(vxss_one (vxs_if (PW.pt (vxw_and (vxt_val (vxe_is (z:=⟨1,a,cls,d,xc,xf⟩) (L:=[("NoItem",true)]) hz hf (.own C_NoItem) (pe_glob (v:=.ref C_NoItem) (by rfl) g_NoItem rfl) (fun q hq=>by rw [List.mem_singleton.mp hq]; exact ki_NoItem_NoItem) (by rfl) m_isinstance rfl (.inl rfl))) (vxw_and (vxt_val (vxe_is (z:=⟨1,a,cls,d,xc,xf⟩) (L:=[("NoItem",true)]) hz hf (.ty _) (pe_bltn (v:=.ty "LookupError") (u:=.type "LookupError") (by rfl) m_LookupError (by decide +kernel) rfl) (fun q hq=>by rw [List.mem_singleton.mp hq]; exact ki_NoItem_LookupError) (by rfl) m_isinstance rfl (.inl rfl))) (vxw_and1 (vxt_not (vxt_val (vxe_isT (z:=⟨1,a,cls,d,xc,xf⟩) (L:=[("NoItem",false)]) (us:=[.ref C_BillError,.ref C_NoDish]) hz hf (.cons (.own C_BillError) (.cons (.own C_NoDish) .nil)) (pe_tup (pa_cons (pe_glob (v:=.ref C_BillError) (by rfl) g_BillError rfl) (pa_cons (pe_glob (v:=.ref C_NoDish) (by rfl) g_NoDish rfl) pa_nil))) (fun σ H Q h=>⟨by show 2 ≤ sizeLine; decide,fun tp ntp=>h tp ntp⟩) (fun q hq=>by rw [List.mem_singleton.mp hq]; exact ki_NoItem_BillError_NoDish) (by rfl) m_isinstance rfl (.inl rfl)))))))) (vxss_one (vxs_ret (vxe_tup (vxa_cons (vxe_of ve_str) (vxa_cons (vxe_fld (z:=⟨1,a,cls,d,xc,xf⟩) hz hf (fun c hc=>by rw [List.mem_singleton.mp hc]; exact xf_NoItem_item) rfl (.inl rfl)) vxa_nil))))) (vxss_of vss_nil)))))
     (vss_one (vs_ret (ve_tup (va_cons ve_str va_nil)))))
theorem ok__law_grown {f__law_grown : Addr} {fd__law_grown : FuncData} (F_ : Fun K "_law_grown" "_law_grown" s__law_grown f__law_grown fd__law_grown) {f_price : Addr} {fd_price : FuncData} (G_price : FnG P w K mg base (L2.CX P w) 4 f_price fd_price ["menu","item","minute"] (spV K ⟨mg,w⟩ 3 F_price)) (k_price : PySem.W.keepIn K (.ref f_price) = true) (g_price : mg "price" = some (.ref f_price)) (b_price_3 : BindV K fd_price ["menu","item","minute"] 3 [] [.int 0] [.pos 0,.pos 1,.pos 2]) {C_NoItem : Addr} (g_NoItem : mg "NoItem" = some (.ref C_NoItem)) (eo_NoItem_NoItem : ∃ Ca,mg "NoItem" = some (.ref Ca) ∧ PySem.W.exmOne K (.ref Ca) (.ref C_NoItem) = some true) (xf_NoItem_item : ∃ Ca,mg "NoItem" = some (.ref Ca) ∧ XfC K Ca ∧ PySem.W.findIn K (.ref Ca) "item" = some none) : FnG P w K mg base (L2.CX P w) 5 f__law_grown fd__law_grown ["_law_menu_here"] (spV K ⟨mg,w⟩ 1 F__law_grown_6fdd):=by
 refine gokV (k:=4) 0 F_ sc__law_grown fun cdv A gd outer s H E hr=>?_
 have hu:=hu65 hr
 exact (vss_cons (vs_set (i:=1) sc__law_grown.nd rfl (.inl rfl) (ve_lst true (va_cons (ve_sub_ix hu (ve_sub_ix hu (ve_var 0) ve_int (fun _ _ => rfl)) ve_int (fun _ _ => rfl)) va_nil)))
     (vss_cons (vs_tryAs (i:=2) (L:=[("NoItem",true)]) rfl rfl sc__law_grown.nd rfl rfl ⟨by rfl,by decide,.inl g_NoItem⟩ (takes_of rfl rfl rfl rfl) (fun p hp=>by
       rw [List.mem_singleton.mp hp]
       exact eo_NoItem_NoItem) (fun W pn xe tkx=>(vssx_one (vsx_expr (vex_callP (ds:=[.int 0]) (dvs:=[.int 0]) (sr:=[.pos 0,.pos 1,.pos 2]) G_price gd (hr.mono (by decide)) (by rfl) g_price k_price b_price_3 (by intro us ws h1 h2; match us,h1,ws,h2 with | [_,_,_],_,[],_=>rfl) (fun _ _=>(.cons (.int _) .nil)) (fun σ=>passAt tkx σ) (fun _=>(va_cons (ve_var 0) (va_cons (ve_var 1) (va_cons ve_int va_nil)))))))) (fun a oe cls d pn xc xf hz hf=>(vxss_expr (ve_ml PySem.F.slot_list_append PySem.F.type_list_append om_append (ve_var 1) (va_cons ve_int va_nil)) (vxss_one (vxs_ret (OkC.vxe (oc_eq hu) (vxe_fld (z:=⟨2,a,cls,d,xc,xf⟩) hz hf (fun c hc=>by rw [List.mem_singleton.mp hc]; exact xf_NoItem_item) rfl (.inl rfl)) (vxe_of (ve_lst false (va_cons (ve_sub_ix hu (ve_sub_ix hu (ve_var 0) ve_int (fun _ _=>rfl)) ve_int (fun _ _=>rfl)) (va_cons ve_int va_nil)))) (nomark _)))))))
     (vss_one (vs_ret ve_bl))))
theorem ok__law_grown_minutes {f__law_grown_minutes : Addr} {fd__law_grown_minutes : FuncData} (F_ : Fun K "_law_grown_minutes" "_law_grown_minutes" s__law_grown_minutes f__law_grown_minutes fd__law_grown_minutes) {f_minutes_of : Addr} {fd_minutes_of : FuncData} (G_minutes_of : FnG P w K mg base (L2.CX P w) 4 f_minutes_of fd_minutes_of ["menu","item"] (spV K ⟨mg,w⟩ 2 F_minutes_of)) (k_minutes_of : PySem.W.keepIn K (.ref f_minutes_of) = true) (g_minutes_of : mg "minutes_of" = some (.ref f_minutes_of)) (b_minutes_of_2 : BindV K fd_minutes_of ["menu","item"] 2 [] [] [.pos 0,.pos 1]) {C_NoItem : Addr} (g_NoItem : mg "NoItem" = some (.ref C_NoItem)) (eo_NoItem_NoItem : ∃ Ca,mg "NoItem" = some (.ref Ca) ∧ PySem.W.exmOne K (.ref Ca) (.ref C_NoItem) = some true) (xf_NoItem_item : ∃ Ca,mg "NoItem" = some (.ref Ca) ∧ XfC K Ca ∧ PySem.W.findIn K (.ref Ca) "item" = some none) : FnG P w K mg base (L2.CX P w) 5 f__law_grown_minutes fd__law_grown_minutes ["_law_menu_here"] (spV K ⟨mg,w⟩ 1 F__law_grown_minutes):=by
 refine gokV (k:=4) 0 F_ sc__law_grown_minutes fun cdv A gd outer s H E hr=>?_
 have hu:=hu65 hr
 exact (vss_cons (vs_set (i:=1) sc__law_grown_minutes.nd rfl (.inl rfl) (ve_lst true (va_cons (ve_sub_ix hu (ve_sub_ix hu (ve_var 0) ve_int (fun _ _ => rfl)) ve_int (fun _ _ => rfl)) va_nil)))
     (vss_cons (vs_tryAs (i:=2) (L:=[("NoItem",true)]) rfl rfl sc__law_grown_minutes.nd rfl rfl ⟨by rfl,by decide,.inl g_NoItem⟩ (takes_of rfl rfl rfl rfl) (fun p hp=>by
       rw [List.mem_singleton.mp hp]
       exact eo_NoItem_NoItem) (fun W pn xe tkx=>(vssx_one (vsx_expr (vex_callP (ds:=[]) (dvs:=[]) (sr:=[.pos 0,.pos 1]) G_minutes_of gd (hr.mono (by decide)) (by rfl) g_minutes_of k_minutes_of b_minutes_of_2 (by intro us ws h1 h2; match us,h1,ws,h2 with | [_,_],_,[],_=>rfl) (fun _ _=>.nil) (fun σ=>passAt tkx σ) (fun _=>(va_cons (ve_var 0) (va_cons (ve_var 1) va_nil))))))) (fun a oe cls d pn xc xf hz hf=>(vxss_expr (ve_ml PySem.F.slot_list_append PySem.F.type_list_append om_append (ve_var 1) (va_cons ve_int va_nil)) (vxss_one (vxs_ret (OkC.vxe (oc_eq hu) (vxe_fld (z:=⟨2,a,cls,d,xc,xf⟩) hz hf (fun c hc=>by rw [List.mem_singleton.mp hc]; exact xf_NoItem_item) rfl (.inl rfl)) (vxe_of (ve_lst false (va_cons (ve_sub_ix hu (ve_sub_ix hu (ve_var 0) ve_int (fun _ _=>rfl)) ve_int (fun _ _=>rfl)) (va_cons ve_int va_nil)))) (nomark _)))))))
     (vss_one (vs_ret ve_bl))))
theorem ok__law_right {f__law_right : Addr} {fd__law_right : FuncData} (F_ : Fun K "_law_right" "_law_right" s__law_right f__law_right fd__law_right) {f__law_grown : Addr} {fd__law_grown : FuncData} (G__law_grown : FnG P w K mg base (L2.CX P w) 5 f__law_grown fd__law_grown ["_law_menu_here"] (spV K ⟨mg,w⟩ 1 F__law_grown_6fdd)) (k__law_grown : PySem.W.keepIn K (.ref f__law_grown) = true) (g__law_grown : mg "_law_grown" = some (.ref f__law_grown)) {f__law_grown_minutes : Addr} {fd__law_grown_minutes : FuncData} (G__law_grown_minutes : FnG P w K mg base (L2.CX P w) 5 f__law_grown_minutes fd__law_grown_minutes ["_law_menu_here"] (spV K ⟨mg,w⟩ 1 F__law_grown_minutes)) (k__law_grown_minutes : PySem.W.keepIn K (.ref f__law_grown_minutes) = true) (g__law_grown_minutes : mg "_law_grown_minutes" = some (.ref f__law_grown_minutes)) {f__law_pays : Addr} {fd__law_pays : FuncData} (G__law_pays : FnG P w K mg base (L2.CX P w) 3 f__law_pays fd__law_pays ["_law_menu_here","_law_item","_law_minute"] (spV K ⟨mg,w⟩ 3 F__law_pays)) (k__law_pays : PySem.W.keepIn K (.ref f__law_pays) = true) (g__law_pays : mg "_law_pays" = some (.ref f__law_pays)) {f__law_told : Addr} {fd__law_told : FuncData} (G__law_told : LamG P w K mg base 1 f__law_told fd__law_told "_law_told" "_law_ask" F__law_told_ce03) (k__law_told : PySem.W.keepIn K (.ref f__law_told) = true) (g__law_told : mg "_law_told" = some (.ref f__law_told)) {f_minutes_of : Addr} {fd_minutes_of : FuncData} (G_minutes_of : FnG P w K mg base (L2.CX P w) 4 f_minutes_of fd_minutes_of ["menu","item"] (spV K ⟨mg,w⟩ 2 F_minutes_of)) (k_minutes_of : PySem.W.keepIn K (.ref f_minutes_of) = true) (g_minutes_of : mg "minutes_of" = some (.ref f_minutes_of)) {f_price : Addr} {fd_price : FuncData} (G_price : FnG P w K mg base (L2.CX P w) 4 f_price fd_price ["menu","item","minute"] (spV K ⟨mg,w⟩ 3 F_price)) (k_price : PySem.W.keepIn K (.ref f_price) = true) (g_price : mg "price" = some (.ref f_price)) (b__law_grown_1 : BindV K fd__law_grown ["_law_menu_here"] 1 [] [] [.pos 0]) (b__law_grown_minutes_1 : BindV K fd__law_grown_minutes ["_law_menu_here"] 1 [] [] [.pos 0]) (b__law_pays_3 : BindV K fd__law_pays ["_law_menu_here","_law_item","_law_minute"] 3 [] [] [.pos 0,.pos 1,.pos 2]) (b__law_told_1 : BindV K fd__law_told ["_law_ask"] 1 [] [] [.pos 0]) (b_minutes_of_2 : BindV K fd_minutes_of ["menu","item"] 2 [] [] [.pos 0,.pos 1]) (b_price_3 : BindV K fd_price ["menu","item","minute"] 3 [] [.int 0] [.pos 0,.pos 1,.pos 2]) {c_ Pt_ : Addr} (hcode_ : fd__law_right.code = .ref c_) (TB_ : LamX.TabB base mg c_ Pt_) (tbL : tabL K = [(Pt_,(("_law_right" : Str) ++ ".<locals>." ++ "<lambda>" : Str))]) (m_repr : mg "repr" = none) : FnG P w K mg base (L2.CX P w) 7 f__law_right fd__law_right ["_law_menu_here","_law_minutes"] (spV K ⟨mg,w⟩ 2 F__law_right_515c):=by
 refine gokVC (k:=6) 0 F_ sc__law_right fun cdv A hc_ gd outer s H E hr=>?_
 have hu:=hu65 hr
 have hcode : cdv = .ref c_:=hc_.symm.trans hcode_
 exact (vss_cons (vs_for (passes_of rfl) rfl (vi_seq (ve_var 0)) (vg_tup rfl (vgs_cons (vg_name (i:=2) sc__law_right.nd rfl (.inl rfl)) (vgs_cons (vg_name (i:=3) sc__law_right.nd rfl (.inl rfl)) (vgs_cons (vg_name (i:=4) sc__law_right.nd rfl (.inl rfl)) vgs_nil)))) (vss_kill [2, 3, 4, 5] (vss_cons (vs_if (OkC.vt (oc_ne hu) (ve_callB (ob_repr gd hr.units) (by rfl) m_repr (by decide +kernel) (va_cons (ve_callP (ds:=[]) (dvs:=[]) (ss:=[.pos 0, .pos 1]) G_minutes_of gd (hr.mono (by decide)) (by rfl) g_minutes_of k_minutes_of b_minutes_of_2 (by intro us ws h1 h2; match us, h1, ws, h2 with | [_, _], _, [], _ => rfl) (fun _ _ => .nil) (passes_call (takes_of rfl rfl rfl rfl) (fun _ _ _ _ h => h)) (va_cons (ve_var 0) (va_cons (ve_var 2) va_nil))) va_nil)) (ve_callB (ob_repr gd hr.units) (by rfl) m_repr (by decide +kernel) (va_cons (ve_var 3) va_nil)) (nomark _)) (vss_one (vs_ret ve_bl)) vss_nil)
     (vss_one (vs_for (passes_of rfl) rfl (vi_seq (ve_var 1)) (vg_name (i:=5) sc__law_right.nd rfl (.inl rfl)) (vss_kill [5] (vss_one (vs_if (OkC.vt (oc_ne hu) (ve_callB (ob_repr gd hr.units) (by rfl) m_repr (by decide +kernel) (va_cons (ve_callP (ds:=[.int 0]) (dvs:=[.int 0]) (ss:=[.pos 0,.pos 1,.pos 2]) G_price gd (hr.mono (by decide)) (by rfl) g_price k_price b_price_3 (by intro us ws h1 h2; match us,h1,ws,h2 with | [_,_,_],_,[],_=>rfl) (fun _ _=>(.cons (.int _) .nil)) (passes_call (takes_of rfl rfl rfl rfl) (fun _ _ _ _ h=>h)) (va_cons (ve_var 0) (va_cons (ve_var 2) (va_cons (ve_var 5) va_nil)))) va_nil)) (ve_callB (ob_repr gd hr.units) (by rfl) m_repr (by decide +kernel) (va_cons (ve_callP (ds:=[]) (dvs:=[]) (ss:=[.pos 0,.pos 1,.pos 2]) G__law_pays gd (hr.mono (by decide)) (by rfl) g__law_pays k__law_pays b__law_pays_3 (by intro us ws h1 h2; match us,h1,ws,h2 with | [_,_,_],_,[],_=>rfl) (fun _ _=>.nil) (passes_call (takes_of rfl rfl rfl rfl) (fun _ _ _ _ h=>h)) (va_cons (ve_var 0) (va_cons (ve_var 2) (va_cons (ve_var 5) va_nil)))) va_nil)) (nomark _)) (vss_one (vs_ret ve_bl)) vss_nil))))))))
     (vss_cons (vs_setLc false (i:=6) (own:=[("_law_row_here",9)]) (by decide) rfl sc__law_right.nd rfl rfl (sw_true rfl rfl rfl (by decide +kernel)) (vi_seq (ve_var 0)) (blkOk_by (own:=[("_law_row_here",9)]) (N:=["_law_menu_here","_law_minutes","_law_item","_law_want","_law_prices_here","_law_minute","_law_words","_law_odd","_law_thing","_law_row_here"]) (sc:=defScope s__law_right) (by decide +kernel)) (fun _ _ _ _ _=>(vg_name (i:=9) sc__law_right.nd rfl (.inl rfl))) (fun _ _ _ _ _=>vts_nil) (fun _ _ _ _ _=>(ve_sub_ix hu (ve_var 9) ve_int (fun _ _=>rfl))))
     (vss_cons (vs_set (i:=7) sc__law_right.nd rfl (.inl rfl) (ve_lst false (va_cons ve_str (va_cons ve_str (va_cons ve_non (va_cons ve_bl (va_cons ve_int (va_cons (ve_tup va_nil) (va_cons (ve_lst false va_nil) (va_cons (ve_tup (va_cons ve_str va_nil)) (va_cons (ve_lst false (va_cons (ve_sub_ix hu (ve_var 6) ve_int (fun _ _=>rfl)) va_nil)) (va_cons (ve_tup (va_cons (ve_sub_ix hu (ve_var 6) ve_int (fun _ _=>rfl)) va_nil)) (va_cons (ve_sub_ix hu (ve_var 0) ve_int (fun _ _=>rfl)) (va_cons (ve_add false (ve_sub_ix hu (ve_var 6) ve_int (fun _ _=>rfl)) ve_str) (va_cons (ve_slice false (ve_sub_ix hu (ve_var 6) (ve_neg ve_int) (fun _ _=>rfl)) vo_none (vo_some (ve_neg ve_int))) va_nil)))))))))))))))
     (vss_cons (vs_for (passes_of rfl) rfl (vi_seq (ve_var 7)) (vg_name (i:=8) sc__law_right.nd rfl (.inr rfl)) (vss_kill [8] (vss_one (vs_if (OkC.vt (oc_notin hu) (ve_var 8) (ve_var 6) (by rfl)) (vss_cons (vs_if (OkC.vt (oc_ne hu) (ve_callB (ob_repr gd hr.units) (by rfl) m_repr (by decide +kernel) (va_cons (ve_lam (j:=4) G__law_told gd (hr.mono (by decide)) (by decide) (by rfl) g__law_told k__law_told b__law_told_1 TB_ hcode (show (Pt_,(("_law_right" : Str) ++ ".<locals>." ++ "<lambda>" : Str)) ∈ tabL K by rw [tbL]; exact List.mem_singleton.mpr rfl) (fun q hq _=>by
       have hq : q ∈ tabL K:=hq
       rw [tbL] at hq
       rw [List.mem_singleton.mp hq]
       rfl) (LamX.lamS_by (sc:=defScope s__law_right) (by decide +kernel)) (by rfl) (fun _ _ _ _ _=>rfl) (fun A outer s H E f_ c_ gd hr=>by
       have hu:=hu65 hr
       exact (ve_callP (ds:=[.int 0]) (dvs:=[.int 0]) (ss:=[.pos 0,.pos 1,.pos 2]) G_price gd (hr.mono (by decide)) (by rfl) g_price k_price b_price_3 (by intro us ws h1 h2; match us,h1,ws,h2 with | [_,_,_],_,[],_=>rfl) (fun _ _=>(.cons (.int _) .nil)) (passes_call (takes_of rfl rfl rfl rfl) (fun _ _ _ _ h=>h)) (va_cons (ve_var 0) (va_cons (ve_var 8) (va_cons ve_int va_nil)))))) va_nil)) (ve_callB (ob_repr gd hr.units) (by rfl) m_repr (by decide +kernel) (va_cons (ve_tup (va_cons ve_str (va_cons (ve_var 8) va_nil))) va_nil)) (nomark _)) (vss_one (vs_ret ve_bl)) vss_nil)
     (vss_one (vs_if (OkC.vt (oc_ne hu) (ve_callB (ob_repr gd hr.units) (by rfl) m_repr (by decide +kernel) (va_cons (ve_lam (j:=4) G__law_told gd (hr.mono (by decide)) (by decide) (by rfl) g__law_told k__law_told b__law_told_1 TB_ hcode (show (Pt_,(("_law_right" : Str) ++ ".<locals>." ++ "<lambda>" : Str)) ∈ tabL K by rw [tbL]; exact List.mem_singleton.mpr rfl) (fun q hq _=>by
       have hq : q ∈ tabL K:=hq
       rw [tbL] at hq
       rw [List.mem_singleton.mp hq]
       rfl) (LamX.lamS_by (sc:=defScope s__law_right) (by decide +kernel)) (by rfl) (fun _ _ _ _ _=>rfl) (fun A outer s H E f_ c_ gd hr=>by
       have hu:=hu65 hr
       exact (ve_callP (ds:=[]) (dvs:=[]) (ss:=[.pos 0,.pos 1]) G_minutes_of gd (hr.mono (by decide)) (by rfl) g_minutes_of k_minutes_of b_minutes_of_2 (by intro us ws h1 h2; match us,h1,ws,h2 with | [_,_],_,[],_=>rfl) (fun _ _=>.nil) (passes_call (takes_of rfl rfl rfl rfl) (fun _ _ _ _ h=>h)) (va_cons (ve_var 0) (va_cons (ve_var 8) va_nil))))) va_nil)) (ve_callB (ob_repr gd hr.units) (by rfl) m_repr (by decide +kernel) (va_cons (ve_tup (va_cons ve_str (va_cons (ve_var 8) va_nil))) va_nil)) (nomark _)) (vss_one (vs_ret ve_bl)) vss_nil))) vss_nil))))
     (vss_one (vs_ret (ve_and (ve_callP (ds:=[]) (dvs:=[]) (ss:=[.pos 0]) G__law_grown gd (hr.mono (by decide)) (by rfl) g__law_grown k__law_grown b__law_grown_1 (by intro us ws h1 h2; match us,h1,ws,h2 with | [_],_,[],_=>rfl) (fun _ _=>.nil) (passes_call (takes_of rfl rfl rfl rfl) (fun _ _ _ _ h=>h)) (va_cons (ve_var 0) va_nil)) (ve_one (ve_callP (ds:=[]) (dvs:=[]) (ss:=[.pos 0]) G__law_grown_minutes gd (hr.mono (by decide)) (by rfl) g__law_grown_minutes k__law_grown_minutes b__law_grown_minutes_1 (by intro us ws h1 h2; match us,h1,ws,h2 with | [_],_,[],_=>rfl) (fun _ _=>.nil) (passes_call (takes_of rfl rfl rfl rfl) (fun _ _ _ _ h=>h)) (va_cons (ve_var 0) va_nil))))))))))
theorem ok__law_by_hand {f__law_by_hand : Addr} {fd__law_by_hand : FuncData} (F_ : Fun K "_law_by_hand" "_law_by_hand" s__law_by_hand f__law_by_hand fd__law_by_hand) {f_minutes_of : Addr} {fd_minutes_of : FuncData} (G_minutes_of : FnG P w K mg base (L2.CX P w) 4 f_minutes_of fd_minutes_of ["menu","item"] (spV K ⟨mg,w⟩ 2 F_minutes_of)) (k_minutes_of : PySem.W.keepIn K (.ref f_minutes_of) = true) (g_minutes_of : mg "minutes_of" = some (.ref f_minutes_of)) {f_price : Addr} {fd_price : FuncData} (G_price : FnG P w K mg base (L2.CX P w) 4 f_price fd_price ["menu","item","minute"] (spV K ⟨mg,w⟩ 3 F_price)) (k_price : PySem.W.keepIn K (.ref f_price) = true) (g_price : mg "price" = some (.ref f_price)) (b_minutes_of_2 : BindV K fd_minutes_of ["menu","item"] 2 [] [] [.pos 0,.pos 1]) (b_price_3 : BindV K fd_price ["menu","item","minute"] 3 [] [.int 0] [.pos 0,.pos 1,.pos 2]) : FnG P w K mg base (L2.CX P w) 5 f__law_by_hand fd__law_by_hand [] (spV K ⟨mg,w⟩ 0 F__law_by_hand_ec0d):=by
 refine gokV (k:=4) 0 F_ sc__law_by_hand fun cdv A gd outer s H E hr=>?_
 have hu:=hu65 hr
 exact (vss_cons (vs_set (i:=0) sc__law_by_hand.nd rfl (.inr rfl) (ve_tup (va_cons (ve_tup (va_cons ve_str (va_cons ve_int (va_cons (ve_tup (va_cons (ve_tup (va_cons ve_int (va_cons ve_int va_nil))) (va_cons (ve_tup (va_cons ve_int (va_cons ve_int va_nil))) (va_cons (ve_tup (va_cons ve_int (va_cons ve_int va_nil))) (va_cons (ve_tup (va_cons ve_int (va_cons ve_int va_nil))) va_nil))))) va_nil)))) (va_cons (ve_tup (va_cons ve_str (va_cons ve_int (va_cons (ve_tup (va_cons (ve_tup (va_cons ve_int (va_cons ve_int va_nil))) va_nil)) va_nil)))) va_nil))))
     (vss_cons (vs_set (i:=1) sc__law_by_hand.nd rfl (.inl rfl) (ve_lst false (va_cons (ve_tup (va_cons ve_int (va_cons ve_int va_nil))) (va_cons (ve_tup (va_cons ve_int (va_cons ve_int va_nil))) (va_cons (ve_tup (va_cons ve_int (va_cons ve_int va_nil))) (va_cons (ve_tup (va_cons ve_int (va_cons ve_int va_nil))) (va_cons (ve_tup (va_cons ve_int (va_cons ve_int va_nil))) (va_cons (ve_tup (va_cons ve_int (va_cons ve_int va_nil))) (va_cons (ve_tup (va_cons ve_int (va_cons ve_int va_nil))) va_nil)))))))))
     (vss_cons (vs_if (OkC.vt (oc_ne hu) (ve_lc false (own:=[("_law_minute",2),("_law_pence",3)]) (by decide) rfl sc__law_by_hand.nd (vi_seq (ve_var 1)) (blkOk_by (own:=[("_law_minute",2),("_law_pence",3)]) (N:=["_law_menu_here","_law_rows","_law_minute","_law_pence"]) (sc:=defScope s__law_by_hand) (by decide +kernel)) (fun _ _ _ _ _=>(vg_tup rfl (vgs_cons (vg_name (i:=2) sc__law_by_hand.nd rfl (.inl rfl)) (vgs_cons (vg_name (i:=3) sc__law_by_hand.nd rfl (.inl rfl)) vgs_nil)))) (fun _ _ _ _ _=>vts_nil) (fun _ _ _ _ _=>(ve_callP (ds:=[.int 0]) (dvs:=[.int 0]) (ss:=[.pos 0,.pos 1,.pos 2]) G_price gd (hr.mono (by decide)) (by rfl) g_price k_price b_price_3 (by intro us ws h1 h2; match us,h1,ws,h2 with | [_,_,_],_,[],_=>rfl) (fun _ _=>(.cons (.int _) .nil)) passL (va_cons (ve_var 0) (va_cons ve_str (va_cons (ve_var 2) va_nil)))))) (ve_lc false (own:=[("_law_minute",2),("_law_pence",3)]) (by decide) rfl sc__law_by_hand.nd (vi_seq (ve_var 1)) (blkOk_by (own:=[("_law_minute",2),("_law_pence",3)]) (N:=["_law_menu_here","_law_rows","_law_minute","_law_pence"]) (sc:=defScope s__law_by_hand) (by decide +kernel)) (fun _ _ _ _ _=>(vg_tup rfl (vgs_cons (vg_name (i:=2) sc__law_by_hand.nd rfl (.inl rfl)) (vgs_cons (vg_name (i:=3) sc__law_by_hand.nd rfl (.inl rfl)) vgs_nil)))) (fun _ _ _ _ _=>vts_nil) (fun _ _ _ _ _=>(ve_var 3))) (nomark _)) (vss_one (vs_ret ve_bl)) vss_nil)
     (vss_one (vs_ret (ve_and (OkC.ve (oc_eq hu) (ve_callP (ds:=[.int 0]) (dvs:=[.int 0]) (ss:=[.pos 0,.pos 1,.pos 2]) G_price gd (hr.mono (by decide)) (by rfl) g_price k_price b_price_3 (by intro us ws h1 h2; match us,h1,ws,h2 with | [_,_,_],_,[],_=>rfl) (fun _ _=>(.cons (.int _) .nil)) (passes_call (takes_of rfl rfl rfl rfl) (fun _ _ _ _ h=>h)) (va_cons (ve_var 0) (va_cons ve_str (va_cons ve_int va_nil)))) ve_int (nomark _)) (ve_and (OkC.ve (oc_eq hu) (ve_callP (ds:=[]) (dvs:=[]) (ss:=[.pos 0,.pos 1]) G_minutes_of gd (hr.mono (by decide)) (by rfl) g_minutes_of k_minutes_of b_minutes_of_2 (by intro us ws h1 h2; match us,h1,ws,h2 with | [_,_],_,[],_=>rfl) (fun _ _=>.nil) (passes_call (takes_of rfl rfl rfl rfl) (fun _ _ _ _ h=>h)) (va_cons (ve_var 0) (va_cons ve_str va_nil))) ve_int (nomark _)) (ve_one (OkC.ve (oc_eq hu) (ve_callP (ds:=[]) (dvs:=[]) (ss:=[.pos 0,.pos 1]) G_minutes_of gd (hr.mono (by decide)) (by rfl) g_minutes_of k_minutes_of b_minutes_of_2 (by intro us ws h1 h2; match us,h1,ws,h2 with | [_,_],_,[],_=>rfl) (fun _ _=>.nil) (passes_call (takes_of rfl rfl rfl rfl) (fun _ _ _ _ h=>h)) (va_cons (ve_var 0) (va_cons ve_str va_nil))) ve_int (nomark _))))))))))
theorem ok_law {f_law : Addr} {fd_law : FuncData} (F_ : Fun K "law" "law" s_law f_law fd_law) {f__law_by_hand : Addr} {fd__law_by_hand : FuncData} (G__law_by_hand : FnG P w K mg base (L2.CX P w) 5 f__law_by_hand fd__law_by_hand [] (spV K ⟨mg,w⟩ 0 F__law_by_hand_ec0d)) (k__law_by_hand : PySem.W.keepIn K (.ref f__law_by_hand) = true) (g__law_by_hand : mg "_law_by_hand" = some (.ref f__law_by_hand)) {f__law_draw : Addr} {fd__law_draw : FuncData} (G__law_draw : FnG P w K mg base (L2.CX P w) 2 f__law_draw fd__law_draw ["_law_feed_here","_law_many"] (spV K ⟨mg,w⟩ 2 F__law_draw_d535)) (k__law_draw : PySem.W.keepIn K (.ref f__law_draw) = true) (g__law_draw : mg "_law_draw" = some (.ref f__law_draw)) {f__law_feed : Addr} {fd__law_feed : FuncData} (G__law_feed : FnG P w K mg base (L2.CX P w) 2 f__law_feed fd__law_feed ["_law_script"] (spV K ⟨mg,w⟩ 1 F__law_feed_6a37)) (k__law_feed : PySem.W.keepIn K (.ref f__law_feed) = true) (g__law_feed : mg "_law_feed" = some (.ref f__law_feed)) {f__law_menu : Addr} {fd__law_menu : FuncData} (G__law_menu : FnG P w K mg base (L2.CX P w) 4 f__law_menu fd__law_menu ["_law_feed_here","_law_many"] (spV K ⟨mg,w⟩ 2 F__law_menu_d501)) (k__law_menu : PySem.W.keepIn K (.ref f__law_menu) = true) (g__law_menu : mg "_law_menu" = some (.ref f__law_menu)) {f__law_right : Addr} {fd__law_right : FuncData} (G__law_right : FnG P w K mg base (L2.CX P w) 7 f__law_right fd__law_right ["_law_menu_here","_law_minutes"] (spV K ⟨mg,w⟩ 2 F__law_right_515c)) (k__law_right : PySem.W.keepIn K (.ref f__law_right) = true) (g__law_right : mg "_law_right" = some (.ref f__law_right)) (b__law_by_hand_0 : BindV K fd__law_by_hand [] 0 [] [] []) (b__law_draw_2 : BindV K fd__law_draw ["_law_feed_here","_law_many"] 2 [] [] [.pos 0,.pos 1]) (b__law_feed_1 : BindV K fd__law_feed ["_law_script"] 1 [] [] [.pos 0]) (b__law_menu_2 : BindV K fd__law_menu ["_law_feed_here","_law_many"] 2 [] [] [.pos 0,.pos 1]) (b__law_right_2 : BindV K fd__law_right ["_law_menu_here","_law_minutes"] 2 [] [] [.pos 0,.pos 1]) (m_len : mg "len" = none) (m_max : mg "max" = none) (m_min : mg "min" = none) (m_range : mg "range" = none) (m_repr : mg "repr" = none) : FnG P w K mg base (L2.CX P w) 8 f_law fd_law ["_law_script"] (spV K ⟨mg,w⟩ 1 F_law_4787):=by
 refine gokV (k:=7) 0 F_ sc_law fun cdv A gd outer s H E hr=>?_
 have hu:=hu65 hr
 exact (vss_cons (vs_set (i:=1) sc_law.nd rfl (.inl rfl) (ve_callP (ds:=[]) (dvs:=[]) (ss:=[.pos 0]) G__law_feed gd (hr.mono (by decide)) (by rfl) g__law_feed k__law_feed b__law_feed_1 (by intro us ws h1 h2; match us, h1, ws, h2 with | [_], _, [], _ => rfl) (fun _ _ => .nil) (passes_call (takes_of rfl rfl rfl rfl) (fun _ _ _ _ h => h)) (va_cons (ve_var 0) va_nil)))
     (vss_cons (vs_for (passes_of rfl) rfl (vi_range1 (by rfl) m_range (va_cons ve_int va_nil)) (vg_name (i:=2) sc_law.nd rfl (.inl rfl)) (vss_kill [2,3,4,5,6,7,8,9] (vss_cons (vs_set (i:=3) sc_law.nd rfl (.inl rfl) (ve_callP (ds:=[]) (dvs:=[]) (ss:=[.pos 0,.pos 1]) G__law_menu gd (hr.mono (by decide)) (by rfl) g__law_menu k__law_menu b__law_menu_2 (by intro us ws h1 h2; match us,h1,ws,h2 with | [_,_],_,[],_=>rfl) (fun _ _=>.nil) (passes_call (takes_of rfl rfl rfl rfl) (fun _ _ _ _ h=>h)) (va_cons (ve_var 1) (va_cons (ve_add false ve_int (ve_callP (ds:=[]) (dvs:=[]) (ss:=[.pos 0,.pos 1]) G__law_draw gd (hr.mono (by decide)) (by rfl) g__law_draw k__law_draw b__law_draw_2 (by intro us ws h1 h2; match us,h1,ws,h2 with | [_,_],_,[],_=>rfl) (fun _ _=>.nil) (passes_call (takes_of rfl rfl rfl rfl) (fun _ _ _ _ h=>h)) (va_cons (ve_var 1) (va_cons ve_int va_nil)))) va_nil))))
     (vss_cons (vs_set (i:=4) sc_law.nd rfl (.inl rfl) (ve_lst true (va_cons ve_int (va_cons ve_int (va_cons (ve_callP (ds:=[]) (dvs:=[]) (ss:=[.pos 0,.pos 1]) G__law_draw gd (hr.mono (by decide)) (by rfl) g__law_draw k__law_draw b__law_draw_2 (by intro us ws h1 h2; match us,h1,ws,h2 with | [_,_],_,[],_=>rfl) (fun _ _=>.nil) (passes_call (takes_of rfl rfl rfl rfl) (fun _ _ _ _ h=>h)) (va_cons (ve_var 1) (va_cons ve_int va_nil))) va_nil)))))
     (vss_cons (vs_for (passes_of rfl) rfl (vi_seq (ve_var 3)) (vg_tup rfl (vgs_cons (vg_name (i:=5) sc_law.nd rfl (.inl rfl)) (vgs_cons (vg_name (i:=6) sc_law.nd rfl (.inl rfl)) (vgs_cons (vg_name (i:=7) sc_law.nd rfl (.inl rfl)) vgs_nil)))) (vss_kill [5,6,7,8] (vss_cons (vs_set (i:=8) sc_law.nd rfl (.inl rfl) (ve_sub_ix hu (ve_sub_ix hu (ve_var 7) (ve_callP (ds:=[]) (dvs:=[]) (ss:=[.pos 0,.pos 1]) G__law_draw gd (hr.mono (by decide)) (by rfl) g__law_draw k__law_draw b__law_draw_2 (by intro us ws h1 h2; match us,h1,ws,h2 with | [_,_],_,[],_=>rfl) (fun _ _=>.nil) (passes_call (takes_of rfl rfl rfl rfl) (fun _ _ _ _ h=>h)) (va_cons (ve_var 1) (va_cons (ve_callB ob_len (by rfl) m_len (by decide +kernel) (va_cons (ve_var 7) va_nil)) va_nil))) (fun _ _=>rfl)) ve_int (fun _ _=>rfl)))
     (vss_one (vs_expr (ve_ml PySem.F.slot_list_extend PySem.F.type_list_extend om_extend (ve_var 4) (va_cons (ve_lst false (va_cons (ve_var 8) (va_cons (ve_callB (ob_max rfl) (by rfl) m_max (by decide +kernel) (va_cons ve_int (va_cons (ve_sub (ve_var 8) ve_int) va_nil))) (va_cons (ve_add false (ve_var 8) ve_int) va_nil)))) va_nil)))))))
     (vss_cons (vs_set (i:=9) sc_law.nd rfl (.inl rfl) (ve_callB (ob_repr gd hr.units) (by rfl) m_repr (by decide +kernel) (va_cons (ve_var 3) va_nil)))
     (vss_one (vs_if (PW.pt (vw_or (vt_not (vt_val (ve_callP (ds:=[]) (dvs:=[]) (ss:=[.pos 0,.pos 1]) G__law_right gd (hr.mono (by decide)) (by rfl) g__law_right k__law_right b__law_right_2 (by intro us ws h1 h2; match us,h1,ws,h2 with | [_,_],_,[],_=>rfl) (fun _ _=>.nil) (passes_call (takes_of rfl rfl rfl rfl) (fun _ _ _ _ h=>h)) (va_cons (ve_var 3) (va_cons (ve_lc false (own:=[("_law_minute",10)]) (by decide) rfl sc_law.nd (vi_seq (ve_var 4)) (blkOk_by (own:=[("_law_minute",10)]) (N:=["_law_script","_law_feed_here","_law_turn","_law_menu_here","_law_minutes","_law_item","_law_want","_law_prices_here","_law_begin","_law_kept","_law_minute"]) (sc:=defScope s_law) (by decide +kernel)) (fun _ _ _ _ _=>(vg_name (i:=10) sc_law.nd rfl (.inl rfl))) (fun _ _ _ _ _=>vts_nil) (fun _ _ _ _ _=>(ve_callB (ob_min rfl) (by rfl) m_min (by decide +kernel) (va_cons ve_int (va_cons (ve_var 10) va_nil))))) va_nil))))) (vw_or1 (OkC.vt (oc_ne hu) (ve_callB (ob_repr gd hr.units) (by rfl) m_repr (by decide +kernel) (va_cons (ve_var 3) va_nil)) (ve_var 9) (nomark _))))) (vss_one (vs_ret ve_bl)) vss_nil))))))))
     (vss_one (vs_ret (ve_callZ (ds:=[]) (dvs:=[]) (ss:=[]) G__law_by_hand gd (hr.mono (by decide)) (by rfl) g__law_by_hand k__law_by_hand b__law_by_hand_0 (by intro us ws h1 h2; match us,h1,ws,h2 with | [],_,[],_=>rfl) (fun _ _=>.nil) (passes_call (takes_of rfl rfl rfl rfl) (fun _ _ _ _ h=>h)) )))))
end
end V04
namespace V04
open PySem PySem.Spec PyProof.Rows L2 TB VL G
theorem all_mk {l : PySem.W.OpenLaw} {w : World} {K : PySem.W.Frag} {h : Heap} {mg : Str → Option Value} {fa : Addr} (X : K.In h) (G : h.Ns mainGlobals mg) (hfa : mg "law" = some (.ref fa))
   {f_menu_row : Addr} {od_menu_row : Option Addr} {an_menu_row : Option Addr} {sl_menu_row : Array (Option Value)} {oc_menu_row : Value} {kV_menu_row : Value} {dc_menu_row : Value} {pm_menu_row : Value} {cd_menu_row : Value} {ct_menu_row : Value}
   {f_price : Addr} {od_price : Option Addr} {an_price : Option Addr} {sl_price : Array (Option Value)} {oc_price : Value} {kV_price : Value} {dc_price : Value} {pm_price : Value} {cd_price : Value} {ct_price : Value}
   {T_price : Addr} {tc_price : Value} {td_price : Option Addr} {ts_price : Array (Option Value)} {tn_price : Nat} {tk0_price : Tok}
   {f_minutes_of : Addr} {od_minutes_of : Option Addr} {an_minutes_of : Option Addr} {sl_minutes_of : Array (Option Value)} {oc_minutes_of : Value} {kV_minutes_of : Value} {dc_minutes_of : Value} {pm_minutes_of : Value} {cd_minutes_of : Value} {ct_minutes_of : Value}
   {f__law_feed : Addr} {od__law_feed : Option Addr} {an__law_feed : Option Addr} {sl__law_feed : Array (Option Value)} {oc__law_feed : Value} {kV__law_feed : Value} {dc__law_feed : Value} {pm__law_feed : Value} {cd__law_feed : Value} {ct__law_feed : Value}
   {f__law_draw : Addr} {od__law_draw : Option Addr} {an__law_draw : Option Addr} {sl__law_draw : Array (Option Value)} {oc__law_draw : Value} {kV__law_draw : Value} {dc__law_draw : Value} {pm__law_draw : Value} {cd__law_draw : Value} {ct__law_draw : Value}
   {f__law_after : Addr} {od__law_after : Option Addr} {an__law_after : Option Addr} {sl__law_after : Array (Option Value)} {oc__law_after : Value} {kV__law_after : Value} {dc__law_after : Value} {pm__law_after : Value} {cd__law_after : Value} {ct__law_after : Value}
   {f__law_word : Addr} {od__law_word : Option Addr} {an__law_word : Option Addr} {sl__law_word : Array (Option Value)} {oc__law_word : Value} {kV__law_word : Value} {dc__law_word : Value} {pm__law_word : Value} {cd__law_word : Value} {ct__law_word : Value}
   {f__law_prices : Addr} {od__law_prices : Option Addr} {an__law_prices : Option Addr} {sl__law_prices : Array (Option Value)} {oc__law_prices : Value} {kV__law_prices : Value} {dc__law_prices : Value} {pm__law_prices : Value} {cd__law_prices : Value} {ct__law_prices : Value}
   {f__law_menu : Addr} {od__law_menu : Option Addr} {an__law_menu : Option Addr} {sl__law_menu : Array (Option Value)} {oc__law_menu : Value} {kV__law_menu : Value} {dc__law_menu : Value} {pm__law_menu : Value} {cd__law_menu : Value} {ct__law_menu : Value}
   {f__law_row : Addr} {od__law_row : Option Addr} {an__law_row : Option Addr} {sl__law_row : Array (Option Value)} {oc__law_row : Value} {kV__law_row : Value} {dc__law_row : Value} {pm__law_row : Value} {cd__law_row : Value} {ct__law_row : Value}
   {f__law_pays : Addr} {od__law_pays : Option Addr} {an__law_pays : Option Addr} {sl__law_pays : Array (Option Value)} {oc__law_pays : Value} {kV__law_pays : Value} {dc__law_pays : Value} {pm__law_pays : Value} {cd__law_pays : Value} {ct__law_pays : Value}
   {f__law_told : Addr} {od__law_told : Option Addr} {an__law_told : Option Addr} {sl__law_told : Array (Option Value)} {oc__law_told : Value} {kV__law_told : Value} {dc__law_told : Value} {pm__law_told : Value} {cd__law_told : Value} {ct__law_told : Value}
   {f__law_grown : Addr} {od__law_grown : Option Addr} {an__law_grown : Option Addr} {sl__law_grown : Array (Option Value)} {oc__law_grown : Value} {kV__law_grown : Value} {dc__law_grown : Value} {pm__law_grown : Value} {cd__law_grown : Value} {ct__law_grown : Value}
   {f__law_grown_minutes : Addr} {od__law_grown_minutes : Option Addr} {an__law_grown_minutes : Option Addr} {sl__law_grown_minutes : Array (Option Value)} {oc__law_grown_minutes : Value} {kV__law_grown_minutes : Value} {dc__law_grown_minutes : Value} {pm__law_grown_minutes : Value} {cd__law_grown_minutes : Value} {ct__law_grown_minutes : Value}
   {f__law_right : Addr} {od__law_right : Option Addr} {an__law_right : Option Addr} {sl__law_right : Array (Option Value)} {oc__law_right : Value} {kV__law_right : Value} {dc__law_right : Value} {pm__law_right : Value} {cd__law_right : Value} {ct__law_right : Value}
   {f__law_by_hand : Addr} {od__law_by_hand : Option Addr} {an__law_by_hand : Option Addr} {sl__law_by_hand : Array (Option Value)} {oc__law_by_hand : Value} {kV__law_by_hand : Value} {dc__law_by_hand : Value} {pm__law_by_hand : Value} {cd__law_by_hand : Value} {ct__law_by_hand : Value}
   {f_law : Addr} {od_law : Option Addr} {an_law : Option Addr} {sl_law : Array (Option Value)} {oc_law : Value} {kV_law : Value} {dc_law : Value} {pm_law : Value} {cd_law : Value} {ct_law : Value}
   {cc__law_right Pt_ : Addr}
   {C_BillError : Addr}
   {C_LostError : Addr}
   {C_NoDish : Addr}
   {C_NoItem : Addr}
   {N_NoItem fI_NoItem : Addr} {nm_NoItem qn_NoItem : Str} {bs_NoItem : List Value} {sn_NoItem : List Str} {sub_NoItem : List Value} {ab_NoItem : Bool} {col_NoItem : Option Bool} {dd_NoItem : Option Addr} {mma_NoItem mmb_NoItem mmc_NoItem mmd_NoItem mme_NoItem : Option Value}
   {odI_NoItem anI_NoItem : Option Addr} {slI_NoItem : Array (Option Value)} {ocI_NoItem kVI_NoItem dcI_NoItem pmI_NoItem cdI_NoItem ctI_NoItem : Value}
   (a_menu_row : PySem.W.nsIn K mainGlobals "menu_row" = some (some (.ref f_menu_row)))
   (l_menu_row : K.lookup f_menu_row = some ⟨oc_menu_row,od_menu_row,.func (PySem.W.fnOf "menu_row" "menu_row" (defArgs s_menu_row) (defBody s_menu_row) (defScope s_menu_row) .none kV_menu_row dc_menu_row pm_menu_row an_menu_row cd_menu_row ct_menu_row),sl_menu_row⟩)
   (c_menu_row : PySem.W.codeIn K cd_menu_row "menu_row" = true) (k_menu_row : PySem.W.keepIn K (.ref f_menu_row) = true)
   (a_price : PySem.W.nsIn K mainGlobals "price" = some (some (.ref f_price)))
   (l_price : K.lookup f_price = some ⟨oc_price,od_price,.func (PySem.W.fnOf "price" "price" (defArgs s_price) (defBody s_price) (defScope s_price) (.ref T_price) kV_price dc_price pm_price an_price cd_price ct_price),sl_price⟩)
   (c_price : PySem.W.codeIn K cd_price "price" = true) (k_price : PySem.W.keepIn K (.ref f_price) = true)
   (t_price : K.lookup T_price = some ⟨tc_price,td_price,.seq #[.int 0 tk0_price] tn_price,ts_price⟩)
   (a_minutes_of : PySem.W.nsIn K mainGlobals "minutes_of" = some (some (.ref f_minutes_of)))
   (l_minutes_of : K.lookup f_minutes_of = some ⟨oc_minutes_of,od_minutes_of,.func (PySem.W.fnOf "minutes_of" "minutes_of" (defArgs s_minutes_of) (defBody s_minutes_of) (defScope s_minutes_of) .none kV_minutes_of dc_minutes_of pm_minutes_of an_minutes_of cd_minutes_of ct_minutes_of),sl_minutes_of⟩)
   (c_minutes_of : PySem.W.codeIn K cd_minutes_of "minutes_of" = true) (k_minutes_of : PySem.W.keepIn K (.ref f_minutes_of) = true)
   (a__law_feed : PySem.W.nsIn K mainGlobals "_law_feed" = some (some (.ref f__law_feed)))
   (l__law_feed : K.lookup f__law_feed = some ⟨oc__law_feed,od__law_feed,.func (PySem.W.fnOf "_law_feed" "_law_feed" (defArgs s__law_feed) (defBody s__law_feed) (defScope s__law_feed) .none kV__law_feed dc__law_feed pm__law_feed an__law_feed cd__law_feed ct__law_feed),sl__law_feed⟩)
   (c__law_feed : PySem.W.codeIn K cd__law_feed "_law_feed" = true) (k__law_feed : PySem.W.keepIn K (.ref f__law_feed) = true)
   (a__law_draw : PySem.W.nsIn K mainGlobals "_law_draw" = some (some (.ref f__law_draw)))
   (l__law_draw : K.lookup f__law_draw = some ⟨oc__law_draw,od__law_draw,.func (PySem.W.fnOf "_law_draw" "_law_draw" (defArgs s__law_draw) (defBody s__law_draw) (defScope s__law_draw) .none kV__law_draw dc__law_draw pm__law_draw an__law_draw cd__law_draw ct__law_draw),sl__law_draw⟩)
   (c__law_draw : PySem.W.codeIn K cd__law_draw "_law_draw" = true) (k__law_draw : PySem.W.keepIn K (.ref f__law_draw) = true)
   (a__law_after : PySem.W.nsIn K mainGlobals "_law_after" = some (some (.ref f__law_after)))
   (l__law_after : K.lookup f__law_after = some ⟨oc__law_after,od__law_after,.func (PySem.W.fnOf "_law_after" "_law_after" (defArgs s__law_after) (defBody s__law_after) (defScope s__law_after) .none kV__law_after dc__law_after pm__law_after an__law_after cd__law_after ct__law_after),sl__law_after⟩)
   (c__law_after : PySem.W.codeIn K cd__law_after "_law_after" = true) (k__law_after : PySem.W.keepIn K (.ref f__law_after) = true)
   (a__law_word : PySem.W.nsIn K mainGlobals "_law_word" = some (some (.ref f__law_word)))
   (l__law_word : K.lookup f__law_word = some ⟨oc__law_word,od__law_word,.func (PySem.W.fnOf "_law_word" "_law_word" (defArgs s__law_word) (defBody s__law_word) (defScope s__law_word) .none kV__law_word dc__law_word pm__law_word an__law_word cd__law_word ct__law_word),sl__law_word⟩)
   (c__law_word : PySem.W.codeIn K cd__law_word "_law_word" = true) (k__law_word : PySem.W.keepIn K (.ref f__law_word) = true)
   (a__law_prices : PySem.W.nsIn K mainGlobals "_law_prices" = some (some (.ref f__law_prices)))
   (l__law_prices : K.lookup f__law_prices = some ⟨oc__law_prices,od__law_prices,.func (PySem.W.fnOf "_law_prices" "_law_prices" (defArgs s__law_prices) (defBody s__law_prices) (defScope s__law_prices) .none kV__law_prices dc__law_prices pm__law_prices an__law_prices cd__law_prices ct__law_prices),sl__law_prices⟩)
   (c__law_prices : PySem.W.codeIn K cd__law_prices "_law_prices" = true) (k__law_prices : PySem.W.keepIn K (.ref f__law_prices) = true)
   (a__law_menu : PySem.W.nsIn K mainGlobals "_law_menu" = some (some (.ref f__law_menu)))
   (l__law_menu : K.lookup f__law_menu = some ⟨oc__law_menu,od__law_menu,.func (PySem.W.fnOf "_law_menu" "_law_menu" (defArgs s__law_menu) (defBody s__law_menu) (defScope s__law_menu) .none kV__law_menu dc__law_menu pm__law_menu an__law_menu cd__law_menu ct__law_menu),sl__law_menu⟩)
   (c__law_menu : PySem.W.codeIn K cd__law_menu "_law_menu" = true) (k__law_menu : PySem.W.keepIn K (.ref f__law_menu) = true)
   (a__law_row : PySem.W.nsIn K mainGlobals "_law_row" = some (some (.ref f__law_row)))
   (l__law_row : K.lookup f__law_row = some ⟨oc__law_row,od__law_row,.func (PySem.W.fnOf "_law_row" "_law_row" (defArgs s__law_row) (defBody s__law_row) (defScope s__law_row) .none kV__law_row dc__law_row pm__law_row an__law_row cd__law_row ct__law_row),sl__law_row⟩)
   (c__law_row : PySem.W.codeIn K cd__law_row "_law_row" = true) (k__law_row : PySem.W.keepIn K (.ref f__law_row) = true)
   (a__law_pays : PySem.W.nsIn K mainGlobals "_law_pays" = some (some (.ref f__law_pays)))
   (l__law_pays : K.lookup f__law_pays = some ⟨oc__law_pays,od__law_pays,.func (PySem.W.fnOf "_law_pays" "_law_pays" (defArgs s__law_pays) (defBody s__law_pays) (defScope s__law_pays) .none kV__law_pays dc__law_pays pm__law_pays an__law_pays cd__law_pays ct__law_pays),sl__law_pays⟩)
   (c__law_pays : PySem.W.codeIn K cd__law_pays "_law_pays" = true) (k__law_pays : PySem.W.keepIn K (.ref f__law_pays) = true)
   (a__law_told : PySem.W.nsIn K mainGlobals "_law_told" = some (some (.ref f__law_told)))
   (l__law_told : K.lookup f__law_told = some ⟨oc__law_told,od__law_told,.func (PySem.W.fnOf "_law_told" "_law_told" (defArgs s__law_told) (defBody s__law_told) (defScope s__law_told) .none kV__law_told dc__law_told pm__law_told an__law_told cd__law_told ct__law_told),sl__law_told⟩)
   (c__law_told : PySem.W.codeIn K cd__law_told "_law_told" = true) (k__law_told : PySem.W.keepIn K (.ref f__law_told) = true)
   (a__law_grown : PySem.W.nsIn K mainGlobals "_law_grown" = some (some (.ref f__law_grown)))
   (l__law_grown : K.lookup f__law_grown = some ⟨oc__law_grown,od__law_grown,.func (PySem.W.fnOf "_law_grown" "_law_grown" (defArgs s__law_grown) (defBody s__law_grown) (defScope s__law_grown) .none kV__law_grown dc__law_grown pm__law_grown an__law_grown cd__law_grown ct__law_grown),sl__law_grown⟩)
   (c__law_grown : PySem.W.codeIn K cd__law_grown "_law_grown" = true) (k__law_grown : PySem.W.keepIn K (.ref f__law_grown) = true)
   (a__law_grown_minutes : PySem.W.nsIn K mainGlobals "_law_grown_minutes" = some (some (.ref f__law_grown_minutes)))
   (l__law_grown_minutes : K.lookup f__law_grown_minutes = some ⟨oc__law_grown_minutes,od__law_grown_minutes,.func (PySem.W.fnOf "_law_grown_minutes" "_law_grown_minutes" (defArgs s__law_grown_minutes) (defBody s__law_grown_minutes) (defScope s__law_grown_minutes) .none kV__law_grown_minutes dc__law_grown_minutes pm__law_grown_minutes an__law_grown_minutes cd__law_grown_minutes ct__law_grown_minutes),sl__law_grown_minutes⟩)
   (c__law_grown_minutes : PySem.W.codeIn K cd__law_grown_minutes "_law_grown_minutes" = true) (k__law_grown_minutes : PySem.W.keepIn K (.ref f__law_grown_minutes) = true)
   (a__law_right : PySem.W.nsIn K mainGlobals "_law_right" = some (some (.ref f__law_right)))
   (l__law_right : K.lookup f__law_right = some ⟨oc__law_right,od__law_right,.func (PySem.W.fnOf "_law_right" "_law_right" (defArgs s__law_right) (defBody s__law_right) (defScope s__law_right) .none kV__law_right dc__law_right pm__law_right an__law_right cd__law_right ct__law_right),sl__law_right⟩)
   (c__law_right : PySem.W.codeIn K cd__law_right "_law_right" = true) (k__law_right : PySem.W.keepIn K (.ref f__law_right) = true)
   (a__law_by_hand : PySem.W.nsIn K mainGlobals "_law_by_hand" = some (some (.ref f__law_by_hand)))
   (l__law_by_hand : K.lookup f__law_by_hand = some ⟨oc__law_by_hand,od__law_by_hand,.func (PySem.W.fnOf "_law_by_hand" "_law_by_hand" (defArgs s__law_by_hand) (defBody s__law_by_hand) (defScope s__law_by_hand) .none kV__law_by_hand dc__law_by_hand pm__law_by_hand an__law_by_hand cd__law_by_hand ct__law_by_hand),sl__law_by_hand⟩)
   (c__law_by_hand : PySem.W.codeIn K cd__law_by_hand "_law_by_hand" = true) (k__law_by_hand : PySem.W.keepIn K (.ref f__law_by_hand) = true)
   (a_law : PySem.W.nsIn K mainGlobals "law" = some (some (.ref f_law)))
   (l_law : K.lookup f_law = some ⟨oc_law,od_law,.func (PySem.W.fnOf "law" "law" (defArgs s_law) (defBody s_law) (defScope s_law) .none kV_law dc_law pm_law an_law cd_law ct_law),sl_law⟩)
   (c_law : PySem.W.codeIn K cd_law "law" = true) (k_law : PySem.W.keepIn K (.ref f_law) = true)
   (z_LookupError : PySem.W.nsIn K mainGlobals "LookupError" = some none)
   (z_isinstance : PySem.W.nsIn K mainGlobals "isinstance" = some none)
   (z_len : PySem.W.nsIn K mainGlobals "len" = some none)
   (z_max : PySem.W.nsIn K mainGlobals "max" = some none)
   (z_min : PySem.W.nsIn K mainGlobals "min" = some none)
   (z_range : PySem.W.nsIn K mainGlobals "range" = some none)
   (z_repr : PySem.W.nsIn K mainGlobals "repr" = some none)
   (z_sorted : PySem.W.nsIn K mainGlobals "sorted" = some none)
   (z_tuple : PySem.W.nsIn K mainGlobals "tuple" = some none)
   (hcd__law_right : cd__law_right = .ref cc__law_right)
   (hch : PySem.W.codeHdIn K cc__law_right Pt_ = true)
   (tb : tabL K = [(Pt_,(("_law_right" : Str) ++ ".<locals>." ++ "<lambda>" : Str))])
   (ac_BillError : PySem.W.nsIn K mainGlobals "BillError" = some (some (.ref C_BillError)))
   (ac_LostError : PySem.W.nsIn K mainGlobals "LostError" = some (some (.ref C_LostError)))
   (ac_NoDish : PySem.W.nsIn K mainGlobals "NoDish" = some (some (.ref C_NoDish)))
   (ac_NoItem : PySem.W.nsIn K mainGlobals "NoItem" = some (some (.ref C_NoItem)))
   (xl_NoItem : K.lookup C_NoItem = some (excClassObj nm_NoItem qn_NoItem C_NoItem N_NoItem bs_NoItem [.ref C_LostError,.type "LookupError",.type "Exception",.type "BaseException",.type "object"] true sn_NoItem sub_NoItem ab_NoItem col_NoItem dd_NoItem mma_NoItem mmb_NoItem mmc_NoItem mmd_NoItem mme_NoItem "LookupError.__new__"))
   (xs_NoItem : PySem.W.findIn K (.ref C_NoItem) "__setattr__" = some (some (.builtin "object.__setattr__")))
   (xk_NoItem : PySem.W.keepIn K (.ref C_NoItem) = true)
   (xb_NoItem : PySem.W.subIn K (.ref C_NoItem) (.type "BaseException") = some true)
   (xt_NoItem : PySem.W.typeIn K (.ref C_NoItem) = some (.type "type"))
   (xi_NoItem : PySem.W.findIn K (.ref C_NoItem) "__init__" = some (some (.ref fI_NoItem)))
   (xu_NoItem : PySem.W.typeIn K (.ref fI_NoItem) = some (.type "function"))
   (xj_NoItem : K.lookup fI_NoItem = some ⟨ocI_NoItem,odI_NoItem,.func (PySem.W.fnOf "__init__" "NoItem.__init__" (defArgs si_NoItem) (defBody si_NoItem) (defScope si_NoItem) .none kVI_NoItem dcI_NoItem pmI_NoItem anI_NoItem cdI_NoItem ctI_NoItem),slI_NoItem⟩)
   (xc_NoItem : PySem.W.codeIn K cdI_NoItem "NoItem.__init__" = true)
   (xp_NoItem : PySem.W.keepIn K (.ref fI_NoItem) = true)
   (xn_NoItem_item : PySem.W.findIn K (.ref C_NoItem) "item" = some none)
   (yb_LostError : PySem.W.subIn K (.ref C_LostError) (.type "BaseException") = some true)
   (yj_LostError : PySem.W.isClsIn K C_LostError = true)
   (yt_LostError : PySem.W.typeIn K (.ref C_LostError) = some (.type "type"))
   (fe_NoItem_LostError : PySem.W.subIn K (.ref C_NoItem) (.ref C_LostError) = some true)
   (yb_NoItem : PySem.W.subIn K (.ref C_NoItem) (.type "BaseException") = some true)
   (yj_NoItem : PySem.W.isClsIn K C_NoItem = true)
   (yt_NoItem : PySem.W.typeIn K (.ref C_NoItem) = some (.type "type"))
   (fe_NoItem_NoItem : PySem.W.subIn K (.ref C_NoItem) (.ref C_NoItem) = some true)
   (ij_NoItem : PySem.W.isClsIn K C_NoItem = true)
   (ia_NoItem : PySem.W.findIn K (.ref C_NoItem) "__getattribute__" = some (some (.builtin "BaseException.__getattribute__")))
   (ig_NoItem : PySem.W.findIn K (.ref C_NoItem) "__getattr__" = some none)
   (ib_NoItem : PySem.W.subIn K (.ref C_NoItem) (.type "BaseException") = some true)
   (ic_NoItem : PySem.W.findIn K (.ref C_NoItem) "__class__" = some (some (.builtin "object.__class__")))
   (im_NoItem : PySem.W.mroIn K C_NoItem (.type "object") = some true)
   (id_NoItem : PySem.W.hasDictIn K C_NoItem = true)
   (xgt : PySem.W.specialIn K (.builtin "object.__class__") "__get__" = some (some (.builtin "getset_descriptor.__get__")))
   (xtk : PySem.W.takesIn K (.builtin "object.__class__") = some true)
   (fk_NoItem_BillError_NoDish : PySem.W.kitAny K (.ref C_NoItem) [.ref C_BillError,.ref C_NoDish] = some false)
   (fk_NoItem_LookupError : PySem.W.kitOne K (.ref C_NoItem) (.type "LookupError") = some true)
   (fk_NoItem_NoItem : PySem.W.kitOne K (.ref C_NoItem) (.ref C_NoItem) = some true) :
   ∃ fd : FuncData,∃ cs : List (Addr × Addr),cs.map (·.2) = [Pt_] ∧ (∀ p ∈ cs,PySem.W.codeHdIn K p.1 p.2 = true) ∧ (∀ (s : Shared) (v : Value),BindsTo s fd ⟨[v],[]⟩ [("_law_script",v)]) ∧ ∀ base : Heap,K.In base → base.Ns mainGlobals mg → (∀ p ∈ cs,LamX.TabB base mg p.1 p.2) → FnG l.prog w K mg base CX0 8 fa fd ["_law_script"] (spLawT K):=by
 have e:=hfa.symm.trans (PySem.W.mg_of X G a_law)
 cases e
 have F_menu_row:=fun_mk (st:=s_menu_row) l_menu_row c_menu_row k_menu_row
 have b_menu_row_2:=bindV0 (ps:=["menu","item"]) F_menu_row 2 [] [.pos 0,.pos 1] (fun _ _ _ _ _ _ us ws h1 h2=>match us,h1,ws,h2 with | [_,_],_,[],_=>rfl)
 have g_menu_row:=PySem.W.mg_of X G a_menu_row
 have F_price : FunD K "price" "price" (defArgs s_price) (defBody s_price) (defScope s_price) [.int 0] [] f_price (PySem.W.fnOf "price" "price" (defArgs s_price) (defBody s_price) (defScope s_price) (.ref T_price) kV_price dc_price pm_price an_price cd_price ct_price) :=
   ⟨⟨oc_price,od_price,_,_,_,_,_,_,_,sl_price,rfl,l_price,c_price,.inr ⟨fun z=>(nomatch z),T_price,_,[.int 0 tk0_price],tn_price,rfl,t_price,rfl,.cons ⟨_,rfl⟩ (.nil)⟩,.inl rfl⟩,k_price⟩
 have b_price_3:=bindVD (ps:=["menu","item","minute"]) F_price (fun z=>(nomatch z)) 3 [] [.pos 0,.pos 1,.pos 2] (fun _ _ _ _ _ _ _ us ws its h1 h2 h3=>match us,h1,ws,h2,its,h3 with | [_,_,_],_,[],_,[_],_=>⟨_,rfl,rfl⟩)
 have g_price:=PySem.W.mg_of X G a_price
 have F_minutes_of:=fun_mk (st:=s_minutes_of) l_minutes_of c_minutes_of k_minutes_of
 have b_minutes_of_2:=bindV0 (ps:=["menu","item"]) F_minutes_of 2 [] [.pos 0,.pos 1] (fun _ _ _ _ _ _ us ws h1 h2=>match us,h1,ws,h2 with | [_,_],_,[],_=>rfl)
 have g_minutes_of:=PySem.W.mg_of X G a_minutes_of
 have F__law_feed:=fun_mk (st:=s__law_feed) l__law_feed c__law_feed k__law_feed
 have b__law_feed_1:=bindV0 (ps:=["_law_script"]) F__law_feed 1 [] [.pos 0] (fun _ _ _ _ _ _ us ws h1 h2=>match us,h1,ws,h2 with | [_],_,[],_=>rfl)
 have g__law_feed:=PySem.W.mg_of X G a__law_feed
 have F__law_draw:=fun_mk (st:=s__law_draw) l__law_draw c__law_draw k__law_draw
 have b__law_draw_2:=bindV0 (ps:=["_law_feed_here","_law_many"]) F__law_draw 2 [] [.pos 0,.pos 1] (fun _ _ _ _ _ _ us ws h1 h2=>match us,h1,ws,h2 with | [_,_],_,[],_=>rfl)
 have g__law_draw:=PySem.W.mg_of X G a__law_draw
 have F__law_after:=fun_mk (st:=s__law_after) l__law_after c__law_after k__law_after
 have b__law_after_1:=bindV0 (ps:=["_law_word_here"]) F__law_after 1 [] [.pos 0] (fun _ _ _ _ _ _ us ws h1 h2=>match us,h1,ws,h2 with | [_],_,[],_=>rfl)
 have g__law_after:=PySem.W.mg_of X G a__law_after
 have F__law_word:=fun_mk (st:=s__law_word) l__law_word c__law_word k__law_word
 have b__law_word_2:=bindV0 (ps:=["_law_feed_here","_law_found"]) F__law_word 2 [] [.pos 0,.pos 1] (fun _ _ _ _ _ _ us ws h1 h2=>match us,h1,ws,h2 with | [_,_],_,[],_=>rfl)
 have g__law_word:=PySem.W.mg_of X G a__law_word
 have F__law_prices:=fun_mk (st:=s__law_prices) l__law_prices c__law_prices k__law_prices
 have b__law_prices_1:=bindV0 (ps:=["_law_feed_here"]) F__law_prices 1 [] [.pos 0] (fun _ _ _ _ _ _ us ws h1 h2=>match us,h1,ws,h2 with | [_],_,[],_=>rfl)
 have g__law_prices:=PySem.W.mg_of X G a__law_prices
 have F__law_menu:=fun_mk (st:=s__law_menu) l__law_menu c__law_menu k__law_menu
 have b__law_menu_2:=bindV0 (ps:=["_law_feed_here","_law_many"]) F__law_menu 2 [] [.pos 0,.pos 1] (fun _ _ _ _ _ _ us ws h1 h2=>match us,h1,ws,h2 with | [_,_],_,[],_=>rfl)
 have g__law_menu:=PySem.W.mg_of X G a__law_menu
 have F__law_row:=fun_mk (st:=s__law_row) l__law_row c__law_row k__law_row
 have b__law_row_2:=bindV0 (ps:=["_law_menu_here","_law_item"]) F__law_row 2 [] [.pos 0,.pos 1] (fun _ _ _ _ _ _ us ws h1 h2=>match us,h1,ws,h2 with | [_,_],_,[],_=>rfl)
 have g__law_row:=PySem.W.mg_of X G a__law_row
 have F__law_pays:=fun_mk (st:=s__law_pays) l__law_pays c__law_pays k__law_pays
 have b__law_pays_3:=bindV0 (ps:=["_law_menu_here","_law_item","_law_minute"]) F__law_pays 3 [] [.pos 0,.pos 1,.pos 2] (fun _ _ _ _ _ _ us ws h1 h2=>match us,h1,ws,h2 with | [_,_,_],_,[],_=>rfl)
 have g__law_pays:=PySem.W.mg_of X G a__law_pays
 have F__law_told:=fun_mk (st:=s__law_told) l__law_told c__law_told k__law_told
 have b__law_told_1:=bindV0 (ps:=["_law_ask"]) F__law_told 1 [] [.pos 0] (fun _ _ _ _ _ _ us ws h1 h2=>match us,h1,ws,h2 with | [_],_,[],_=>rfl)
 have g__law_told:=PySem.W.mg_of X G a__law_told
 have F__law_grown:=fun_mk (st:=s__law_grown) l__law_grown c__law_grown k__law_grown
 have b__law_grown_1:=bindV0 (ps:=["_law_menu_here"]) F__law_grown 1 [] [.pos 0] (fun _ _ _ _ _ _ us ws h1 h2=>match us,h1,ws,h2 with | [_],_,[],_=>rfl)
 have g__law_grown:=PySem.W.mg_of X G a__law_grown
 have F__law_grown_minutes:=fun_mk (st:=s__law_grown_minutes) l__law_grown_minutes c__law_grown_minutes k__law_grown_minutes
 have b__law_grown_minutes_1:=bindV0 (ps:=["_law_menu_here"]) F__law_grown_minutes 1 [] [.pos 0] (fun _ _ _ _ _ _ us ws h1 h2=>match us,h1,ws,h2 with | [_],_,[],_=>rfl)
 have g__law_grown_minutes:=PySem.W.mg_of X G a__law_grown_minutes
 have F__law_right:=fun_mk (st:=s__law_right) l__law_right c__law_right k__law_right
 have b__law_right_2:=bindV0 (ps:=["_law_menu_here","_law_minutes"]) F__law_right 2 [] [.pos 0,.pos 1] (fun _ _ _ _ _ _ us ws h1 h2=>match us,h1,ws,h2 with | [_,_],_,[],_=>rfl)
 have g__law_right:=PySem.W.mg_of X G a__law_right
 have F__law_by_hand:=fun_mk (st:=s__law_by_hand) l__law_by_hand c__law_by_hand k__law_by_hand
 have b__law_by_hand_0:=bindV0 (ps:=[]) F__law_by_hand 0 [] [] (fun _ _ _ _ _ _ us ws h1 h2=>match us,h1,ws,h2 with | [],_,[],_=>rfl)
 have g__law_by_hand:=PySem.W.mg_of X G a__law_by_hand
 have F_law:=fun_mk (st:=s_law) l_law c_law k_law
 have g_law:=PySem.W.mg_of X G a_law
 have m_LookupError:=PySem.W.mg_none_of X G z_LookupError
 have m_isinstance:=PySem.W.mg_none_of X G z_isinstance
 have m_len:=PySem.W.mg_none_of X G z_len
 have m_max:=PySem.W.mg_none_of X G z_max
 have m_min:=PySem.W.mg_none_of X G z_min
 have m_range:=PySem.W.mg_none_of X G z_range
 have m_repr:=PySem.W.mg_none_of X G z_repr
 have m_sorted:=PySem.W.mg_none_of X G z_sorted
 have m_tuple:=PySem.W.mg_none_of X G z_tuple
 have g_BillError:=PySem.W.mg_of X G ac_BillError
 have g_LostError:=PySem.W.mg_of X G ac_LostError
 have g_NoDish:=PySem.W.mg_of X G ac_NoDish
 have g_NoItem:=PySem.W.mg_of X G ac_NoItem
 have T_NoItem : OexL K C_NoItem:=⟨⟨nm_NoItem,qn_NoItem,N_NoItem,bs_NoItem,_,sn_NoItem,sub_NoItem,ab_NoItem,col_NoItem,dd_NoItem,mma_NoItem,mmb_NoItem,mmc_NoItem,mmd_NoItem,mme_NoItem,(mroq_ref mroq_tail),xl_NoItem⟩,xs_NoItem,xb_NoItem,xt_NoItem,xk_NoItem⟩
 have FI_NoItem:=fun_mk (st:=si_NoItem) xj_NoItem xc_NoItem xp_NoItem
 have bI_NoItem:=FI_NoItem.binds (ps:=["self","item"]) fun _ _ _ _ _ _ us hl=>match us,hl with | [_,_],_=>rfl
 have IC_NoItem : IsC K C_NoItem:=⟨ij_NoItem,ia_NoItem,ig_NoItem,ib_NoItem,ic_NoItem,xgt,xtk,im_NoItem⟩
 have XC_NoItem : XfC K C_NoItem:=⟨ia_NoItem,ig_NoItem,ib_NoItem,id_NoItem⟩
 refine ⟨(PySem.W.fnOf "law" "law" (defArgs s_law) (defBody s_law) (defScope s_law) .none kV_law dc_law pm_law an_law cd_law ct_law),[(cc__law_right,Pt_)],rfl,(fun p hp=>by rw [List.mem_singleton.mp hp]; exact hch),fun s v=>.of_eq rfl,fun base _ _ hTB=>?_⟩
 have x_NoItem : ExM l.prog w K mg base "NoItem" ["item"]:=exm_le1 g_NoItem T_NoItem xi_NoItem xu_NoItem (oki_NoItem T_NoItem xn_NoItem_item FI_NoItem) bI_NoItem
 have eo_NoItem_LostError : ∃ Ca,mg "NoItem" = some (.ref Ca) ∧ PySem.W.exmOne K (.ref Ca) (.ref C_LostError) = some true:=⟨C_NoItem,g_NoItem,exm_sub yb_LostError yj_LostError yt_LostError fe_NoItem_LostError⟩
 have eo_NoItem_NoItem : ∃ Ca,mg "NoItem" = some (.ref Ca) ∧ PySem.W.exmOne K (.ref Ca) (.ref C_NoItem) = some true:=⟨C_NoItem,g_NoItem,exm_sub yb_NoItem yj_NoItem yt_NoItem fe_NoItem_NoItem⟩
 have ki_NoItem_BillError_NoDish : ∃ Ca,mg "NoItem" = some (.ref Ca) ∧ IsC K Ca ∧ PySem.W.kitAny K (.ref Ca) [.ref C_BillError,.ref C_NoDish] = some false:=⟨C_NoItem,g_NoItem,IC_NoItem,fk_NoItem_BillError_NoDish⟩
 have ki_NoItem_LookupError : ∃ Ca,mg "NoItem" = some (.ref Ca) ∧ IsC K Ca ∧ PySem.W.kitOne K (.ref Ca) (.type "LookupError") = some true:=⟨C_NoItem,g_NoItem,IC_NoItem,fk_NoItem_LookupError⟩
 have ki_NoItem_NoItem : ∃ Ca,mg "NoItem" = some (.ref Ca) ∧ IsC K Ca ∧ PySem.W.kitOne K (.ref Ca) (.ref C_NoItem) = some true:=⟨C_NoItem,g_NoItem,IC_NoItem,fk_NoItem_NoItem⟩
 have xf_NoItem_item : ∃ Ca,mg "NoItem" = some (.ref Ca) ∧ XfC K Ca ∧ PySem.W.findIn K (.ref Ca) "item" = some none:=⟨C_NoItem,g_NoItem,XC_NoItem,xn_NoItem_item⟩
 have G_menu_row:=ok_menu_row (P:=l.prog) (w:=w) (mg:=mg) (base:=base) F_menu_row x_NoItem
 have G_price:=ok_price (P:=l.prog) (w:=w) (mg:=mg) (base:=base) F_price G_menu_row k_menu_row g_menu_row b_menu_row_2
 have G_minutes_of:=ok_minutes_of (P:=l.prog) (w:=w) (mg:=mg) (base:=base) F_minutes_of G_menu_row k_menu_row g_menu_row b_menu_row_2
 have G__law_feed:=ok__law_feed (P:=l.prog) (w:=w) (mg:=mg) (base:=base) F__law_feed 
 have G__law_draw:=ok__law_draw (P:=l.prog) (w:=w) (mg:=mg) (base:=base) F__law_draw m_len
 have G__law_after:=ok__law_after (P:=l.prog) (w:=w) (mg:=mg) (base:=base) F__law_after m_len
 have G__law_word:=ok__law_word (P:=l.prog) (w:=w) (mg:=mg) (base:=base) F__law_word G__law_after k__law_after g__law_after G__law_draw k__law_draw g__law_draw b__law_after_1 b__law_draw_2 m_len m_range
 have G__law_prices:=ok__law_prices (P:=l.prog) (w:=w) (mg:=mg) (base:=base) F__law_prices G__law_draw k__law_draw g__law_draw b__law_draw_2 m_range m_tuple
 have G__law_menu:=ok__law_menu (P:=l.prog) (w:=w) (mg:=mg) (base:=base) F__law_menu G__law_draw k__law_draw g__law_draw G__law_prices k__law_prices g__law_prices G__law_word k__law_word g__law_word b__law_draw_2 b__law_prices_1 b__law_word_2 m_range m_sorted m_tuple
 have G__law_row:=ok__law_row (P:=l.prog) (w:=w) (mg:=mg) (base:=base) F__law_row 
 have G__law_pays:=ok__law_pays (P:=l.prog) (w:=w) (mg:=mg) (base:=base) F__law_pays G__law_row k__law_row g__law_row b__law_row_2
 have G__law_told:=ok__law_told (P:=l.prog) (w:=w) (mg:=mg) (base:=base) F__law_told g_BillError g_LostError g_NoDish g_NoItem eo_NoItem_LostError ki_NoItem_BillError_NoDish ki_NoItem_LookupError ki_NoItem_NoItem xf_NoItem_item m_LookupError m_isinstance
 have G__law_grown:=ok__law_grown (P:=l.prog) (w:=w) (mg:=mg) (base:=base) F__law_grown G_price k_price g_price b_price_3 g_NoItem eo_NoItem_NoItem xf_NoItem_item
 have G__law_grown_minutes:=ok__law_grown_minutes (P:=l.prog) (w:=w) (mg:=mg) (base:=base) F__law_grown_minutes G_minutes_of k_minutes_of g_minutes_of b_minutes_of_2 g_NoItem eo_NoItem_NoItem xf_NoItem_item
 have G__law_right:=ok__law_right (P:=l.prog) (w:=w) (mg:=mg) (base:=base) F__law_right G__law_grown k__law_grown g__law_grown G__law_grown_minutes k__law_grown_minutes g__law_grown_minutes G__law_pays k__law_pays g__law_pays G__law_told k__law_told g__law_told G_minutes_of k_minutes_of g_minutes_of G_price k_price g_price b__law_grown_1 b__law_grown_minutes_1 b__law_pays_3 b__law_told_1 b_minutes_of_2 b_price_3 hcd__law_right (hTB _ (List.mem_singleton.mpr rfl)) tb m_repr
 have G__law_by_hand:=ok__law_by_hand (P:=l.prog) (w:=w) (mg:=mg) (base:=base) F__law_by_hand G_minutes_of k_minutes_of g_minutes_of G_price k_price g_price b_minutes_of_2 b_price_3
 have G_law:=ok_law (P:=l.prog) (w:=w) (mg:=mg) (base:=base) F_law G__law_by_hand k__law_by_hand g__law_by_hand G__law_draw k__law_draw g__law_draw G__law_feed k__law_feed g__law_feed G__law_menu k__law_menu g__law_menu G__law_right k__law_right g__law_right b__law_by_hand_0 b__law_draw_2 b__law_feed_1 b__law_menu_2 b__law_right_2 m_len m_max m_min m_range m_repr
 exact endVT law_true G_law
theorem tab_in {K : PySem.W.Frag} {b : Addr} (e : (tabL K).map (·.1) = [b]) : ∀ p ∈ tabL K,p.1 ∈ [b]:=fun p hp=>by
 rw [← e]
 exact List.mem_map_of_mem hp
end V04
open PySem PySem.W PyProof.Rows
set_option maxHeartbeats 0 in
theorem PySem.Challenge.cw_tablebills_k04_prices_by_hour_holds : PySem.Challenge.rw_tablebills_k04_prices_by_hour.Holds := by
 w_on; o_law; k_head; (case hw=>w_witness2)
 k_fill
 refine TB.walkU (l:=PySem.Challenge.rw_tablebills_k04_prices_by_hour) (k:=8) (x:="_law_script") (Ps:=[_]) rfl rfl (fun w h Y=>PySem.W.km_in_of Y) (fun w h Y=>PySem.W.km_tabs_of Y) ?nT ?hq ⟨rfl,by decide,by decide⟩ ?F
 case F =>
   intro w mg fa h KX G hmg
   refine' V04.all_mk (w:=w) KX G hmg ?a_menu_row ?l_menu_row ?c_menu_row ?k_menu_row ?a_price ?l_price ?c_price ?k_price ?t_price ?a_minutes_of ?l_minutes_of ?c_minutes_of ?k_minutes_of ?a__law_feed ?l__law_feed ?c__law_feed ?k__law_feed ?a__law_draw ?l__law_draw ?c__law_draw ?k__law_draw ?a__law_after ?l__law_after ?c__law_after ?k__law_after ?a__law_word ?l__law_word ?c__law_word ?k__law_word ?a__law_prices ?l__law_prices ?c__law_prices ?k__law_prices ?a__law_menu ?l__law_menu ?c__law_menu ?k__law_menu ?a__law_row ?l__law_row ?c__law_row ?k__law_row ?a__law_pays ?l__law_pays ?c__law_pays ?k__law_pays ?a__law_told ?l__law_told ?c__law_told ?k__law_told ?a__law_grown ?l__law_grown ?c__law_grown ?k__law_grown ?a__law_grown_minutes ?l__law_grown_minutes ?c__law_grown_minutes ?k__law_grown_minutes ?a__law_right ?l__law_right ?c__law_right ?k__law_right ?a__law_by_hand ?l__law_by_hand ?c__law_by_hand ?k__law_by_hand ?a_law ?l_law ?c_law ?k_law ?z_LookupError ?z_isinstance ?z_len ?z_max ?z_min ?z_range ?z_repr ?z_sorted ?z_tuple ?hcd__law_right ?hch ?tb ?ac_BillError ?ac_LostError ?ac_NoDish ?ac_NoItem ?xl_NoItem ?xs_NoItem ?xk_NoItem ?xb_NoItem ?xt_NoItem ?xi_NoItem ?xu_NoItem ?xj_NoItem ?xc_NoItem ?xp_NoItem ?xn_NoItem_item ?yb_LostError ?yj_LostError ?yt_LostError ?fe_NoItem_LostError ?yb_NoItem ?yj_NoItem ?yt_NoItem ?fe_NoItem_NoItem ?ij_NoItem ?ia_NoItem ?ig_NoItem ?ib_NoItem ?ic_NoItem ?im_NoItem ?id_NoItem ?xgt ?xtk ?fk_NoItem_BillError_NoDish ?fk_NoItem_LookupError ?fk_NoItem_NoItem
   (case ac_BillError=>k_is); (case ac_LostError=>k_is); (case ac_NoDish=>k_is); (case ac_NoItem=>k_is); (case xi_NoItem=>k_is); (case a_menu_row=>k_is); (case l_menu_row=>k_is); (case c_menu_row=>k_is); (case k_menu_row=>k_is); (case a_price=>k_is); (case l_price=>k_is); (case c_price=>k_is); (case k_price=>k_is); (case t_price=>k_is); (case a_minutes_of=>k_is); (case l_minutes_of=>k_is); (case c_minutes_of=>k_is); (case k_minutes_of=>k_is); (case a__law_feed=>k_is); (case l__law_feed=>k_is); (case c__law_feed=>k_is); (case k__law_feed=>k_is); (case a__law_draw=>k_is); (case l__law_draw=>k_is); (case c__law_draw=>k_is); (case k__law_draw=>k_is); (case a__law_after=>k_is); (case l__law_after=>k_is); (case c__law_after=>k_is); (case k__law_after=>k_is); (case a__law_word=>k_is); (case l__law_word=>k_is); (case c__law_word=>k_is); (case k__law_word=>k_is); (case a__law_prices=>k_is); (case l__law_prices=>k_is); (case c__law_prices=>k_is); (case k__law_prices=>k_is); (case a__law_menu=>k_is); (case l__law_menu=>k_is); (case c__law_menu=>k_is); (case k__law_menu=>k_is); (case a__law_row=>k_is); (case l__law_row=>k_is); (case c__law_row=>k_is); (case k__law_row=>k_is); (case a__law_pays=>k_is); (case l__law_pays=>k_is); (case c__law_pays=>k_is); (case k__law_pays=>k_is); (case a__law_told=>k_is); (case l__law_told=>k_is); (case c__law_told=>k_is); (case k__law_told=>k_is); (case a__law_grown=>k_is); (case l__law_grown=>k_is); (case c__law_grown=>k_is); (case k__law_grown=>k_is); (case a__law_grown_minutes=>k_is); (case l__law_grown_minutes=>k_is); (case c__law_grown_minutes=>k_is); (case k__law_grown_minutes=>k_is); (case a__law_right=>k_is); (case l__law_right=>k_is); (case c__law_right=>k_is); (case k__law_right=>k_is); (case a__law_by_hand=>k_is); (case l__law_by_hand=>k_is); (case c__law_by_hand=>k_is); (case k__law_by_hand=>k_is); (case a_law=>k_is); (case l_law=>k_is); (case c_law=>k_is); (case k_law=>k_is); (case z_LookupError=>k_is); (case z_isinstance=>k_is); (case z_len=>k_is); (case z_max=>k_is); (case z_min=>k_is); (case z_range=>k_is); (case z_repr=>k_is); (case z_sorted=>k_is); (case z_tuple=>k_is); (case xl_NoItem=>k_is); (case xs_NoItem=>k_is); (case xk_NoItem=>k_is); (case xb_NoItem=>k_is); (case xt_NoItem=>k_is); (case xu_NoItem=>k_is); (case xj_NoItem=>k_is); (case xc_NoItem=>k_is); (case xp_NoItem=>k_is); (case xn_NoItem_item=>k_is); (case yb_LostError=>k_is); (case yj_LostError=>k_is); (case yt_LostError=>k_is); (case fe_NoItem_LostError=>k_is); (case yb_NoItem=>k_is); (case yj_NoItem=>k_is); (case yt_NoItem=>k_is); (case fe_NoItem_NoItem=>k_is); (case ij_NoItem=>k_is); (case ia_NoItem=>k_is); (case ig_NoItem=>k_is); (case ib_NoItem=>k_is); (case ic_NoItem=>k_is); (case im_NoItem=>k_is); (case id_NoItem=>k_is); (case xgt=>k_is); (case xtk=>k_is); (case fk_NoItem_BillError_NoDish=>kit_is); (case fk_NoItem_LookupError=>kit_is); (case fk_NoItem_NoItem=>kit_is)
   (case hcd__law_right=>rfl); (case tb=>kernel_rfl); (case hch=>kernel_rfl)
 case nT=>intro w p hp; rw [List.mem_singleton.mp hp]; kernel_rfl
 case hq=>exact fun w=>V04.tab_in (by kernel_rfl)
