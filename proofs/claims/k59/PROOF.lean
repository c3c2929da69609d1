import PyProof.Rows.All
import Wide.All
import OpenK.AllK
import Wide.FinOn
import HandS.ForMost
import HandS.Wide
import HandS.Defaults
import HandS.Flow
import HandS.Style
import HandS.IsInst
import HandS.MakeKw
import HandS.Exc
import HandS.WordsExc
import HandS.Lambda
import HandS.Zip
import HandS.TupAny
import HandS.RaiseMore
import HandS.TupMul
import KE.GoesMore
import HandS.Walk
import KE.GoesEnum
import KE.KExcIs
import HandS.ForExc
import HandS.ExcInit
import HandS.ExcField
import PyProof.Rows.IntBool
import HandS.Text
import HandS.Replace
import HandS.Deep
import HandS.TupLe
import KE.KMinKey
import HandS.SortKw
import PyProof.AutoSeq1
import HandS.WordsDict
import HandS.TryOnly
import HandS.SortInts
import HandS.More
import KE.KDictPairs
import KE.KDictOf
import HandS.Conv
import HandS.SetFor
import HandS.SetTxt0
import HandS.TupSets
import PyProof.Rows.SortShellAny
import HandS.StrMore
import HandS.Strs
import HandS.ExcOwn
import KE.KDictKeyed
import HandS.SortRule
import HandS.DictTup
import HandS.HotCalls
import KE.KDictSum
import KE.SortData
import PySem.Challenge.RW_tablebills_k59_whole_row_or_full
set_option Elab.async false
set_option linter.all false
set_option maxHeartbeats 4000000
set_option maxRecDepth 100000
namespace TB
open PySem PySem.Spec PyProof.Rows L2
section
variable (P:Program) (w:World) (K:PySem.W.Frag) (mg:Str→Option Value) (base:Heap)
structure FnG (CX:CXT) (k:Nat) (f:Addr) (fd:FuncData) (ps:List Str) (sp:Sp):Prop where
 len:∀ xs G R Z,sp xs G R Z→xs.length=ps.length
 run:∀ (A:Around),A.guards=some []→Room k A →
   ∀ (outer:List Env) (s:Shared) (H:Hp),Env0 P w K mg base A outer s H →
   ∀ (args:Args) (us:List Value) (vs:List V),BindsTo s fd args (ps.zip us)→Vals vs us →
   ∀ (Q:VK) (E:XK),sp vs H Q E →
     codeAny (model P w) A (Code.call (Value.ref f) args)
       (CR CX outer P w H s Q E) s
end
section
variable {P:Program} {w:World} {K:PySem.W.Frag} {mg:Str→Option Value} {base:Heap} {CX:CXT}
theorem FnG.of {k : Nat} {f : Addr} {fd : FuncData} {ps : List Str} {sp : Sp}
   (F:FnOk P w K mg base CX k f fd ps sp):FnG P w K mg base CX k f fd ps sp :=
 ⟨F.len,fun A _ hr outer s H e0 args us vs hb r Q E h=>F.run A outer s H args us vs Q E hr e0 hb r h⟩
/-- the body's walk gives the promise -/
theorem gfn {k : Nat} {f : Addr} {nm qual : Str} {prm : Arguments} {bd : List Stmt} {sc : Scope} {dV kV doc pm cdv ct oc : Value} {an od : Option Addr}
   {osl:Array (Option Value)} {N:List Str} {ps:List Str} {sp:Sp}
   (lk:K.lookup f=some ⟨oc,od,.func (PySem.W.fnOf nm qual prm bd sc dV kV doc pm an cdv ct),osl⟩)
   (hcd:PySem.W.codeIn K cdv qual=true) (S:FnScope N ps sc) (len:∀ vs H Q E,sp vs H Q E→vs.length=ps.length)
   (walk:∀ (A:Around),A.guards=some [] → ∀ (outer:List Env) (s:Shared) (H:Hp) (vs:List V) (Q:VK) (E:XK),
     Room k (A.deeper (envOfC qual sc s.heap.objs.size f cdv))→sp vs H Q E →
     ∃ t,PSs (cxOf CX P w K mg base N qual sc f cdv A outer s H E) bd t∧t ⟨fun _ H'=>Q .non H',Q,fun _ _=>False,fun _ _=>False⟩ (start N vs) H) :
   FnG P w K mg base CX (k+1) f (PySem.W.fnOf nm qual prm bd sc dV kV doc pm an cdv ct) ps sp:=by
 constructor
 · exact len
 intro A hg hr outer s H e0 args us vs hb r Q E hsp
 have keeps:∀ b o,base.get? b=some o→s.heap.get? b=some o:=fun b o e=>(e0.bs b o e).1
 have KX:K.In s.heap:=e0.mod.kin.keeps keeps
 have lim:s.heap.NoLimit:=e0.mod.nolimit.keeps keeps
 obtain⟨t,ht,hq⟩:=walk A hg outer s H vs Q E (hr.deeper _) hsp
 have crec:=PySem.W.codeRec_of KX hcd
 refine codeAny_call_function hr.depth (KX _ _ lk) rfl S.co S.gen rfl crec (hb _ _ _ _ ?_)
 refine wpAny_newFunctionEnv_cells S.kind ?_ ?_
 · rintro⟨n,v⟩ hy
   have q:=S.par n (List.of_mem_zip hy).1
   cases q with
   | inl q=>exact Or.inl q
   | inr q=>exact Or.inr ⟨q,PySem.W.cellsFrom_some _ _ _ (Or.inl q)⟩
 · intro env he s1 x
   cases he
   have I:=inv_start (CX:=CX) (P:=P) (w:=w) (mg:=mg) (N:=N) (qual:=qual) (f:=f) (cd:=cdv) (E:=E) S hr.hd e0 (len _ _ _ _ hsp) r x
   refine⟨lim.keeps x.toInCall.keep,codeAny_func (wpAny_mono (ht.run [] s1 (start N vs) H _ I hq) ?_ (fun e s' hs=>hs))⟩
   intro fl s' hs
   match fl,hs with
   | .ret u,⟨v,_,H',J,rv,q⟩=>exact⟨v,H',J.os,J.bare,J.base,J.hok,rv,q⟩
   | .next,⟨_,H',J,q⟩=>exact⟨V.non,H',J.os,J.bare,J.base,J.hok,rfl,q⟩
   | .brk,⟨_,_,_,q⟩=>exact q.elim
   | .cont,⟨_,_,_,q⟩=>exact q.elim
end
section
variable {X:Cx}
/-- xs[i] read,i no less than 0,by values -/
def rGetN (K:PySem.W.Frag):V→V→Hp→VK→Prop:=fun o i H Q=>∃ (p:Addr) (xs:List V) (j:Nat) (v:V),o = .ref p∧i = .int (j:Int)∧SqL K H p xs∧xs[j]? = some v∧Q v H
theorem get_list:PGet X (rGetN X.K):=by
 intro pins s σ H o i ov iv Q I ro ri h
 obtain⟨p,xs,j,z,rfl,rfl,hq,he,q⟩:=h
 cases ro
 obtain⟨t,rfl⟩:=ri
 obtain⟨its,rl,pl,hz⟩:=I.list hq
 obtain⟨v,ev,rv⟩:=rl.get he
 have hl:=rl.length
 have hj:j<xs.length:=(List.getElem?_eq_some_iff.mp he).1
 have hn:=line63
 exact wpAny_getItem_list pl.isList (by omega) (by omega) (by rw[Int.toNat_natCast]; simpa using ev) ⟨z,H,I,rv,q⟩
end
section
variable {P:Program} {w:World} {K:PySem.W.Frag} {mg mb:Str→Option Value} {k:Nat} {fa a:Addr} {fd:FuncData} {x:Str} {sp:Sp} {s1:Shared} {vs:List Value} {ns:List Int}
/-- the abstract heap that tracks the script alone,or nothing -/
theorem lawG0 {H : Hp} (KX : K.In s1.heap) (hns : s1.heap.Ns mainGlobals mg) (hb : s1.heap.Ns builtinsNs mb)
   (hbb:∀ y:Str,y ≠ "__name__" → mb y=bootBuiltins y) (hlim:s1.heap.NoLimit) (hg:s1.gens = #[])
   (ha:s1.heap.get? a=some { cls:=.type "list",data:=.seq vs.toArray }) (hr:Room k callerA)
   (F:∀ base:Heap,K.In base→base.Ns mainGlobals mg→FnG P w K mg base CX0 k fa fd [x] sp)
   (hbind:∀ (s:Shared) (u:Value),BindsTo s fd ⟨[u],[]⟩ [(x,u)])
   (hO:Only H) (hok:HOk P w H s1.heap) (onlyA:∀ b,H b≠none→b=a) (notK:H a≠none→K.lookup a=none)
   (hsp:sp [.ref a] H (fun v _=>v = .bl true) fun _ _ _=>False) :
   codeAny (model P w) callerA (.call (.ref fa) ⟨[.ref a],[]⟩)
     (fun r s'=>r = .ok (.ret (.bool true))∧OldK s1.heap s'.heap∧s'.os=s1.os∧AllBare s'.gens) s1:=by
 have free:∀ (b:Addr),(b=a→H b=none)→H b=none:=by
   intro b hb
   by_cases e:H b=none
   · exact e
   · exact hb (onlyA b e)
 have nsB:∀ {b:Addr} {m:Str→Option Value},s1.heap.Ns b m→(hidT s1.heap H).Ns b m:=by
   rintro b m ⟨o,es,ep,e,d,r⟩
   refine⟨o,es,ep,hidT_get e (free b ?_),d,r⟩
   rintro rfl
   have q:=Option.some.inj (e.symm.trans ha)
   rw[q] at d
   exact nomatch d
 have kinB:K.In (hidT s1.heap H):=by
   intro b o e
   refine hidT_get (KX b o e) (free b ?_)
   rintro rfl
   by_cases z:H b=none
   · exact z
   · exact absurd ((notK z).symm.trans e) (fun q=>nomatch q)
 obtain⟨mc,hl1,hl2⟩:=hlim
 have M:Mod K mg (hidT s1.heap H):=⟨kinB,nsB hns,⟨mb,nsB hb,hbb⟩,⟨mc,nsB hl1,hl2⟩⟩
 have e0:Env0 P w K mg (hidT s1.heap H) callerA [] s1 H :=
   { frames:=rfl,mod:=M,bs:=fun b o e=>of_hidT e,bsz:=Nat.le_of_eq (hidT_size _ _),funs:=trivial,
     frf:=fun b hb=>(nomatch (show b∈([]:List Addr) from hb)),hok:=hok,bare:=.of_eq hg }
 have run:=(F _ kinB (nsB hns)).run callerA rfl hr [] s1 H e0 ⟨[.ref a],[]⟩ [.ref a] [.ref a] (hbind s1 _) (.cons rfl .nil) _ _ hsp
 refine codeAny_mono run ?_
 intro r s' h
 match r,h with
 | .ok (.ret u),⟨v,H',os,bare,un,hok',rv,q⟩ =>
   have q':v=V.bl true:=q
   subst q'
   have eu:u=Value.bool true:=rv
   subst eu
   refine⟨rfl,OldK.of_keep ?_,os,bare⟩
   intro b o e
   by_cases z:H b=none
   · exact un.keep b o e z (fun q=>nomatch (show b∈([]:List Addr) from q)) (fun q=>nomatch q)
   · rcases hO b with z1 | ⟨ob,xs,z1⟩
     · exact absurd z1 z
     · have e1:=(hok b _ z1).1
       have e2:=(hok' b _ (un.frzs b ob _ z1)).1
       rw[Option.some.inj (e.symm.trans e1)]
       exact e2
theorem lawG (KX : K.In s1.heap) (hns : s1.heap.Ns mainGlobals mg) (hb : s1.heap.Ns builtinsNs mb)
   (hbb:∀ y:Str,y ≠ "__name__" → mb y=bootBuiltins y) (hlim:s1.heap.NoLimit) (hg:s1.gens = #[])
   (ha:s1.heap.get? a=some { cls:=.type "list",data:=.seq vs.toArray }) (hi:IntsAre vs ns) (hl:ns.length≤sizeLine) (hr:Room k callerA)
   (F:∀ base:Heap,K.In base→base.Ns mainGlobals mg→FnG P w K mg base CX0 k fa fd [x] sp)
   (hbind:∀ (s:Shared) (u:Value),BindsTo s fd ⟨[u],[]⟩ [(x,u)])
   (hsp:∀ H:Hp,SqL K H a (ns.map V.int)→sp [.ref a] H (fun v _=>v = .bl true) fun _ _ _=>False) :
   codeAny (model P w) callerA (.call (.ref fa) ⟨[.ref a],[]⟩)
     (fun r s'=>r = .ok (.ret (.bool true))∧OldK s1.heap s'.heap∧s'.os=s1.os∧AllBare s'.gens) s1:=by
 have rv:=vals_ints hi
 by_cases hk:K.lookup a=none
 · let ob:Obj:={ cls:=.type "list",data:=.seq vs.toArray }
   let H:Hp:=upd (fun _=>none) a (.frz ob (.lst (ns.map V.int)))
   have hA:H a=some (.frz ob (.lst (ns.map V.int))):=upd_same
   have hN:∀ b,b≠a→H b=none:=fun b ne=>upd_ne ne
   refine lawG0 (H:=H) KX hns hb hbb hlim hg ha hr F hbind ?_ ?_ ?_ (fun _=>hk) (hsp H (.inl (.inr ⟨ob,hA⟩)))
   · intro b
     by_cases e:b=a
     · exact .inr ⟨ob,_,e ▸ hA⟩
     · exact .inl (hN b e)
   · intro b u q
     by_cases e:b=a
     · subst e
       cases Option.some.inj (q.symm.trans hA)
       exact⟨ha,Nat.le_trans (Nat.le_of_eq (List.length_map V.int)) hl,vs,_,rv,ha⟩
     · exact nomatch (hN b e).symm.trans q
   · intro b q
     by_cases e:b=a
     · exact e
     · exact absurd (hN b e) q
 · obtain⟨o,ho⟩:=Option.ne_none_iff_exists'.mp hk
   have eo:=Option.some.inj ((KX a o ho).symm.trans ha)
   subst eo
   refine lawG0 (H:=fun _=>none) KX hns hb hbb hlim hg ha hr F hbind (fun _=>.inl rfl) (fun b u q=>nomatch q) (fun b q=>absurd rfl q) (fun q=>absurd rfl q) (hsp _ (.inr ?_))
   exact⟨_,vs.toArray,_,ho,rfl,rfl,rfl,by rw[List.size_toArray,hi.length]; exact hl,rv⟩
end
theorem walkG {l : PySem.W.OpenLaw} {n k : Nat} {q : Program} {loose : List Str} {XP : (Str → Option Value) → Heap → Prop} {YP : World → Heap → Prop} {d : DefRec} {K : Params → PySem.W.Frag} {sp : World → Sp} {x : Str}
   (hn:l.most=some n) (hn2:n≤sizeLine) (hdf:d.params.defaults=[])
   (hY:∀ (w:World) (h:Heap),YP w h→(K w.params).In h) (hr:Room k callerA)
   (F:∀ (w:World) (mg:Str→Option Value) (fa:Addr) (g:Heap),(K w.params).In g→g.Ns mainGlobals mg→mg d.name=some (.ref fa) →
     ∃ fd:FuncData,(∀ (s:Shared) (v:Value),BindsTo s fd ⟨[v],[]⟩ [(x,v)]) ∧
       ∀ base:Heap,(K w.params).In base→base.Ns mainGlobals mg→FnG l.prog w (K w.params) mg base CX0 k fa fd [x] (sp w))
   (hsp:∀ (w:World) (H:Hp) (a:Addr) (ns:List Int),ns.length≤n→SqL (K w.params) H a (ns.map V.int)→sp w [.ref a] H (fun v _=>v = .bl true) fun _ _ _=>False) :
   PySem.W.WalkO q loose XP YP l.row.toRowW d [] fun f us=>PySem.call f us:=by
 refine Att.attach_call hn hdf ?_
 intro w s₀ s₁ mg mb fa o pm cd doc a vs ns G Y ho hd hcd hmg hobj hints hlen hg
 have KX:=hY w _ Y
 obtain⟨fd,bnd,prom⟩:=F w mg fa _ KX G.T.g hmg
 exact lawG KX G.T.g G.T.b G.T.builtins G.T.nolimit hg hobj hints (Nat.le_trans hlen hn2) hr prom bnd (fun H hS=>hsp w H a ns hlen hS)
end TB
namespace TB
open PySem PySem.Spec PyProof.Rows L2
structure Sh (k n:Nat) (d:PyData):Prop where
 sh:d.showable=true
 nd:d.hasDict=false
 dp:d.depth≤k
 ln:d.shown.length≤n
theorem Sh.mono {k k' n n':Nat} {d:PyData} (h:Sh k n d) (a:k≤k') (b:n≤n'):Sh k' n' d :=
 ⟨h.sh,h.nd,Nat.le_trans h.dp a,Nat.le_trans h.ln b⟩
def dInts (ns:List Int):List PyData:=ns.map PyData.int
/-- a comprehension without an if -/
theorem yes {σ:L2.St} {H:Hp} {R:Bool→Hp→Prop} (h:R true H):tYes σ H R:=h
theorem same_upd {H:Hp} {p:Addr} {o:HO} (h:H p=none):Same H (upd H p o):=fun b x e=>by
 rw[upd_ne (ne_of_none e h)]
 exact e
theorem Same.tup {K:PySem.W.Frag} {H H':Hp} {a:Addr} {xs:List V} (e:Same H H') (h:SqT K H a xs):SqT K H' a xs:=by
 rcases h with (h | ⟨o,h⟩) | h
 · exact .inl (.inl (e _ _ h))
 · exact .inl (.inr ⟨o,e _ _ h⟩)
 · exact .inr h
/-- all that was tracked is as it was,but what stands at f -/
def But (f:Addr) (H H':Hp):Prop:=∀ b o,b≠f→H b=some o→H' b=some o
theorem But.refl (f:Addr) (H:Hp):But f H H:=fun _ _ _ h=>h
theorem But.trans {f:Addr} {H H1 H2:Hp} (a:But f H H1) (b:But f H1 H2):But f H H2:=fun c o n h=>b c o n (a c o n h)
theorem But.same {f:Addr} {H H1 H2:Hp} (a:But f H H1) (b:Same H1 H2):But f H H2:=fun c o n h=>b c o (a c o n h)
theorem But.of {f:Addr} {H H':Hp} (a:Same H H'):But f H H':=fun c o _ h=>a c o h
theorem But.upd {f:Addr} {H:Hp} {o:HO}:But f H (upd H f o):=fun b x n e=>by
 rw[upd_ne n]
 exact e
mutual
theorem Dp.same {K:PySem.W.Frag} {H H':Hp} (e:Same H H'):∀ (d:PyData) (v:V),Dp K H v d→Dp K H' v d
 | .none,_,.non=>.non
 | .bool _,_,.bl b=>.bl b
 | .int _,_,.int i=>.int i
 | .str _,_,.str x=>.str x
 | .list ds,_,.lst h a=>.lst (e.seq h) (DpAll.same e ds _ a)
 | .tuple ds,_,.tup h a=>.tup (TB.Same.tup e h) (DpAll.same e ds _ a)
theorem DpAll.same {K:PySem.W.Frag} {H H':Hp} (e:Same H H'):∀ (ds:List PyData) (vs:List V),DpAll K H vs ds→DpAll K H' vs ds
 | [],_,.nil=>.nil
 | d::ds,_,.cons h t=>.cons (Dp.same e d _ h) (DpAll.same e ds _ t)
end
theorem DpAll.snoc {K:PySem.W.Frag} {H:Hp} {v:V} {d:PyData} (h:Dp K H v d):∀ {vs:List V} {ds:List PyData},DpAll K H vs ds→DpAll K H (vs++[v]) (ds++[d])
 | _,_,.nil=>.cons h .nil
 | _,_,.cons a t=>.cons a (DpAll.snoc h t)
theorem DpAll.len {K:PySem.W.Frag} {H:Hp}:∀ {vs:List V} {ds:List PyData},DpAll K H vs ds→vs.length=ds.length
 | _,_,.nil=>rfl
 | _,_,.cons _ t=>congrArg Nat.succ (DpAll.len t)
theorem DpAll.get {K:PySem.W.Frag} {H:Hp}:∀ {vs:List V} {ds:List PyData} {i:Nat} {v:V},DpAll K H vs ds→vs[i]? = some v → ∃ d,ds[i]? = some d∧Dp K H v d
 | _,_,_,_,.nil,h=>by simp at h
 | _,_,0,_,.cons a _,h=>⟨_,rfl,by simp at h; subst h; exact a⟩
 | _,_,i+1,_,.cons _ t,h=>by
   obtain⟨d,e,q⟩:=DpAll.get t (i:=i) (by simpa using h)
   exact⟨d,by simpa using e,q⟩
mutual
def noL:PyData→Bool
 | .list _=>false
 | .tuple xs=>noLs xs
 | .dict _=>false
 | _=>true
def noLs:List PyData→Bool
 | []=>true
 | x::xs=>noL x&&noLs xs
end
theorem SqT.but {K:PySem.W.Frag} {H H':Hp} {o a:Addr} {xs zs:List V} (e:But o H H') (ho:H o=some (.lst zs)) (h:SqT K H a xs):SqT K H' a xs:=by
 rcases h with (h | ⟨u,h⟩) | h
 · exact .inl (.inl (e _ _ (ne_of h ho (fun z=>nomatch z)) h))
 · exact .inl (.inr ⟨u,e _ _ (ne_of h ho (fun z=>nomatch z)) h⟩)
 · exact .inr h
mutual
theorem Dp.but {K:PySem.W.Frag} {H H':Hp} {o:Addr} {zs:List V} (e:But o H H') (ho:H o=some (.lst zs)):∀ (d:PyData) (v:V),noL d=true→Dp K H v d→Dp K H' v d
 | .none,_,_,.non=>.non
 | .bool _,_,_,.bl b=>.bl b
 | .int _,_,_,.int i=>.int i
 | .str _,_,_,.str x=>.str x
 | .list ds,_,n,_=>by simp[noL] at n
 | .tuple ds,_,n,.tup h a=>.tup (TB.SqT.but e ho h) (DpAll.but e ho ds _ (by simpa only[noL] using n) a)
theorem DpAll.but {K:PySem.W.Frag} {H H':Hp} {o:Addr} {zs:List V} (e:But o H H') (ho:H o=some (.lst zs)):∀ (ds:List PyData) (vs:List V),noLs ds=true→DpAll K H vs ds→DpAll K H' vs ds
 | [],_,_,.nil=>.nil
 | d::ds,_,n,.cons h t=>by
   simp only[noLs,Bool.and_eq_true] at n
   exact .cons (Dp.but e ho d _ n.1 h) (DpAll.but e ho ds _ n.2 t)
end
theorem noLs_snoc {ds:List PyData} {d:PyData} (h:noLs ds=true) (n:noL d=true):noLs (ds++[d])=true:=by
 induction ds with
 | nil=>simp only[List.nil_append,noLs,n,Bool.and_true]
 | cons x ds ih =>
   simp only[noLs,Bool.and_eq_true] at h
   simp only[List.cons_append,noLs,h.1,ih h.2,Bool.and_self]
structure Acc (K:PySem.W.Frag) (H:Hp) (D:Addr) (ds:List PyData):Prop where
 ex:∃ us,H D=some (.lst us)∧DpAll K H us ds
 nl:noLs ds=true
theorem Acc.start {K:PySem.W.Frag} {H:Hp} {D:Addr}:Acc K (upd H D (.lst [])) D []:=⟨⟨[],upd_same,.nil⟩,rfl⟩
theorem Acc.same {K:PySem.W.Frag} {H H':Hp} {D:Addr} {ds:List PyData} (h:Acc K H D ds) (e:Same H H'):Acc K H' D ds:=by
 obtain⟨us,a,b⟩:=h.ex
 exact⟨⟨us,e _ _ a,DpAll.same e _ _ b⟩,h.nl⟩
/-- one more -/
theorem Acc.more {K : PySem.W.Frag} {H : Hp} {D : Addr} {ds : List PyData} {v : V} {d : PyData} (h : Acc K H D ds) (dv : Dp K H v d) (n : noL d = true) (hl : ds.length ≤ 900) :
   ∃ us,H D=some (.lst us)∧us.length<sizeLine∧Acc K (upd H D (.lst (us++[v]))) D (ds++[d]):=by
 obtain⟨us,a,b⟩:=h.ex
 have bu:But D H (upd H D (.lst (us++[v]))):=But.upd
 exact⟨us,a,by rw[DpAll.len b]; exact small1000 (by omega),⟨us++[v],upd_same,DpAll.snoc (Dp.but bu a _ _ n dv) (DpAll.but bu a _ _ h.nl b)⟩,noLs_snoc h.nl n⟩
theorem same_new {H H2:Hp} {D:Addr} {o:HO} (nD:H D=none) (sm:Same H H2):Same H (upd H2 D o):=fun c x e=>by
 rw[upd_ne (ne_of_none e nD)]
 exact sm c x e
/-- a turn of a comprehension that changes nothing else -/
theorem Acc.turn {K : PySem.W.Frag} {H H1 H2 : Hp} {D : Addr} {ds ds' : List PyData} {v : V} {d : PyData} (nD : H D = none) (sm : Same H H1) (ac : Acc K H1 D ds) (s2 : Same H1 H2) (dv : Dp K H2 v d) (n : noL d = true) (hl : ds.length ≤ 900) (he : ds' = ds ++ [d]) :
   ∃ acc,H2 D=some (.lst acc)∧acc.length<sizeLine∧(Same H (upd H2 D (.lst (acc++[v])))∧Acc K (upd H2 D (.lst (acc++[v]))) D ds'):=by
 obtain⟨us,a,b,c⟩:=(ac.same s2).more dv n hl
 exact⟨us,a,b,same_new nD (sm.trans s2),he ▸ c⟩
/-- the tuple of all that was filled in -/
theorem Acc.tuple {K:PySem.W.Frag} {H:Hp} {D t:Addr} {us:List V} {ds:List PyData} (dv:DpAll K H us ds) (nt:H t=none):Dp K (upd H t (.tup us)) (.ref t) (.tuple ds) :=
 .tup (.inl (.inl upd_same)) (DpAll.same (same_upd nt) _ _ dv)
@[irreducible] def txt (d:PyData):Str:=d.shown
end TB
namespace VL
open PySem PySem.Spec PyProof.Rows L2 TB
/-- what the module's names hold,and the world -/
structure MG where
 f:Str→Option Value
 w:World
abbrev _root_.L2.Cx.mgw (X:L2.Cx):MG:=⟨X.mg,X.w⟩
/-- a constant: a value,or what a name of the module holds -/
inductive Cv where
 | v (v:V) | gl (x:Str)
/-- a value: data,or one of the things that may change (by its number),or a constant of the text -/
inductive D where
 | non | bl (b:Bool) | int (i:Int) | str (x:Str)
 | tup (ds:List D) | lst (ds:List D) | ctp (ds:List D) | fzl (ds:List D)
 | ref (i:Nat) | cv (c:Cv)
/-- a thing that may change -/
inductive C where
 | lst (ds:List D)
 | dct (kvs:List (Key × D))
 | dtt (kvs:List (List Key × D))
 | dtf (kvs:List (List Key × D))
 | lck (kvs:List (Key × D))
 | lct (kvs:List (List Key × D))
 | lcf (kvs:List (List Key × D))
 | obj (c:Str) (fs:List (Str × D))
abbrev AS:=List C
abbrev En:=List (Option D)
inductive Out (α:Type) where
 | ok (a:α) (s:AS)
 | exc (c:Str) (fs:List (Str × D)) (s:AS)
 | bad
def Out.bind {α β:Type} (o:Out α) (k:α→AS→Out β):Out β:=match o with
 | .ok a s=>k a s
 | .exc c fs s=>.exc c fs s
 | .bad=>.bad
@[simp] theorem Out.bind_ok {α β:Type} (a:α) (s:AS) (k:α→AS→Out β):(Out.ok a s).bind k=k a s:=rfl
@[simp] theorem Out.bind_exc {α β:Type} (c:Str) (fs:List (Str × D)) (s:AS) (k:α→AS→Out β):(Out.exc c fs s:Out α).bind k = .exc c fs s:=rfl
@[simp] theorem Out.bind_bad {α β:Type} (k:α→AS→Out β):(Out.bad:Out α).bind k = .bad:=rfl
/-- where the numbered things stand; and what is hidden: nothing that is told leans on it -/
structure Bt where
 l:List Addr
 h:List Addr
def Bt.push (β:Bt) (p:Addr):Bt:=⟨β.l++[p],β.h⟩
def Bt.hide (β:Bt) (p:Addr):Bt:=⟨β.l,p::β.h⟩
def Bt.out (β:Bt) (a:Addr):Prop:=a∉β.l∧a∉β.h
def WrL (K:PySem.W.Frag) (a:Addr) (xs:List V):Prop :=
 ∃ (o:Obj) (its:Array Value) (n:Nat),K.lookup a=some o∧o.cls = .type "list" ∧ o.dict=none∧o.data = .seq its n∧its.size≤sizeLine∧Vals xs its.toList
/-- a tuple whose object is known,without a dict of its own: written in the text,or made so -/
def CtT (K:PySem.W.Frag) (H:Hp) (β:Bt) (a:Addr) (us:List V):Prop :=
 (∃ (o:Obj) (its:Array Value) (n:Nat),K.lookup a=some o∧o.cls = .type "tuple" ∧ o.dict=none∧o.data = .seq its n∧its.size≤sizeLine∧Vals us its.toList)∨(β.out a ∧ ∃ o,H a=some (.frz o (.tup us))∧o.dict=none)
theorem CtT.sq {K:PySem.W.Frag} {H:Hp} {β:Bt} {a:Addr} {us:List V} (h:CtT K H β a us):SqT K H a us:=by
 rcases h with⟨o,its,n,h1,h2,_,h3,h4,h5⟩ | ⟨_,o,h,_⟩
 · exact .inr ⟨o,its,n,h1,h2,h3,h4,h5⟩
 · exact .inl (.inr ⟨o,h⟩)
theorem CtT.imp {K:PySem.W.Frag} {H H':Hp} {β β':Bt} {a:Addr} {us:List V} (h:CtT K H β a us) (f:∀ o,H a=some (.frz o (.tup us))→β.out a→H' a=some (.frz o (.tup us))∧β'.out a):CtT K H' β' a us:=by
 rcases h with h | ⟨h1,o,h2,h3⟩
 · exact .inl h
 · obtain⟨q1,q2⟩:=f o h2 h1
   exact .inr ⟨q2,o,q1,h3⟩
def RepC (K:PySem.W.Frag):Cv→V→Prop
 | .v v,u=>u=v
 | .gl x,u=>∃ a,u = .ref a∧PySem.W.nsIn K mainGlobals x=some (some (.ref a))
mutual
inductive Rep (K:PySem.W.Frag) (H:Hp) (β:Bt):D→V→Prop
 | non:Rep K H β .non .non
 | bl (b:Bool):Rep K H β (.bl b) (.bl b)
 | int (i:Int):Rep K H β (.int i) (.int i)
 | str (x:Str):Rep K H β (.str x) (.str x)
 | cv {c:Cv} {v:V}:RepC K c v→Rep K H β (.cv c) v
 | ref {i:Nat} {a:Addr}:β.l[i]? = some a→Rep K H β (.ref i) (.ref a)
 | tup {a:Addr} {ds:List D} {us:List V}:β.out a→H a=some (.tup us)→Reps K H β ds us→Rep K H β (.tup ds) (.ref a)
 | ctp {a:Addr} {ds:List D} {us:List V}:CtT K H β a us→Reps K H β ds us→Rep K H β (.ctp ds) (.ref a)
 | lst {a:Addr} {ds:List D} {us:List V}:β.out a→H a=some (.lst us)→Reps K H β ds us→Rep K H β (.lst ds) (.ref a)
 | fzl {a:Addr} {ds:List D} {us:List V}:((β.out a∧Rd H a (.lst us))∨WrL K a us)→Reps K H β ds us→Rep K H β (.fzl ds) (.ref a)
inductive Reps (K:PySem.W.Frag) (H:Hp) (β:Bt):List D→List V→Prop
 | nil:Reps K H β [] []
 | cons {d:D} {u:V} {ds:List D} {us:List V}:Rep K H β d u→Reps K H β ds us→Reps K H β (d::ds) (u::us)
end
/-- what comes behind: the numbered things keep their numbers,all else is as it was -/
structure Ext (β:Bt) (H:Hp) (β':Bt) (H':Hp):Prop where
 pre:∃ g,β'.l=β.l++g
 hid:β'.h=β.h
 kept0:∀ a o,H a=some o→a∉β.l→(∀ ps,o ≠ .tbl ps)→H' a=some o∧a∉β'.l
 frz:∀ a z u,H a=some (.frz z u)→H' a=some (.frz z u)
theorem Ext.kept {β β':Bt} {H H':Hp} (x:Ext β H β' H') (a:Addr) (o:HO) (h:H a=some o) (n:β.out a) (t:∀ ps,o ≠ .tbl ps:=by intro _ z; cases z):H' a=some o∧β'.out a:=by
 obtain⟨h1,h2⟩:=x.kept0 a o h n.1 t
 exact⟨h1,h2,by rw[x.hid]; exact n.2⟩
theorem Ext.refl (β:Bt) (H:Hp):Ext β H β H:=⟨⟨[],by simp⟩,rfl,fun _ _ h n _=>⟨h,n⟩,fun _ _ _ h=>h⟩
theorem Ext.trans {β β1 β2:Bt} {H H1 H2:Hp} (a:Ext β H β1 H1) (b:Ext β1 H1 β2 H2):Ext β H β2 H2:=by
 obtain⟨g,e⟩:=a.pre
 obtain⟨g',e'⟩:=b.pre
 refine⟨⟨g++g',by rw[e',e,List.append_assoc]⟩,b.hid.trans a.hid,fun x o h n t=>?_,fun x z u h=>b.frz x z u (a.frz x z u h)⟩
 obtain⟨h1,n1⟩:=a.kept0 x o h n t
 exact b.kept0 x o h1 n1 t
theorem Ext.same {β:Bt} {H H':Hp} (h:Same H H'):Ext β H β H':=⟨⟨[],by simp⟩,rfl,fun a o e n _=>⟨h a o e,n⟩,fun a z u e=>h a _ e⟩
theorem Ext.at {β β':Bt} {H H':Hp} (x:Ext β H β' H') {i:Nat} {a:Addr} (h:β.l[i]? = some a):β'.l[i]? = some a:=by
 obtain⟨g,e⟩:=x.pre
 have hl:=(List.getElem?_eq_some_iff.mp h).1
 rw[e,List.getElem?_append_left hl]
 exact h
theorem Ext.rd {β β':Bt} {H H':Hp} (x:Ext β H β' H') {a:Addr} {o:HO} (n:β.out a) (h:Rd H a o) (t:∀ ps,o ≠ .tbl ps:=by intro _ z; cases z):β'.out a∧Rd H' a o:=by
 rcases h with h | ⟨u,h⟩
 · obtain⟨h1,n1⟩:=x.kept a _ h n t
   exact⟨n1,.inl h1⟩
 · obtain⟨h1,n1⟩:=x.kept a _ h n
   exact⟨n1,.inr ⟨u,h1⟩⟩
/-- .. as far as what is told leans on it -/
structure ExtW (β:Bt) (H:Hp) (β':Bt) (H':Hp):Prop where
 pre:∃ g,β'.l=β.l++g
 kept0:∀ a o,H a=some o→β.out a→(∀ ps,o ≠ .tbl ps)→H' a=some o∧β'.out a
theorem ExtW.kept {β β':Bt} {H H':Hp} (x:ExtW β H β' H') (a:Addr) (o:HO) (h:H a=some o) (n:β.out a) (t:∀ ps,o ≠ .tbl ps:=by intro _ z; cases z):H' a=some o∧β'.out a:=x.kept0 a o h n t
theorem Ext.weak {β β':Bt} {H H':Hp} (x:Ext β H β' H'):ExtW β H β' H':=⟨x.pre,fun a o h n t=>x.kept a o h n t⟩
theorem ExtW.refl (β:Bt) (H:Hp):ExtW β H β H:=(Ext.refl β H).weak
/-- .. and what is locked stays -/
structure ExtF (β:Bt) (H:Hp) (β':Bt) (H':Hp):Prop extends ExtW β H β' H' where
 frz:∀ a z u,H a=some (.frz z u)→H' a=some (.frz z u)
theorem Ext.weakF {β β':Bt} {H H':Hp} (x:Ext β H β' H'):ExtF β H β' H':=⟨x.weak,x.frz⟩
theorem ExtF.refl (β:Bt) (H:Hp):ExtF β H β H:=(Ext.refl β H).weakF
theorem ExtW.trans {β β1 β2:Bt} {H H1 H2:Hp} (a:ExtW β H β1 H1) (b:ExtW β1 H1 β2 H2):ExtW β H β2 H2:=by
 obtain⟨g,e⟩:=a.pre
 obtain⟨g',e'⟩:=b.pre
 refine⟨⟨g++g',by rw[e',e,List.append_assoc]⟩,fun x o h n t=>?_⟩
 obtain⟨h1,n1⟩:=a.kept x o h n t
 exact b.kept x o h1 n1 t
theorem ExtW.at {β β':Bt} {H H':Hp} (x:ExtW β H β' H') {i:Nat} {a:Addr} (h:β.l[i]? = some a):β'.l[i]? = some a:=by
 obtain⟨g,e⟩:=x.pre
 have hl:=(List.getElem?_eq_some_iff.mp h).1
 rw[e,List.getElem?_append_left hl]
 exact h
theorem ExtW.rd {β β':Bt} {H H':Hp} (x:ExtW β H β' H') {a:Addr} {o:HO} (n:β.out a) (h:Rd H a o) (t:∀ ps,o ≠ .tbl ps:=by intro _ z; cases z):β'.out a∧Rd H' a o:=by
 rcases h with h | ⟨u,h⟩
 · obtain⟨h1,n1⟩:=x.kept a _ h n t
   exact⟨n1,.inl h1⟩
 · obtain⟨h1,n1⟩:=x.kept a _ h n
   exact⟨n1,.inr ⟨u,h1⟩⟩
mutual
theorem Rep.extW {K:PySem.W.Frag} {β β':Bt} {H H':Hp} (x:ExtW β H β' H'):∀ {d:D} {u:V},Rep K H β d u→Rep K H' β' d u
 | _,_,.non=>.non
 | _,_,.bl b=>.bl b
 | _,_,.int i=>.int i
 | _,_,.str s=>.str s
 | _,_,.cv v=>.cv v
 | _,_,.ref h=>.ref (x.at h)
 | _,_,.tup n h r=>.tup (x.kept _ _ h n).2 (x.kept _ _ h n).1 (Reps.extW x r)
 | _,_,.ctp h r=>.ctp (h.imp fun o e n=>x.kept _ _ e n) (Reps.extW x r)
 | _,_,.lst n h r=>.lst (x.kept _ _ h n).2 (x.kept _ _ h n).1 (Reps.extW x r)
 | _,_,.fzl h r=>.fzl (h.imp (fun z=>x.rd z.1 z.2) id) (Reps.extW x r)
theorem Reps.extW {K:PySem.W.Frag} {β β':Bt} {H H':Hp} (x:ExtW β H β' H'):∀ {ds:List D} {us:List V},Reps K H β ds us→Reps K H' β' ds us
 | _,_,.nil=>.nil
 | _,_,.cons r t=>.cons (Rep.extW x r) (Reps.extW x t)
end
mutual
theorem Rep.ext {K:PySem.W.Frag} {β β':Bt} {H H':Hp} (x:Ext β H β' H'):∀ {d:D} {u:V},Rep K H β d u→Rep K H' β' d u
 | _,_,.non=>.non
 | _,_,.bl b=>.bl b
 | _,_,.int i=>.int i
 | _,_,.str s=>.str s
 | _,_,.cv v=>.cv v
 | _,_,.ref h=>.ref (x.at h)
 | _,_,.tup n h r=>.tup (x.kept _ _ h n).2 (x.kept _ _ h n).1 (Reps.ext x r)
 | _,_,.ctp h r=>.ctp (h.imp fun o e n=>x.kept _ _ e n) (Reps.ext x r)
 | _,_,.lst n h r=>.lst (x.kept _ _ h n).2 (x.kept _ _ h n).1 (Reps.ext x r)
 | _,_,.fzl h r=>.fzl (h.imp (fun z=>x.rd z.1 z.2) id) (Reps.ext x r)
theorem Reps.ext {K:PySem.W.Frag} {β β':Bt} {H H':Hp} (x:Ext β H β' H'):∀ {ds:List D} {us:List V},Reps K H β ds us→Reps K H' β' ds us
 | _,_,.nil=>.nil
 | _,_,.cons r t=>.cons (Rep.ext x r) (Reps.ext x t)
end
theorem Reps.length {K:PySem.W.Frag} {H:Hp} {β:Bt}:∀ {ds:List D} {us:List V},Reps K H β ds us→us.length=ds.length
 | _,_,.nil=>rfl
 | _,_,.cons _ t=>congrArg Nat.succ (Reps.length t)
theorem Reps.append {K:PySem.W.Frag} {H:Hp} {β:Bt}:∀ {ds es:List D} {us ws:List V},Reps K H β ds us→Reps K H β es ws→Reps K H β (ds++es) (us++ws)
 | _,_,_,_,.nil,s=>s
 | _,_,_,_,.cons r t,s=>.cons r (Reps.append t s)
theorem Reps.get {K:PySem.W.Frag} {H:Hp} {β:Bt}:∀ {ds:List D} {us:List V} {i:Nat} {d:D},Reps K H β ds us→ds[i]? = some d → ∃ u,us[i]? = some u∧Rep K H β d u
 | _,_,_,_,.nil,e=>by simp at e
 | _,_,0,_,.cons r _,e=>by simp at e; subst e; exact⟨_,rfl,r⟩
 | _,_,i+1,d,.cons _ t,e=>by
   obtain⟨u,h1,h2⟩:=Reps.get (i:=i) (d:=d) t (by simpa using e)
   exact⟨u,by simpa using h1,h2⟩
theorem Reps.get' {K:PySem.W.Frag} {H:Hp} {β:Bt}:∀ {ds:List D} {us:List V} {i:Nat} {u:V},Reps K H β ds us→us[i]? = some u → ∃ d,ds[i]? = some d∧Rep K H β d u
 | _,_,_,_,.nil,e=>by simp at e
 | _,_,0,_,.cons r _,e=>by simp at e; subst e; exact⟨_,rfl,r⟩
 | _,_,i+1,d,.cons _ t,e=>by
   obtain⟨u,h1,h2⟩:=Reps.get' (i:=i) (u:=d) t (by simpa using e)
   exact⟨u,by simpa using h1,h2⟩
theorem Reps.set {K:PySem.W.Frag} {H:Hp} {β:Bt} {d:D} {u:V} (r:Rep K H β d u):∀ {ds:List D} {us:List V} (i:Nat),Reps K H β ds us→Reps K H β (ds.set i d) (us.set i u)
 | _,_,_,.nil=>.nil
 | _,_,0,.cons _ t=>.cons r t
 | _,_,i+1,.cons q t=>.cons q (Reps.set r i t)
theorem Reps.take {K:PySem.W.Frag} {H:Hp} {β:Bt}:∀ {ds:List D} {us:List V} (n:Nat),Reps K H β ds us→Reps K H β (ds.take n) (us.take n)
 | _,_,0,_=>.nil
 | _,_,_+1,.nil=>.nil
 | _,_,n+1,.cons r t=>.cons r (Reps.take n t)
theorem Reps.drop {K:PySem.W.Frag} {H:Hp} {β:Bt}:∀ {ds:List D} {us:List V} (n:Nat),Reps K H β ds us→Reps K H β (ds.drop n) (us.drop n)
 | _,_,0,r=>r
 | _,_,_+1,.nil=>.nil
 | _,_,n+1,.cons _ t=>Reps.drop n t
/-- fields by name -/
def RepF (K:PySem.W.Frag) (H:Hp) (β:Bt) (fs:List (Str × D)) (vs:List (Str × V)):Prop :=
 fs.map (·.1)=vs.map (·.1)∧Reps K H β (fs.map (·.2)) (vs.map (·.2))
theorem RepF.ext {K:PySem.W.Frag} {β β':Bt} {H H':Hp} (x:Ext β H β' H') {fs:List (Str × D)} {vs:List (Str × V)} (h:RepF K H β fs vs):RepF K H' β' fs vs:=⟨h.1,h.2.ext x⟩
def RepK {κ:Type} (K:PySem.W.Frag) (H:Hp) (β:Bt) (fs:List (κ × D)) (vs:List (κ × V)):Prop :=
 fs.map (·.1)=vs.map (·.1)∧Reps K H β (fs.map (·.2)) (vs.map (·.2))
theorem RepK.ext {κ:Type} {K:PySem.W.Frag} {β β':Bt} {H H':Hp} (x:Ext β H β' H') {fs:List (κ × D)} {vs:List (κ × V)} (h:RepK K H β fs vs):RepK K H' β' fs vs:=⟨h.1,h.2.ext x⟩
/-- a dict whose keys are known tuples: an object of its own kind -/
def hashT (w:World) (ks:List Key):Int:=reduceHash (Builtin.Tuple.tupleHashOf (ks.map (keyH w)))
def dF (w:World) (a:Addr) (us:List (List Key × V)) (bs:List Addr):HO:=.ext fun h=>us.length≤sizeLine∧(a==sysModules)=false ∧ ∃ xs:List (List Key × Addr × Value),
 Paired (fun (p:List Key × V) (q:List Key × Addr × Value)=>p.1=q.1∧RelV p.2 q.2.2) us xs∧xs.map (·.2.1)=bs∧(xs.map (·.1)).Nodup ∧
 ∃ o es ep,h.get? a=some o∧o.ExactDict∧o.data = .dict es ep∧es.toList=xs.map fun x=>⟨hashT w x.1,.ref x.2.1,x.2.2⟩
def kD:Key→D
 | .inl i=>.int i
 | .inr x=>.str x
/-- the thing numbered stands at a -/
def CellOk (K:PySem.W.Frag) (mg:MG) (H:Hp) (β:Bt) (a:Addr):C→Prop
 | .lst ds=>∃ us,H a=some (.lst us)∧Reps K H β ds us
 | .dct kvs=>∃ us,H a=some (.dK us)∧RepK K H β kvs us
 | .dtt kvs=>∃ us,H a=some (.dT us)∧RepK K H β kvs us
 | .dtf kvs=>∃ us bs,H a=some (dF mg.w a us bs)∧RepK K H β kvs us∧Reps K H β (kvs.map fun p=>.ctp (p.1.map kD)) (bs.map V.ref)
 | .lck kvs=>∃ z us,H a=some (.frz z (.dK us))∧RepK K H β kvs us
 | .lct kvs=>∃ z us,H a=some (.frz z (.dT us))∧RepK K H β kvs us
 | .lcf kvs=>∃ z us bs,H a=some (.frz z (dF mg.w a us bs))∧RepK K H β kvs us∧Reps K H β (kvs.map fun p=>.ctp (p.1.map kD)) (bs.map V.ref)
 | .obj c fs=>∃ (Ca dx:Addr) (vs:List (Str × V)),mg.f c=some (.ref Ca)∧H a=some (.ins Ca dx vs)∧RepF K H β fs vs
/-- a lambda stands within -/
def lamE:Nat→Expr→Bool
 | 0,_=>false
 | n+1,e=>match e with
   | .Lambda _ _ _ _=>true
   | .BoolOp _ vs _=>vs.any (lamE n)
   | .BinOp l _ r _=>lamE n l||lamE n r
   | .UnaryOp _ x _=>lamE n x
   | .IfExp a b c _=>lamE n a||lamE n b||lamE n c
   | .ListComp elt gens _ _=>lamE n elt||gens.any fun g=>lamE n g.iter||g.ifs.any (lamE n)
   | .Compare l _ cs _=>lamE n l||cs.any (lamE n)
   | .Call f args kws _=>lamE n f||args.any (lamE n)||kws.any fun k=>lamE n k.value
   | .Subscript v s _=>lamE n v||lamE n s
   | .Attribute v _ _=>lamE n v
   | .List es _=>es.any (lamE n)
   | .Tuple es _ _=>es.any (lamE n)
   | _=>false
def lamS:Nat→Stmt→Bool
 | 0,_=>false
 | n+1,s=>match s with
   | .Return (some e) _=>lamE n e
   | .Assign _ e _=>lamE n e
   | .AugAssign _ _ e _=>lamE n e
   | .For _ i b c _=>lamE n i||b.any (lamS n)||c.any (lamS n)
   | .While i b c _=>lamE n i||b.any (lamS n)||c.any (lamS n)
   | .If i b c _=>lamE n i||b.any (lamS n)||c.any (lamS n)
   | .Try b _ c d _=>b.any (lamS n)||c.any (lamS n)||d.any (lamS n)
   | .Expr e _=>lamE n e
   | _=>false
/-- the maker of an inner def: the place of its table,the name of what it makes -/
def mkrO (K:PySem.W.Frag) (o:Obj):Option (Addr × Str):=match o.data with
 | .func fd=>if (match fd.body with | .stmts ss=>ss.any (lamS 40) | _=>false)=true then (match fd.code with
   | .ref c=>(match K.lookup c with
     | some ⟨_,_,.fields vs,_⟩=>(match (vs[11]? : Option Value) with
       | some (.ref P)=>some (P,fd.qualname ++ ".<locals>." ++ "<lambda>")
       | _=>none)
     | _=>none)
   | _=>none) else none
 | _=>none
/-- the tables of code objects that may grow -/
def tabL (K:PySem.W.Frag):List (Addr × Str):=K.filterMap fun p=>mkrO K p.2
/-- a table that may grow: each code object that it tells bears the name q -/
def Tb (β:Bt) (H:Hp) (P:Addr) (q:Str):Prop:=β.out P ∧ ∃ ps:Array Value,H P=some (.tbl ps)∧TriplesOk ps.toList ∧ ∀ (pos:Pos) (cv:Value),codeAmong pos ps.toList=some cv → ∃ c,cv = .ref c∧H c=some (LamX.CodeO c q)∧β.out c
theorem Tb.imp {β β':Bt} {H H':Hp} {P:Addr} {q:Str} (h:Tb β H P q) (f:∀ a o,H a=some o→β.out a→H' a=some o∧β'.out a):Tb β' H' P q:=by
 obtain⟨n,ps,e,t,k⟩:=h
 obtain⟨e2,n2⟩:=f _ _ e n
 refine⟨n2,ps,e2,t,fun pos cv hc=>?_⟩
 obtain⟨c,rfl,e3,n3⟩:=k pos cv hc
 obtain⟨e4,n4⟩:=f _ _ e3 n3
 exact⟨c,rfl,e4,n4⟩
structure Sim (K:PySem.W.Frag) (mg:MG) (β:Bt) (st:AS) (H:Hp):Prop where
 len:β.l.length=st.length
 nd:β.l.Nodup
 hid:∀ a∈β.h,a∉β.l ∧ ∃ o,H a=some o∧(∀ us,o ≠ .tup us)∧(∀ ps,o ≠ .tbl ps) ∧ ∀ c q,o≠LamX.CodeO c q
 cell:∀ (i:Nat) (a:Addr) (c:C),β.l[i]? = some a→st[i]? = some c→CellOk K mg H β a c
 tab:∀ p∈tabL K,Tb β H p.1 p.2
theorem CellOk.there {K:PySem.W.Frag} {mg:MG} {H:Hp} {β:Bt} {a:Addr} {c:C} (h:CellOk K mg H β a c):∃ o,H a=some o∧(∀ us,o ≠ .tup us) ∧ ∀ z,o ≠ .own z:=by
 cases c with
 | lst ds=>obtain⟨us,e,_⟩:=h; exact⟨_,e,fun _ z=>(nomatch z),fun _ z=>(nomatch z)⟩
 | dct kvs=>obtain⟨us,e,_⟩:=h; exact⟨_,e,fun _ z=>(nomatch z),fun _ z=>(nomatch z)⟩
 | dtt kvs=>obtain⟨us,e,_⟩:=h; exact⟨_,e,fun _ z=>(nomatch z),fun _ z=>(nomatch z)⟩
 | dtf kvs=>obtain⟨us,bs,e,_⟩:=h; exact⟨_,e,fun _ z=>(by unfold dF at z; cases z),fun _ z=>(by unfold dF at z; cases z)⟩
 | lck kvs=>obtain⟨_,us,e,_⟩:=h; exact⟨_,e,fun _ z=>(nomatch z),fun _ z=>(nomatch z)⟩
 | lct kvs=>obtain⟨_,us,e,_⟩:=h; exact⟨_,e,fun _ z=>(nomatch z),fun _ z=>(nomatch z)⟩
 | lcf kvs=>obtain⟨_,us,bs,e,_⟩:=h; exact⟨_,e,fun _ z=>(nomatch z),fun _ z=>(nomatch z)⟩
 | obj c fs=>obtain⟨_,_,us,_,e,_⟩:=h; exact⟨_,e,fun _ z=>(nomatch z),fun _ z=>(nomatch z)⟩
/-- a dict is no code object -/
theorem dF_code {w:World} {a c:Addr} {us:List (List Key × V)} {bs:List Addr} {q:Str}:dF w a us bs≠LamX.CodeO c q:=fun z=>by
 unfold dF LamX.CodeO at z
 injection z with z
 obtain⟨ob,hob⟩:∃ ob:Obj,ob={ cls:=.none,data:=.fields #[.none,.str q default] }:=⟨_,rfl⟩
 obtain⟨h,hh⟩:∃ h:Heap,h={ objs:=Array.replicate (c+1) ob }:=⟨_,rfl⟩
 have g:∀ b o,h.get? b=some o→o=ob:=fun b o e=>by
   subst hh
   unfold Heap.get? at e
   by_cases hb:b<c+1
   · have e2:(Array.replicate (c+1) ob)[b]? = some ob:=by simp[hb]
     dsimp only at e
     rw[e2] at e
     subst hob
     exact (Option.some.inj e).symm
   · have e2:(Array.replicate (c+1) ob)[b]? = none:=Array.getElem?_eq_none (by rw[Array.size_replicate]; exact Nat.le_of_not_lt hb)
     dsimp only at e
     rw[e2] at e
     cases e
 have gc:h.get? c=some ob:=by
   subst hh
   unfold Heap.get?
   have e2:(Array.replicate (c+1) ob)[c]? = some ob:=by simp
   dsimp only
   rw[e2]
   subst hob
   rfl
 have p:=congrFun z h
 have p2:=p.mpr ⟨ob,_,default,gc,by rw[hob],rfl⟩
 obtain⟨_,_,xs,_,_,_,o,es,ep,h6,_,h8,_⟩:=p2
 have:=g _ _ h6
 subst this
 rw[hob] at h8
 cases h8
theorem CellOk.nc {K:PySem.W.Frag} {mg:MG} {H:Hp} {β:Bt} {a:Addr} {c:C} (h:CellOk K mg H β a c):∃ o,H a=some o∧(∀ ps,o ≠ .tbl ps) ∧ ∀ c q,o≠LamX.CodeO c q:=by
 have nc:∀ {o:HO},(∀ p,o ≠ .ext p) → ∀ c q,o≠LamX.CodeO c q:=fun {o} n c q z=>by
   unfold LamX.CodeO at z
   exact n _ z
 cases c with
 | lst ds=>obtain⟨us,e,_⟩:=h; exact⟨_,e,fun _ z=>(nomatch z),nc fun _ z=>(nomatch z)⟩
 | dct kvs=>obtain⟨us,e,_⟩:=h; exact⟨_,e,fun _ z=>(nomatch z),nc fun _ z=>(nomatch z)⟩
 | dtt kvs=>obtain⟨us,e,_⟩:=h; exact⟨_,e,fun _ z=>(nomatch z),nc fun _ z=>(nomatch z)⟩
 | dtf kvs=>obtain⟨us,bs,e,_⟩:=h; exact⟨_,e,fun _ z=>(by unfold dF at z; cases z),fun _ _=>dF_code⟩
 | lck kvs=>obtain⟨_,us,e,_⟩:=h; exact⟨_,e,fun _ z=>(nomatch z),nc fun _ z=>(nomatch z)⟩
 | lct kvs=>obtain⟨_,us,e,_⟩:=h; exact⟨_,e,fun _ z=>(nomatch z),nc fun _ z=>(nomatch z)⟩
 | lcf kvs=>obtain⟨_,us,bs,e,_⟩:=h; exact⟨_,e,fun _ z=>(nomatch z),nc fun _ z=>(nomatch z)⟩
 | obj c fs=>obtain⟨_,_,us,_,e,_⟩:=h; exact⟨_,e,fun _ z=>(nomatch z),nc fun _ z=>(nomatch z)⟩
theorem CellOk.ext {K:PySem.W.Frag} {mg:MG} {H H':Hp} {β β':Bt} {a:Addr} {c:C} (x:Ext β H β' H') (e:H' a=H a) (h:CellOk K mg H β a c):CellOk K mg H' β' a c:=by
 cases c with
 | lst ds=>obtain⟨us,q,r⟩:=h; exact⟨us,e.trans q,r.ext x⟩
 | dct kvs=>obtain⟨us,q,r⟩:=h; exact⟨us,e.trans q,r.ext x⟩
 | dtt kvs=>obtain⟨us,q,r⟩:=h; exact⟨us,e.trans q,r.ext x⟩
 | dtf kvs=>obtain⟨us,bs,q,r,t⟩:=h; exact⟨us,bs,e.trans q,r.ext x,t.ext x⟩
 | lck kvs=>obtain⟨z,us,q,r⟩:=h; exact⟨z,us,e.trans q,r.ext x⟩
 | lct kvs=>obtain⟨z,us,q,r⟩:=h; exact⟨z,us,e.trans q,r.ext x⟩
 | lcf kvs=>obtain⟨z,us,bs,q,r,t⟩:=h; exact⟨z,us,bs,e.trans q,r.ext x,t.ext x⟩
 | obj c fs=>obtain⟨Ca,dx,us,m,q,r⟩:=h; exact⟨Ca,dx,us,m,e.trans q,r.ext x⟩
section
variable {K:PySem.W.Frag} {mg:MG} {H H':Hp} {β β':Bt} {st:AS}
theorem Sim.at (S:Sim K mg β st H) {i:Nat} {c:C} (h:st[i]? = some c):∃ a,β.l[i]? = some a∧CellOk K mg H β a c:=by
 have hl:=(List.getElem?_eq_some_iff.mp h).1
 have hb:i<β.l.length:=by rw[S.len]; exact hl
 exact⟨β.l[i],by simp[hb],S.cell i _ c (by simp[hb]) h⟩
theorem Sim.here (S:Sim K mg β st H) {a:Addr} (h:a∈β.l):∃ o,H a=some o:=by
 obtain⟨i,hi,e⟩:=List.getElem_of_mem h
 have hs:i<st.length:=by rw[← S.len]; exact hi
 obtain⟨o,e2,_⟩:=(S.cell i a st[i] (by simp[hi,e]) (by simp[hs])).there
 exact⟨o,e2⟩
theorem Sim.fresh (S:Sim K mg β st H) {p:Addr} (h:H p=none):β.out p:=by
 refine⟨fun z=>?_,fun z=>?_⟩
 · obtain⟨o,e⟩:=S.here z
   rw[h] at e
   cases e
 · obtain⟨_,o,e,_⟩:=S.hid p z
   rw[h] at e
   cases e
/-- nothing that was tracked has changed -/
theorem Sim.same (S:Sim K mg β st H) (x:Same H H'):Sim K mg β st H':=by
 refine⟨S.len,S.nd,fun a ha=>?_,fun i a c h1 h2=>?_,fun p hp=>(S.tab p hp).imp fun a o e n=>⟨x _ _ e,n⟩⟩
 · obtain⟨n,o,e,t⟩:=S.hid a ha
   exact⟨n,o,x _ _ e,t⟩
 · have q:=S.cell i a c h1 h2
   obtain⟨o,e,_⟩:=q.there
   exact q.ext (Ext.same x) ((x _ _ e).trans e.symm)
theorem ext_push {p:Addr} {o:HO} (hp:H p=none):Ext β H (β.push p) (upd H p o) :=
 ⟨⟨[p],rfl⟩,rfl,fun a u e n _=>⟨by rw[upd_ne (ne_of_none e hp)]; exact e,fun z=>by
   rcases List.mem_append.mp z with z | z
   · exact n z
   · rw[List.mem_singleton.mp z,hp] at e
     cases e⟩,fun a z u e=>by rw[upd_ne (ne_of_none e hp)]; exact e⟩
theorem ext_put {p:Addr} {o o1:HO} (hm:p∈β.l) (e1:H p=some o1) (hf:∀ z u,o1 ≠ .frz z u:=by intro _ _ z; cases z):Ext β H β (upd H p o):=⟨⟨[],by simp⟩,rfl,fun b u e n _=>by
 have ne:b≠p:=by
   rintro rfl
   exact n hm
 exact⟨(upd_ne ne).trans e,n⟩,fun b z u e=>by
 have ne:b≠p:=by
   rintro rfl
   rw[e1] at e
   exact hf z u (Option.some.inj e)
 exact (upd_ne ne).trans e⟩
/-- one more thing that may change -/
theorem Sim.push (S:Sim K mg β st H) {p:Addr} {o:HO} {c:C} (hp:H p=none) (hc:CellOk K mg (upd H p o) (β.push p) p c):Sim K mg (β.push p) (st++[c]) (upd H p o):=by
 have hp0:=hp
 have nb:=S.fresh hp
 have x:Ext β H (β.push p) (upd H p o):=ext_push hp
 refine⟨by simp[Bt.push,S.len],?_,fun a ha=>?_,fun i a c' h1 h2=>?_,fun p hp=>(S.tab p hp).imp fun a o e n=>?_⟩
 rotate_right
 · have ne:=ne_of_none e hp0
   exact⟨(upd_ne ne).trans e,fun z=>(List.mem_append.mp z).elim n.1 fun z=>ne (List.mem_singleton.mp z),n.2⟩
 · show (β.l++[p]).Nodup
   rw[List.nodup_append]
   refine⟨S.nd,by simp,fun a ha b hb=>?_⟩
   rw[List.mem_singleton.mp hb]
   rintro rfl
   exact nb.1 ha
 · obtain⟨n,u,e,t⟩:=S.hid a ha
   have ne:a≠p:=ne_of_none e hp
   refine⟨fun z=>?_,u,(upd_ne ne).trans e,t⟩
   rcases List.mem_append.mp z with z | z
   · exact n z
   · exact ne (List.mem_singleton.mp z)
 · change (β.l++[p])[i]? = some a at h1
   by_cases hi:i<st.length
   · rw[List.getElem?_append_left (by rw[S.len]; exact hi)] at h1
     rw[List.getElem?_append_left hi] at h2
     have q:=S.cell i a c' h1 h2
     obtain⟨o',e,_⟩:=q.there
     exact q.ext x (upd_ne (ne_of_none e hp))
   · have h3:i<(st++[c]).length:=(List.getElem?_eq_some_iff.mp h2).1
     have e:i=st.length:=by simp at h3; omega
     subst e
     rw[List.getElem?_append_right (by omega),Nat.sub_self] at h2
     rw[List.getElem?_append_right (by rw[S.len]; omega),S.len,Nat.sub_self] at h1
     simp at h1 h2
     subst h1
     subst h2
     exact hc
theorem extW_put {p:Addr} {o:HO} (hm:p∈β.l):ExtW β H β (upd H p o):=⟨⟨[],by simp⟩,fun b u e n _=>by
 have ne:b≠p:=by
   rintro rfl
   exact n.1 hm
 exact⟨(upd_ne ne).trans e,n⟩⟩
theorem CellOk.extW {a:Addr} {c:C} (x:ExtW β H β' H') (e:H' a=H a) (h:CellOk K mg H β a c):CellOk K mg H' β' a c:=by
 cases c with
 | lst ds=>obtain⟨us,q,r⟩:=h; exact⟨us,e.trans q,r.extW x⟩
 | dct kvs=>obtain⟨us,q,r⟩:=h; exact⟨us,e.trans q,r.1,r.2.extW x⟩
 | dtt kvs=>obtain⟨us,q,r⟩:=h; exact⟨us,e.trans q,r.1,r.2.extW x⟩
 | dtf kvs=>obtain⟨us,bs,q,r,t⟩:=h; exact⟨us,bs,e.trans q,⟨r.1,r.2.extW x⟩,t.extW x⟩
 | lck kvs=>obtain⟨z,us,q,r⟩:=h; exact⟨z,us,e.trans q,r.1,r.2.extW x⟩
 | lct kvs=>obtain⟨z,us,q,r⟩:=h; exact⟨z,us,e.trans q,r.1,r.2.extW x⟩
 | lcf kvs=>obtain⟨z,us,bs,q,r,t⟩:=h; exact⟨z,us,bs,e.trans q,⟨r.1,r.2.extW x⟩,t.extW x⟩
 | obj c fs=>obtain⟨Ca,dx,us,m,q,r⟩:=h; exact⟨Ca,dx,us,m,e.trans q,r.1,r.2.extW x⟩
/-- the thing numbered i has changed -/
theorem Sim.put (S:Sim K mg β st H) {i:Nat} {a:Addr} {o:HO} {c:C} (ha:β.l[i]? = some a) (hc:CellOk K mg (upd H a o) β a c):Sim K mg β (st.set i c) (upd H a o):=by
 have hm:a∈β.l:=List.mem_of_getElem? ha
 have x:ExtW β H β (upd H a o):=extW_put hm
 refine⟨by simp[S.len],S.nd,fun b hb=>?_,fun j b c' h1 h2=>?_,fun p hp=>(S.tab p hp).imp fun b u e n=>⟨(upd_ne fun z=>n.1 (by rw[z]; exact hm)).trans e,n⟩⟩
 · obtain⟨n,u,e,t⟩:=S.hid b hb
   have ne:b≠a:=fun z=>n (by rw[z]; exact hm)
   exact⟨n,u,(upd_ne ne).trans e,t⟩
 · by_cases hj:j=i
   · subst hj
     rw[ha] at h1
     cases h1
     have hl:j<st.length:=by
       have:=(List.getElem?_eq_some_iff.mp h2).1
       simpa using this
     rw[List.getElem?_set_self hl] at h2
     cases h2
     exact hc
   · rw[List.getElem?_set_ne (Ne.symm hj)] at h2
     have ne:b≠a:=fun z=>by
       subst z
       obtain⟨l1,e1⟩:=List.getElem?_eq_some_iff.mp h1
       obtain⟨l2,e2⟩:=List.getElem?_eq_some_iff.mp ha
       exact hj ((List.getElem_inj S.nd).mp (e1.trans e2.symm))
     exact (S.cell j b c' h1 h2).extW x (upd_ne ne)
end
structure EnvR (K:PySem.W.Frag) (H:Hp) (β:Bt) (env:En) (σ:L2.St):Prop where
 len:env.length=σ.length
 get:∀ (i:Nat) (d:D),env[i]? = some (some d) → ∃ u,σ[i]? = some (some u)∧Rep K H β d u
section
variable {K:PySem.W.Frag} {H H':Hp} {β β':Bt} {env:En} {σ:L2.St}
theorem EnvR.ext (e:EnvR K H β env σ) (x:Ext β H β' H'):EnvR K H' β' env σ:=⟨e.len,fun i d h=>by
 obtain⟨u,h1,h2⟩:=e.get i d h
 exact⟨u,h1,h2.ext x⟩⟩
theorem EnvR.set (e:EnvR K H β env σ) {d:D} {u:V} (r:Rep K H β d u) (i:Nat):EnvR K H β (env.set i (some d)) (σ.set i (some u)):=by
 refine⟨by simp[e.len],fun j c h=>?_⟩
 by_cases hj:j=i
 · subst hj
   have hl:j<env.length:=by
     have:=(List.getElem?_eq_some_iff.mp h).1
     simpa using this
   rw[List.getElem?_set_self hl] at h
   cases h
   exact⟨u,by rw[List.getElem?_set_self (by rw[← e.len]; exact hl)],r⟩
 · rw[List.getElem?_set_ne (Ne.symm hj)] at h
   obtain⟨w,h1,h2⟩:=e.get j c h
   exact⟨w,by rw[List.getElem?_set_ne (Ne.symm hj)]; exact h1,h2⟩
/-- fewer slots are known -/
theorem EnvR.less {env':En} (e:EnvR K H β env σ) (hl:env'.length=env.length) (h:∀ (i:Nat) d,env'[i]? = some (some d)→env[i]? = some (some d)):EnvR K H β env' σ :=
 ⟨hl.trans e.len,fun i d q=>e.get i d (h i d q)⟩
end
/-- an exception of the text: its class,its fields -/
def XRep (K:PySem.W.Frag) (mg:MG) (H:Hp) (β:Bt) (c:Str) (fs:List (Str × D)) (cls:Value) (d:Option Addr):Prop :=
 ∃ (Ca dx:Addr) (vs:List (Str × V)),cls = .ref Ca∧mg.f c=some (.ref Ca)∧d=some dx∧β.out dx∧H dx=some (.xd vs)∧RepF K H β fs vs
def Post {α ρ:Type} (K:PySem.W.Frag) (mg:MG) (R:Hp→Bt→α→ρ→Prop) (E:XK) (β:Bt) (H:Hp) (Q:ρ→Hp→Prop):Out α→Prop
 | .ok a st=>∀ β' H' u,Ext β H β' H'→Sim K mg β' st H'→R H' β' a u→Q u H'
 | .exc c fs st=>∀ β' H' cls d,Ext β H β' H'→Sim K mg β' st H'→XRep K mg H' β' c fs cls d→E cls d H'
 | .bad=>False
abbrev rD (K:PySem.W.Frag):Hp→Bt→D→V→Prop:=fun H β d u=>Rep K H β d u
abbrev rDs (K:PySem.W.Frag):Hp→Bt→List D→List V→Prop:=fun H β d u=>Reps K H β d u
abbrev rB:Hp→Bt→Bool→Bool→Prop:=fun _ _ a b=>a=b
section
variable {α ρ:Type} {K:PySem.W.Frag} {mg:MG} {R:Hp→Bt→α→ρ→Prop} {E:XK} {β β':Bt} {H H':Hp} {Q Q':ρ→Hp→Prop}
theorem Post.ext {o:Out α} (x:Ext β H β' H') (h:Post K mg R E β H Q o):Post K mg R E β' H' Q o:=by
 cases o with
 | ok a st=>exact fun β2 H2 u x2 s r=>h β2 H2 u (x.trans x2) s r
 | exc c fs st=>exact fun β2 H2 cls d x2 s r=>h β2 H2 cls d (x.trans x2) s r
 | bad=>exact h
end
/-- the reading of a plain function -/
def tG {α ρ:Type} (K:PySem.W.Frag) (mg:MG) (R:Hp→Bt→α→ρ→Prop) (E:XK) (f:En→AS→Out α):L2.St→Hp→(ρ→Hp→Prop)→Prop :=
 fun σ H Q=>∃ (β:Bt) (env:En) (st:AS),EnvR K H β env σ∧Sim K mg β st H∧Post K mg R E β H Q (f env st)
/-- the first step of two -/
theorem tG_bind {α ρ γ τ : Type} {K : PySem.W.Frag} {mg : MG} {R : Hp → Bt → α → ρ → Prop} {R' : Hp → Bt → γ → τ → Prop} {E : XK} {β : Bt} {H : Hp} {Q : τ → Hp → Prop} {Q' : ρ → Hp → Prop}
   {f:En→AS→Out α} {k:α→AS→Out γ} {env:En} {st:AS} {σ:L2.St} (he:EnvR K H β env σ) (hs:Sim K mg β st H) (h:Post K mg R' E β H Q ((f env st).bind k))
   (hk:∀ a st1 β1 H1 u,Ext β H β1 H1→Sim K mg β1 st1 H1→EnvR K H1 β1 env σ→R H1 β1 a u→Post K mg R' E β1 H1 Q (k a st1)→Q' u H1):tG K mg R E f σ H Q':=by
 refine⟨β,env,st,he,hs,?_⟩
 cases e:f env st with
 | ok a st1 =>
   rw[e] at h
   exact fun β1 H1 u x s r=>hk a st1 β1 H1 u x s (he.ext x) r (h.ext x)
 | exc c fs st1 =>
   rw[e] at h
   exact h
 | bad =>
   rw[e] at h
   exact h
abbrev tV (K:PySem.W.Frag) (mg:MG) (E:XK) (f:En→AS→Out D):TE:=tG K mg (rD K) E f
abbrev tVA (K:PySem.W.Frag) (mg:MG) (E:XK) (f:En→AS→Out (List D)):TA:=tG K mg (rDs K) E f
abbrev tVT (K:PySem.W.Frag) (mg:MG) (E:XK) (f:En→AS→Out Bool):TT:=tG K mg rB E f
abbrev VE (X:Cx) (E:XK) (e:Expr) (f:En→AS→Out D):Prop:=PE X e (tV X.K X.mgw E f)
abbrev VT (X:Cx) (E:XK) (e:Expr) (f:En→AS→Out Bool):Prop:=PT X e (tVT X.K X.mgw E f)
abbrev VW (X:Cx) (E:XK) (e:Expr) (f:En→AS→Out Bool):Prop:=PW X e (tVT X.K X.mgw E f)
abbrev VA (X:Cx) (E:XK) (es:List Expr) (f:En→AS→Out (List D)):Prop:=PA X es (tVA X.K X.mgw E f)
theorem weakE {X:Cx} {e:Expr} {t t':TE} (h:PE X e t) (w:∀ σ H Q,t' σ H Q→t σ H Q):PE X e t':=⟨fun pins s σ H Q I q=>h.run pins s σ H Q I (w σ H Q q)⟩
theorem weakT {X:Cx} {e:Expr} {t t':TT} (h:PT X e t) (w:∀ σ H Q,t' σ H Q→t σ H Q):PT X e t':=⟨fun pins s σ H Q I q=>h.run pins s σ H Q I (w σ H Q q)⟩
theorem weakW {X:Cx} {e:Expr} {t t':TT} (h:PW X e t) (w:∀ σ H Q,t' σ H Q→t σ H Q):PW X e t':=⟨fun wh pins s σ H Q I q=>h.run wh pins s σ H Q I (w σ H Q q)⟩
theorem weakA {X:Cx} {es:List Expr} {t t':TA} (h:PA X es t) (w:∀ σ H Q,t' σ H Q→t σ H Q):PA X es t':=⟨fun pos pins s σ H Q I q=>h.run pos pins s σ H Q I (w σ H Q q)⟩
theorem weakS {X:Cx} {st:Stmt} {t t':TS} (h:PS X st t) (w:∀ De σ H,t' De σ H→t De σ H):PS X st t':=⟨fun pins s σ H De I q=>h.run pins s σ H De I (w De σ H q)⟩
theorem weakSs {X:Cx} {st:List Stmt} {t t':TS} (h:PSs X st t) (w:∀ De σ H,t' De σ H→t De σ H):PSs X st t':=⟨fun pins s σ H De I q=>h.run pins s σ H De I (w De σ H q)⟩
end VL
namespace TB
open PySem PySem.Spec PyProof.Rows L2
section
variable {l:Addr} {its:List Value} {ns:List Int} {prog:Program} {w:World} {A:Around} {s:Shared} {Q E:Value→Shared→Prop}
theorem tup_old {h':Heap} {ob:Obj} (kept:∀ b o,b∉[s.heap.objs.size]→(s.heap.push ob).get? b=some o→h'.get? b=some o):∀ b o,s.heap.get? b=some o→h'.get? b=some o:=fun b o e =>
 kept b o (fun z=>by
   have z':b=s.heap.objs.size:=by simpa using z
   have:=Heap.lt_size e
   rw[z'] at this
   exact Nat.lt_irrefl _ this) (Heap.get?_push_of_some _ e)
theorem tup_fp {ob:Obj} {xs:Array Value} (hl:s.heap.IsTuple l xs):l<s.heap.objs.size ∧ ∀ b∈[s.heap.objs.size,l],b<(s.heap.push ob).objs.size:=by
 obtain⟨o,ho,_⟩:=hl
 have lt:=Heap.lt_size ho
 refine⟨lt,fun b hb=>?_⟩
 rw[Heap.size_push]
 have:b=s.heap.objs.size∨b=l:=by simpa using hb
 rcases this with rfl | rfl
 · exact Nat.lt_succ_self _
 · exact Nat.lt_succ_of_lt lt
theorem sum_tupR (hh : A.handled = none) (hl : s.heap.IsTuple l its.toArray) (hi : IntsAre its ns)
   (told:∀ h' tk t',(∀ b o,s.heap.get? b=some o→h'.get? b=some o)→Q (.int ns.sum t') { s with heap:=h',toks:=tk }):wpAny (model prog w) A (call (.builtin "sum") [.ref l]) Q E s:=by
 obtain⟨pairs,e⟩:=hi.allInts.items
 have nums:numsOf (intItems pairs).toList=ns:=by rw[← e]; exact hi.numsOf
 rw[nums_intItems] at nums
 rw[e] at hl
 refine call_sum_walkG (wpAny_pyIter_tuple hl ?_)
 refine⟨_,[_,l],[_],_,_,_,numAt pairs,rfl,Walks.tuple (A:=A.in1) hh _ l (Nat.ne_of_lt (tup_fp (ob:=default) hl).1) (intItems pairs),⟨⟨_,Heap.get?_push_size _ rfl,rfl,rfl⟩,hl.push _⟩,(tup_fp hl).2,fun _ _=>intItems_at,fun h' tk t' hk=>?_⟩
 have q:=told h' tk t' (tup_old hk)
 have ez:(intItems pairs).size=pairs.size:=by simp[intItems]
 rw[ez,preSum_eq,List.take_of_length_le (by simp),nums]
 exact q
theorem min_tupR (hh : A.handled = none) (hl : s.heap.IsTuple l its.toArray) (hi : IntsAre its ns) (hne : 0 < ns.length)
   (told:∀ h' tk M t',(∀ b o,s.heap.get? b=some o→h'.get? b=some o)→M∈ns→(∀ a,a∈ns→M≤a)→Q (.int M t') { s with heap:=h',toks:=tk }):wpAny (model prog w) A (call (.builtin "min") [.ref l]) Q E s:=by
 obtain⟨pairs,e⟩:=hi.allInts.items
 have nums:numsOf (intItems pairs).toList=ns:=by rw[← e]; exact hi.numsOf
 rw[nums_intItems] at nums
 subst nums
 rw[e] at hl
 have some1:0<pairs.size:=by simpa using hne
 refine call_min_walk (wpAny_pyIter_tuple hl ?_)
 refine⟨_,[_,l],[_],_,_,_,_,rfl,Walks.tuple (A:=A.in1) hh _ l (Nat.ne_of_lt (tup_fp (ob:=default) hl).1) (intItems pairs),⟨⟨_,Heap.get?_push_size _ rfl,rfl,rfl⟩,hl.push _⟩,(tup_fp hl).2,by simpa [intItems] using some1,CmpOf.ints_lt (numAt pairs) (fun _ _=>intItems_at),fun v h' tk hP hk=>?_⟩
 have ez:(intItems pairs).size=pairs.size:=by simp[intItems]
 rw[ez] at hP
 obtain⟨t,rfl⟩:=intItems_at hP
 obtain⟨_,least⟩:=argBest_lt (numAt pairs) (pairs.size-1)
 refine told h' tk _ t (tup_old hk) ?_ fun a ha=>?_
 · rw[numAt_eq]
   exact PySem.getD_mem (by rw[List.length_map,Array.length_toList]; omega)
 · obtain⟨i,hi',rfl⟩:=mem_getD ha
   have lt:i<pairs.toList.length:=by simpa using hi'
   rw[Array.length_toList] at lt
   exact numAt_eq .. ▸ least i (by omega)
theorem max_tupR (hh : A.handled = none) (hl : s.heap.IsTuple l its.toArray) (hi : IntsAre its ns) (hne : 0 < ns.length)
   (told:∀ h' tk M t',(∀ b o,s.heap.get? b=some o→h'.get? b=some o)→M∈ns→(∀ a,a∈ns→a≤M)→Q (.int M t') { s with heap:=h',toks:=tk }):wpAny (model prog w) A (call (.builtin "max") [.ref l]) Q E s:=by
 obtain⟨pairs,e⟩:=hi.allInts.items
 have nums:numsOf (intItems pairs).toList=ns:=by rw[← e]; exact hi.numsOf
 rw[nums_intItems] at nums
 subst nums
 rw[e] at hl
 have some1:0<pairs.size:=by simpa using hne
 refine call_max_walk (wpAny_pyIter_tuple hl ?_)
 refine⟨_,[_,l],[_],_,_,_,_,rfl,Walks.tuple (A:=A.in1) hh _ l (Nat.ne_of_lt (tup_fp (ob:=default) hl).1) (intItems pairs),⟨⟨_,Heap.get?_push_size _ rfl,rfl,rfl⟩,hl.push _⟩,(tup_fp hl).2,by simpa [intItems] using some1,CmpOf.ints_gt (numAt pairs) (fun _ _=>intItems_at),fun v h' tk hP hk=>?_⟩
 have ez:(intItems pairs).size=pairs.size:=by simp[intItems]
 rw[ez] at hP
 obtain⟨t,rfl⟩:=intItems_at hP
 obtain⟨_,most⟩:=argBest_gt (numAt pairs) (pairs.size-1)
 refine told h' tk _ t (tup_old hk) ?_ fun a ha=>?_
 · rw[numAt_eq]
   exact PySem.getD_mem (by rw[List.length_map,Array.length_toList]; omega)
 · obtain⟨i,hi',rfl⟩:=mem_getD ha
   have lt:i<pairs.toList.length:=by simpa using hi'
   rw[Array.length_toList] at lt
   exact numAt_eq .. ▸ most i (by omega)
end
section
variable {X:Cx}
def rSumT (K:PySem.W.Frag):List V→Hp→VK→Prop:=fun vs H Q=>∃ (a:Addr) (ns:List Int),vs=[V.ref a]∧SqT K H a (ns.map V.int)∧Q (.int ns.sum) H
def rMaxT (K:PySem.W.Frag):List V→Hp→VK→Prop:=fun vs H Q=>∃ (a:Addr) (ns:List Int),vs=[V.ref a]∧SqT K H a (ns.map V.int)∧0<ns.length ∧ ∀ m,m∈ns→(∀ y,y∈ns→y≤m)→Q (.int m) H
def rMinT (K:PySem.W.Frag):List V→Hp→VK→Prop:=fun vs H Q=>∃ (a:Addr) (ns:List Int),vs=[V.ref a]∧SqT K H a (ns.map V.int)∧0<ns.length ∧ ∀ m,m∈ns→(∀ y,y∈ns→m≤y)→Q (.int m) H
theorem call_sumT (hc:X.calm=true):CallR X (.builtin "sum") (rSumT X.K):=by
 intro pins s σ H vs us Q I rel h
 obtain⟨t,ns,rfl,at_t,q⟩:=h
 obtain⟨its,rv,hl,_⟩:=I.tuple at_t
 rw[Vals.ref1 rel]
 exact sum_tupR (I.ok.hd hc) hl rv.ints fun h' tk t' hk=>⟨.int _,H,I.kept hk,⟨_,rfl⟩,q⟩
theorem call_maxT (hc:X.calm=true):CallR X (.builtin "max") (rMaxT X.K):=by
 intro pins s σ H vs us Q I rel h
 obtain⟨t,ns,rfl,at_t,hne,q⟩:=h
 obtain⟨its,rv,hl,_⟩:=I.tuple at_t
 rw[Vals.ref1 rel]
 exact max_tupR (I.ok.hd hc) hl rv.ints hne fun h' tk m t' hk h1 h2=>⟨.int m,H,I.kept hk,⟨_,rfl⟩,q m h1 h2⟩
theorem call_minT (hc:X.calm=true):CallR X (.builtin "min") (rMinT X.K):=by
 intro pins s σ H vs us Q I rel h
 obtain⟨t,ns,rfl,at_t,hne,q⟩:=h
 obtain⟨its,rv,hl,_⟩:=I.tuple at_t
 rw[Vals.ref1 rel]
 exact min_tupR (I.ok.hd hc) hl rv.ints hne fun h' tk m t' hk h1 h2=>⟨.int m,H,I.kept hk,⟨_,rfl⟩,q m h1 h2⟩
end
section
variable {w:World} {prog:Program} {s:Shared} {A:Around}
/-- nextOf i tells x and leaves T,from any state that keeps what s has but at the places off -/
def NextIs (prog:Program) (w:World) (s:Shared) (off:List Addr) (i:Addr) (x:Value) (T:Heap→Prop):Prop :=
 ∀ (B:Around) (u:Shared) (Q:Value→Shared→Prop) (E:Value→Shared→Prop),(∀ c o,c∉off→s.heap.get? c=some o→u.heap.get? c=some o) →
   (∀ g,T g→Heap.SameBut i u.heap g→Q x { u with heap:=g })→wpAny (model prog w) B (Builtin.SmallTypes.nextOf (.ref i)) Q E u
/-- nextOf i stops -/
def NextEnds (prog:Program) (w:World) (s:Shared) (off:List Addr) (i:Addr):Prop :=
 ∀ (B:Around) (u:Shared) (Q:Value→Shared→Prop) (E:Value→Shared→Prop),B.handled=none→(∀ c o,c∉off→s.heap.get? c=some o→u.heap.get? c=some o) →
   (∀ g e,Heap.ExtBut i u.heap g→(∃ o,g.get? e=some o∧o.cls = .type "StopIteration")→E (.ref e) { u with heap:=g })→wpAny (model prog w) B (Builtin.SmallTypes.nextOf (.ref i)) Q E u
/-- the five places of a zip are five -/
structure Five (z TI TO i j:Addr):Prop where
 a:TI≠z
 b:TO≠z
 c:i≠z
 d:j≠z
 e:TO≠i
 f:TO≠j
 g:i≠j
theorem zip_step {E : Value → Shared → Prop} {z TI TO i j : Addr} {x y a b : Value} {T1 T2 : Heap → Prop} {Q : Option Value → Shared → Prop} (F : Five z TI TO i j)
   (hz:IsZip s.heap z TI TO .none) (hTI:IsPair s.heap TI (.ref i) (.ref j)) (hTO:IsPair s.heap TO a b)
   (lt:i<s.heap.objs.size∧j<s.heap.objs.size)
   (n1:NextIs prog w s [z] i x T1) (n2:NextIs prog w s [z,i,TO] j y T2)
   (k1:∀ g g':Heap,T1 g→(∀ o,g.get? i=some o→g'.get? i=some o)→T1 g') (k2:∀ g g':Heap,T2 g→(∀ o,g.get? j=some o→g'.get? j=some o)→T2 g')
   (hQ:∀ g,IsZip g z TI TO (rawInt s.heap.objs.size)→IsPair g TO x y→T1 g→T2 g→IsPair g s.heap.objs.size x y→g.objs.size=s.heap.objs.size+1 →
     (∀ c o,c∉[z,TO,i,j]→s.heap.get? c=some o→g.get? c=some o)→Q (some (.ref s.heap.objs.size)) { s with heap:=g }) :
   wpAny (model prog w) A (pyNext (Value.ref z)) Q E s:=by
 have isZ:s.TypeIs (.ref z) "zip" := ⟨_,hz,rfl⟩
 unfold pyNext
 refine wpAny_bind (wpAny_attempt (wpAny_callSpecial?_slot (name:=Str.ofString "__next__") isZ PySem.F.slot_zip_next (wpAny_call_entry PySem.F.slot_zip_next isZ PySem.F.entry_zip_next ?_ (PySem.F.args_zip_next_1 _))))
 show wpAny _ _ (field (Value.ref z) 2 >>= _) _ _ _
 apply wpAny_bind
 refine wpAny_field hz rfl (x:=.bool false) rfl ?_
 show wpAny _ _ (field (Value.ref z) 3 >>= _) _ _ _
 apply wpAny_bind
 refine wpAny_field hz rfl (x:=.ref TI) rfl ?_
 apply wpAny_bind
 refine wpAny_seqItems hTI rfl ?_
 show wpAny _ _ (Builtin.SmallTypes.ownedTupleIsFree (Value.ref z) >>= _) _ _ _
 apply wpAny_bind; unfold Builtin.SmallTypes.ownedTupleIsFree; apply wpAny_bind
 refine wpAny_field hz rfl (x:=.none) rfl (wpAny_pure ?_)
 simp only[if_true]
 apply wpAny_bind
 refine wpAny_rule ?_
 apply wpAny_bind
 refine wpAny_field hz rfl (x:=.ref TO) rfl ?_
 apply wpAny_bind
 refine wpAny_setField_rec hz (by simp) fun g1 z1 s1=>?_
 replace z1:IsZip g1 z TI TO .ellipsis:=z1
 apply wpAny_bind
 simp only[List.forIn_cons,List.forIn_nil,List.zipIdx_cons,List.zipIdx_nil]
 iterate 2 apply wpAny_bind
 apply wpAny_onRaise
 show wpAny _ _ (Builtin.SmallTypes.nextOf (.ref i) >>= _) _ _ _
 apply wpAny_bind
 refine n1 _ _ _ _ (fun c o n e=>s1.extBut _ _ (by simpa using n) e) fun g2 t2 s2=>wpAny_pure ?_
 have o2:IsPair g2 TO a b:=s2.extBut _ _ F.e (s1.extBut _ _ F.b hTO)
 apply wpAny_bind
 refine wpAny_seqItems o2 rfl ?_
 apply wpAny_bind
 refine wpAny_updateSeq_pair o2 fun g3 o3 s3=>?_
 replace o3:IsPair g3 TO x b:=o3
 apply wpAny_bind
 refine wpAny_letGo (wpAny_pure ?_)
 iterate 2 apply wpAny_bind
 apply wpAny_onRaise
 show wpAny _ _ (Builtin.SmallTypes.nextOf (.ref j) >>= _) _ _ _
 apply wpAny_bind
 refine n2 _ _ _ _ (fun c o n e=>?_) fun g4 t4 s4=>wpAny_pure ?_
 · have n':c≠z∧c≠i∧c≠TO:=by simpa using n
   exact s3.extBut _ _ n'.2.2 (s2.extBut _ _ n'.2.1 (s1.extBut _ _ n'.1 e))
 have o4:IsPair g4 TO x b:=s4.extBut _ _ F.f o3
 apply wpAny_bind
 refine wpAny_seqItems o4 rfl ?_
 apply wpAny_bind
 refine wpAny_updateSeq_pair o4 fun g5 o5 s5=>?_
 replace o5:IsPair g5 TO x y:=o5
 apply wpAny_bind
 refine wpAny_letGo (wpAny_pure (wpAny_pure ?_))
 apply wpAny_bind
 refine wpAny_seqItems o5 rfl ?_
 apply wpAny_bind
 refine wpAny_newTuple ?_
 have size5:g5.objs.size=s.heap.objs.size:=by rw[s5.1,s4.1,s3.1,s2.1,s1.1]
 have z5:IsZip g5 z TI TO .ellipsis:=s5.extBut _ _ F.b.symm (s4.extBut _ _ F.d.symm (s3.extBut _ _ F.b.symm (s2.extBut _ _ F.c.symm z1)))
 have kept5:∀ c o,c∉[z,TO,i,j]→s.heap.get? c=some o→g5.get? c=some o:=fun c o n e=>by
   have n':c≠z∧c≠TO∧c≠i∧c≠j:=by simpa using n
   exact s5.extBut _ _ n'.2.1 (s4.extBut _ _ n'.2.2.2 (s3.extBut _ _ n'.2.1 (s2.extBut _ _ n'.2.2.1 (s1.extBut _ _ n'.1 e))))
 have u1:T1 g5:=k1 _ _ t2 fun o e=>s5.extBut _ _ F.e.symm (s4.extBut _ _ F.g (s3.extBut _ _ F.e.symm e))
 have u2:T2 g5:=k2 _ _ t4 fun o e=>s5.extBut _ _ F.f.symm e
 have zl:z<g5.objs.size:=Heap.lt_size z5
 show wpAny _ _ (Builtin.SmallTypes.ownedTupleHandOut (.ref z) (.ref g5.objs.size) >>= _) _ _ _
 apply wpAny_bind; unfold Builtin.SmallTypes.ownedTupleHandOut
 have z6:IsZip (g5.push { cls:=.type "tuple",data:=.seq #[x,y] }) z TI TO .ellipsis:=Heap.get?_push_of_some _ z5
 apply wpAny_bind
 refine wpAny_setField_rec z6 (by simp) fun g7 z7 s7=>?_
 replace z7:IsZip g7 z TI TO (rawInt g5.objs.size):=z7
 refine wpAny_setField_rec z7 (by simp) fun g8 z8 s8=>?_
 replace z8:IsZip g8 z TI TO (rawInt g5.objs.size):=z8
 have up:∀ c o,c≠z→g5.get? c=some o→g8.get? c=some o:=fun c o n e=>s8.extBut _ _ n (s7.extBut _ _ n (Heap.get?_push_of_some _ e))
 have pair8:IsPair g8 g5.objs.size x y:=s8.extBut _ _ (Nat.ne_of_gt zl) (s7.extBut _ _ (Nat.ne_of_gt zl) (Heap.get?_push_size _ rfl))
 have size8:g8.objs.size=g5.objs.size+1:=by rw[s8.1,s7.1,Heap.size_push]
 rw[size5] at z8 pair8 size8
 refine wpAny_pure ⟨_,rfl,wpAny_pure ?_⟩
 show Q (some (.ref g5.objs.size)) _
 rw[size5]
 exact hQ g8 z8 (up _ _ F.b o5) (k1 _ _ u1 fun o e=>up _ o F.c e) (k2 _ _ u2 fun o e=>up _ o F.d e) pair8 size8 fun c o n e=>up c o (by simp at n; exact n.1) (kept5 c o n e)
theorem zip_stop0 {E : Value → Shared → Prop} {z TI TO i j : Addr} {a b : Value} {Q : Fin → Shared → Prop} (hh : A.handled = none) (F : Five z TI TO i j)
   (hz:IsZip s.heap z TI TO .none) (hTI:IsPair s.heap TI (.ref i) (.ref j)) (hTO:IsPair s.heap TO a b)
   (n:NextEnds prog w s [z] i∨(∃ (x:Value) (T:Heap→Prop),NextIs prog w s [z] i x T)∧NextEnds prog w s [z,i,TO] j)
   (fin:∀ (g:Heap) (e:Addr),(∃ o,g.get? e=some o∧o.cls = .type "StopIteration")→(∀ c o,c∉[z,TO,i,j]→s.heap.get? c=some o→g.get? c=some o)→E (.ref e) { s with heap:=g }) :
   wpAny (model prog w) A (Builtin.«zip.__next__» ⟨[Value.ref z],[]⟩) Q E s:=by
 show wpAny _ _ (field (Value.ref z) 2 >>= _) _ _ _
 apply wpAny_bind
 refine wpAny_field hz rfl (x:=.bool false) rfl ?_
 show wpAny _ _ (field (Value.ref z) 3 >>= _) _ _ _
 apply wpAny_bind
 refine wpAny_field hz rfl (x:=.ref TI) rfl ?_
 apply wpAny_bind
 refine wpAny_seqItems hTI rfl ?_
 show wpAny _ _ (Builtin.SmallTypes.ownedTupleIsFree (Value.ref z) >>= _) _ _ _
 apply wpAny_bind; unfold Builtin.SmallTypes.ownedTupleIsFree; apply wpAny_bind
 refine wpAny_field hz rfl (x:=.none) rfl (wpAny_pure ?_)
 simp only[if_true]
 apply wpAny_bind
 refine wpAny_rule ?_
 apply wpAny_bind
 refine wpAny_field hz rfl (x:=.ref TO) rfl ?_
 apply wpAny_bind
 refine wpAny_setField_rec hz (by simp) fun g1 z1 s1=>?_
 replace z1:IsZip g1 z TI TO .ellipsis:=z1
 apply wpAny_bind
 simp only[List.forIn_cons,List.forIn_nil,List.zipIdx_cons,List.zipIdx_nil]
 iterate 2 apply wpAny_bind
 apply wpAny_onRaise
 show wpAny _ _ (Builtin.SmallTypes.nextOf (.ref i) >>= _) _ _ _
 rcases n with n | ⟨⟨x,T,n⟩,n'⟩
 · apply wpAny_bind
   refine n _ _ _ _ hh (fun c o m e=>s1.extBut _ _ (by simpa using m) e) fun g2 e s2 he=>?_
   obtain⟨oe,hoe,hce⟩:=he
   have z2:IsZip g2 z TI TO .ellipsis:=s2 _ _ F.c.symm z1
   have nez:e≠z:=fun q=>by subst q; rw[z2] at hoe; cases hoe; simp at hce
   refine wpAny_setField_rec z2 (by simp) fun g3 _ s3=>?_
   refine fin g3 e ⟨oe,s3.extBut _ _ nez hoe,hce⟩ fun c o m q=>?_
   have m':c≠z∧c≠TO∧c≠i∧c≠j:=by simpa using m
   exact s3.extBut _ _ m'.1 (s2 _ _ m'.2.2.1 (s1.extBut _ _ m'.1 q))
 · apply wpAny_bind
   refine n _ _ _ _ (fun c o m e=>s1.extBut _ _ (by simpa using m) e) fun g2 t2 s2=>wpAny_pure ?_
   have o2:IsPair g2 TO a b:=s2.extBut _ _ F.e (s1.extBut _ _ F.b hTO)
   apply wpAny_bind
   refine wpAny_seqItems o2 rfl ?_
   apply wpAny_bind
   refine wpAny_updateSeq_pair o2 fun g3 o3 s3=>?_
   apply wpAny_bind
   refine wpAny_letGo (wpAny_pure ?_)
   iterate 2 apply wpAny_bind
   apply wpAny_onRaise
   show wpAny _ _ (Builtin.SmallTypes.nextOf (.ref j) >>= _) _ _ _
   apply wpAny_bind
   refine n' _ _ _ _ hh (fun c o m e=>?_) fun g4 e s4 he=>?_
   · have m':c≠z∧c≠i∧c≠TO:=by simpa using m
     exact s3.extBut _ _ m'.2.2 (s2.extBut _ _ m'.2.1 (s1.extBut _ _ m'.1 e))
   obtain⟨oe,hoe,hce⟩:=he
   have z4:IsZip g4 z TI TO .ellipsis:=s4 _ _ F.d.symm (s3.extBut _ _ F.b.symm (s2.extBut _ _ F.c.symm z1))
   have nez:e≠z:=fun q=>by subst q; rw[z4] at hoe; cases hoe; simp at hce
   refine wpAny_setField_rec z4 (by simp) fun g5 _ s5=>?_
   refine fin g5 e ⟨oe,s5.extBut _ _ nez hoe,hce⟩ fun c o m q=>?_
   have m':c≠z∧c≠TO∧c≠i∧c≠j:=by simpa using m
   exact s5.extBut _ _ m'.1 (s4 _ _ m'.2.2.2 (s3.extBut _ _ m'.2.1 (s2.extBut _ _ m'.2.2.1 (s1.extBut _ _ m'.1 q))))
theorem zip_stop {E : Value → Shared → Prop} {z TI TO i j : Addr} {a b : Value} {Q : Option Value → Shared → Prop} (hh : A.handled = none) (F : Five z TI TO i j)
   (hz:IsZip s.heap z TI TO .none) (hTI:IsPair s.heap TI (.ref i) (.ref j)) (hTO:IsPair s.heap TO a b)
   (n:NextEnds prog w s [z] i∨(∃ (x:Value) (T:Heap→Prop),NextIs prog w s [z] i x T)∧NextEnds prog w s [z,i,TO] j)
   (hQ:∀ g,(∀ c o,c∉[z,TO,i,j]→s.heap.get? c=some o→g.get? c=some o)→Q none { s with heap:=g }) :
   wpAny (model prog w) A (pyNext (Value.ref z)) Q E s:=by
 have isZ:s.TypeIs (.ref z) "zip" := ⟨_,hz,rfl⟩
 unfold pyNext
 refine wpAny_bind (wpAny_attempt (wpAny_callSpecial?_slot (name:=Str.ofString "__next__") isZ PySem.F.slot_zip_next (wpAny_call_entry PySem.F.slot_zip_next isZ PySem.F.entry_zip_next ?_ (PySem.F.args_zip_next_1 _))))
 refine zip_stop0 (A:=A.in1) hh F hz hTI hTO n fun g e he hk=>?_
 obtain⟨o,ho,hc⟩:=he
 apply wpAny_bind
 exact wpAny_isInstance (T:="StopIteration") (b:=true) ⟨o,ho,hc⟩ isSubtype_stop (wpAny_pure (hQ _ hk))
theorem next_tup {i l : Addr} {k : Nat} {xs : Array Value} {x : Value} {off : List Addr} (hi : s.heap.IsTupleIter i l k) (hl : s.heap.IsTuple l xs) (hx : xs[k]? = some x) (ni : i ∉ off) (nl : l ∉ off) :
   NextIs prog w s off i x (fun g=>g.IsTupleIter i l (k+1)):=fun B u Q E hk h =>
 RZ.nextOf_tuple_item (hi.at fun o e=>hk _ o ni e) (hl.at fun o e=>hk _ o nl e) hx h
theorem next_lst {i l : Addr} {k : Nat} {xs : Array Value} {x : Value} {off : List Addr} (hi : s.heap.IsListIter i l k) (hl : s.heap.IsList l xs) (hx : xs[k]? = some x) (ni : i ∉ off) (nl : l ∉ off) :
   NextIs prog w s off i x (fun g=>g.IsListIter i l (k+1)):=fun B u Q E hk h =>
 wpAny_nextOf_list_item (hi.at fun o e=>hk _ o ni e) (hl.at fun o e=>hk _ o nl e) hx h
theorem ends_tup {i l : Addr} {k : Nat} {xs : Array Value} {off : List Addr} (hi : s.heap.IsTupleIter i l k) (hl : s.heap.IsTuple l xs) (hx : xs[k]? = none) (ni : i ∉ off) (nl : l ∉ off) :
   NextEnds prog w s off i:=fun B u Q E hh hk h =>
 RZ.nextOf_tuple_end hh (hi.at fun o e=>hk _ o ni e) (hl.at fun o e=>hk _ o nl e) hx h
theorem ends_lst {i l : Addr} {k : Nat} {xs : Array Value} {off : List Addr} (hi : s.heap.IsListIter i l k) (hl : s.heap.IsList l xs) (hx : xs[k]? = none) (ni : i ∉ off) (nl : l ∉ off) :
   NextEnds prog w s off i:=fun B u Q E hh hk h =>
 wpAny_nextOf_list_end hh (hi.at fun o e=>hk _ o ni e) (hl.at fun o e=>hk _ o nl e) hx h
end
abbrev zTL1 (h:Heap) (a:Addr):Heap:=h.push { cls:=.type "tuple_iterator",data:=.fields #[.ref a,.int 0 0] }
abbrev zTL2 (h:Heap) (a b:Addr):Heap:=(zTL1 h a).push { cls:=.type "list_iterator",data:=.fields #[.ref b,.int 0 0] }
abbrev zTL3 (h:Heap) (a b:Addr):Heap:=(zTL2 h a b).push { cls:=.type "tuple",data:=.seq #[.ref h.objs.size,.ref (zTL1 h a).objs.size] }
abbrev zTL4 (h:Heap) (a b:Addr):Heap:=(zTL3 h a b).push { cls:=.type "tuple",data:=.seq #[.none,.none] }
abbrev zTL5 (h:Heap) (a b:Addr):Heap:=(zTL4 h a b).push { cls:=.type "zip",data:=.fields #[.none,.bool false,.bool false,.ref (zTL2 h a b).objs.size,.ref (zTL3 h a b).objs.size] }
theorem zTL_new (a b : Addr) (xs ys : Array Value) :
   Meets (Builtin.«zip.__new__» ⟨[.type "zip",.ref a,.ref b],[]⟩) (fun _ R s=>s.heap.IsTuple a xs∧s.heap.IsList b ys∧R (.ok (.ret (.ref (zTL4 s.heap a b).objs.size))) { s with heap:=zTL5 s.heap a b }) :=
 .of_wp fun prog w A R st h=>by
   obtain⟨hp,g,d,tk,os⟩:=st
   obtain⟨ha,hb,h⟩:=h
   have sub:=sub_zip
   have iA:Heap.IsTuple (Shared.heap ⟨hp,g,d,tk,os⟩) a xs:=ha
   have iB:Heap.IsList (Shared.heap ⟨hp.push { cls:=.type "tuple_iterator",data:=.fields #[.ref a,.int 0 0] },g,d,tk,os⟩) b ys:=Heap.IsList.push hb _
   wp_walk using wpAny_pyIter_tuple iA,wpAny_pyIter_list iB
   exact⟨_,rfl,h⟩
section
variable {prog:Program} {w:World} {A:Around} {E:Value→Shared→Prop} {s:Shared}
theorem call_zTL {a b : Addr} {xs ys : Array Value} {Q : Value → Shared → Prop} (ha : s.heap.IsTuple a xs) (hb : s.heap.IsList b ys)
   (h:∀ (n:Nat) (g:Heap),n=s.heap.objs.size→IsZip g (n+4) (n+2) (n+3) .none→IsPair g (n+2) (.ref n) (.ref (n+1))→IsPair g (n+3) .none .none→g.IsTupleIter n a 0→g.IsListIter (n+1) b 0 →
     (∀ c o,s.heap.get? c=some o→g.get? c=some o)→Q (.ref (n+4)) { s with heap:=g }) :
   wpAny (model prog w) A (call (.type "zip") [.ref a,.ref b]) Q E s:=by
 refine callType_new PySem.F.called_zip (by decide) (PySem.F.typeCall_zip_2 _ _) (PySem.F.newCall_zip_2 _ _) (fun o=>PySem.F.args_object_init_3 o _ _) PySem.F.entry_zip_new (zTL_new a b xs ys) ⟨ha,hb,?_⟩
 have e1:(zTL1 s.heap a).objs.size=s.heap.objs.size+1:=Heap.size_push ..
 have e2:(zTL2 s.heap a b).objs.size=s.heap.objs.size+2:=by rw[Heap.size_push,e1]
 have e3:(zTL3 s.heap a b).objs.size=s.heap.objs.size+3:=by rw[Heap.size_push,e2]
 have e4:(zTL4 s.heap a b).objs.size=s.heap.objs.size+4:=by rw[Heap.size_push,e3]
 have g5:(zTL5 s.heap a b).get? (zTL4 s.heap a b).objs.size=some _:=Heap.get?_push_size _ rfl
 have g4:(zTL5 s.heap a b).get? (zTL3 s.heap a b).objs.size=some _:=Heap.get?_push_of_some _ (Heap.get?_push_size _ rfl)
 have g3:(zTL5 s.heap a b).get? (zTL2 s.heap a b).objs.size=some _:=Heap.get?_push_of_some _ (Heap.get?_push_of_some _ (Heap.get?_push_size _ rfl))
 have g2:(zTL5 s.heap a b).get? (zTL1 s.heap a).objs.size=some _:=Heap.get?_push_of_some _ (Heap.get?_push_of_some _ (Heap.get?_push_of_some _ (Heap.get?_push_size _ rfl)))
 have g1:(zTL5 s.heap a b).get? s.heap.objs.size=some _:=Heap.get?_push_of_some _ (Heap.get?_push_of_some _ (Heap.get?_push_of_some _ (Heap.get?_push_of_some _ (Heap.get?_push_size _ rfl))))
 show _∧_
 rw[e2,e3,e4] at g5
 rw[e1,e2] at g3
 rw[e3] at g4
 rw[e1] at g2
 rw[e4]
 refine⟨⟨_,g5,rfl⟩,h _ _ rfl g5 g3 g4 ⟨_,g1,rfl,rfl⟩ ⟨_,g2,rfl,rfl⟩ fun c o x=>?_⟩
 iterate 5 apply Heap.get?_push_of_some
 exact x
end
/-- what a turn over zip(t,xs) is -/
def ItTL (K:PySem.W.Frag) (a b:Addr):It :=
 ⟨fun i H=>∃ (xs ys:List V) (x y:V),SqT K H a xs∧SqL K H b ys∧xs[i]? = some x∧ys[i]? = some y,
   fun i H v H'=>∃ T x y,v = .ref T∧H T=none∧H'=upd H T (.tup [x,y])∧(∀ xs,SqT K H a xs→xs[i]? = some x) ∧ ∀ ys,SqL K H b ys→ys[i]? = some y,
   fun i H=>∃ xs ys:List V,SqT K H a xs∧SqL K H b ys∧(xs.length≤i∨ys.length≤i)⟩
theorem turn_TL {P : Program} {w : World} {K : PySem.W.Frag} {elts : List Expr} {kk : Nat} {tpos : Pos} {a b z TI TO i1 i2 : Addr} (V5 : Five z TI TO i1 i2) (nI : TI ≠ TO ∧ TI ≠ i1 ∧ TI ≠ i2) (na : a ∉ [z, TO, i1, i2]) (nb : b ∉ [z, TO, i1, i2]) :
   Turn P w K (.Tuple elts kk tpos) (ItTL K a b) [z,TI,TO,i1,i2] z (fun i h=>IsZip h z TI TO .none∧IsPair h TI (.ref i1) (.ref i2)∧(∃ x y,IsPair h TO x y)∧h.IsTupleIter i1 a i∧h.IsListIter i2 b i) where
 mem:=by simp
 obj:=fun i h st c hc=>by
   obtain⟨isz,pI,⟨x,y,pO⟩,⟨o1,e1,_,d1⟩,⟨o2,e2,_,d2⟩⟩:=st
   have five:c=z∨c=TI∨c=TO∨c=i1∨c=i2:=by simpa using hc
   rcases five with rfl | rfl | rfl | rfl | rfl
   · exact⟨_,isz,fun v q=>nomatch q⟩
   · exact⟨_,pI,fun v q=>nomatch q⟩
   · exact⟨_,pO,fun v q=>nomatch q⟩
   · exact⟨o1,e1,fun v q=>by rw[d1] at q; cases q⟩
   · exact⟨o2,e2,fun v q=>by rw[d2] at q; cases q⟩
 keep:=fun i h h' st k=>by
   obtain⟨isz,pI,⟨x,y,pO⟩,h1,h2⟩:=st
   exact⟨k _ (by simp) _ isz,k _ (by simp) _ pI,⟨x,y,k _ (by simp) _ pO⟩,h1.at fun o q=>k _ (by simp) o q,h2.at fun o q=>k _ (by simp) o q⟩
 item:=by
   intro X eP eW eK hc i pins s σ H E I hf st hg
   subst eP eW eK
   obtain⟨isz,pI,⟨x0,y0,pO⟩,h1,h2⟩:=st
   obtain⟨xs,ys,x,y,qx,qy,hx,hy⟩:=hg
   obtain⟨its,rv,p1,_⟩:=I.tuple qx
   obtain⟨jts,rw_,p2,_⟩:=I.list qy
   obtain⟨u,at_u,ru⟩:=rv.get hx
   obtain⟨v,hv,rv2⟩:=rw_.get hy
   have zl:z<s.heap.objs.size:=Heap.lt_size isz
   have l1:i1<s.heap.objs.size:=by obtain⟨_,e,_⟩:=h1; exact Heap.lt_size e
   have l2:i2<s.heap.objs.size:=by obtain⟨_,e,_⟩:=h2; exact Heap.lt_size e
   have na':a≠z∧a≠TO∧a≠i1∧a≠i2:=by simpa using na
   have nb':b≠z∧b≠TO∧b≠i1∧b≠i2:=by simpa using nb
   refine zip_step (T1:=fun g=>g.IsTupleIter i1 a (i+1)) (T2:=fun g=>g.IsListIter i2 b (i+1)) V5 isz pI pO ⟨l1,l2⟩ (next_tup h1 p1 (x:=u) (by simpa using at_u) (by simpa using V5.c) (by simpa using na'.1))
     (next_lst h2 p2.isList (x:=v) (by simpa using hv) (by simpa using ⟨V5.d,V5.g.symm,V5.f.symm⟩) (by simpa using ⟨nb'.1,nb'.2.2.1,nb'.2.1⟩)) (fun g g' t k=>t.at k) (fun g g' t k=>t.at k) fun g z' TO' t1 t2 hT hsz hk=>?_
   refine⟨_,rfl,wpAny_letOwnedTupleGo_zip (s:={ s with heap:=g }) z' fun g2 z2 sb=>?_⟩
   have hT2:g2.get? s.heap.objs.size=some { cls:=.type "tuple",data:=.seq #[u,v] }:=(sb.2 _ (Nat.ne_of_gt zl)).trans hT
   have new:ObjOk X.prog X.w (upd H s.heap.objs.size (.tup [x,y])) g2 s.heap.objs.size (.tup [x,y]):=⟨by show 2≤sizeLine; decide,[u,v],.cons ru (.cons rv2 .nil),⟨_,hT2,rfl,_,rfl⟩⟩
   have I1:Inv X pins σ (upd H s.heap.objs.size (.tup [x,y])) { s with heap:=g2 }:=by
     refine I.turnedNew (t':=s.toks) (ch:=[z,TI,TO,i1,i2]) (fun c o hb q=>?_) hf (Nat.le_refl _) new
     have n5:c≠z∧c≠TI∧c≠TO∧c≠i1∧c≠i2:=by simpa using hb
     exact (sb.2 c n5.1).trans (hk c o (by simpa using ⟨n5.1,n5.2.2.1,n5.2.2.2.1,n5.2.2.2.2⟩) q)
   have up:∀ c o,c≠z→g.get? c=some o→g2.get? c=some o:=fun c o n q=>(sb.2 c n).trans q
   refine⟨.ref s.heap.objs.size,_,I1,rfl,⟨_,x,y,rfl,I.hok.fresh (Nat.le_refl _),rfl,fun l hl=>by rw[I.tuple_inj hl qx]; exact hx,fun l hl=>by rw[I.list_inj hl qy]; exact hy⟩,⟨z2,?_,⟨u,v,up _ _ V5.b TO'⟩,t1.at fun o q=>up _ o V5.c q,t2.at fun o q=>up _ o V5.d q⟩,fun c hcm=>?_⟩
   · exact up _ _ V5.a (hk _ _ (by simpa using ⟨V5.a,nI.1,nI.2.1,nI.2.2⟩) pI)
   · have five:c=z∨c=TI∨c=TO∨c=i1∨c=i2:=by simpa using hcm
     have lt:c<s.heap.objs.size:=by
       rcases five with rfl | rfl | rfl | rfl | rfl
       · exact zl
       · exact Heap.lt_size pI
       · exact Heap.lt_size pO
       · exact l1
       · exact l2
     rw[upd_ne (Nat.ne_of_lt lt)]
     exact (hf c hcm).1
 done:=by
   intro X eP eW eK hc i pins s σ H E I hf st hg
   subst eP eW eK
   obtain⟨isz,pI,⟨x0,y0,pO⟩,h1,h2⟩:=st
   obtain⟨xs,ys,qx,qy,hend⟩:=hg
   obtain⟨its,rv,p1,_⟩:=I.tuple qx
   obtain⟨jts,rw_,p2,_⟩:=I.list qy
   have m1:=rv.length
   have m2:=rw_.length
   have na':a≠z∧a≠TO∧a≠i1∧a≠i2:=by simpa using na
   have nb':b≠z∧b≠TO∧b≠i1∧b≠i2:=by simpa using nb
   have n:NextEnds X.prog X.w s [z] i1∨(∃ (x:Value) (T:Heap→Prop),NextIs X.prog X.w s [z] i1 x T)∧NextEnds X.prog X.w s [z,i1,TO] i2:=by
     by_cases c:xs.length≤i
     · exact .inl (ends_tup h1 p1 (by simp; omega) (by simpa using V5.c) (by simpa using na'.1))
     · have c2:ys.length≤i:=by omega
       exact .inr ⟨⟨its[i]'(by omega),_,next_tup h1 p1 (by simp) (by simpa using V5.c) (by simpa using na'.1)⟩,ends_lst h2 p2.isList (by simp; omega) (by simpa using ⟨V5.d,V5.g.symm,V5.f.symm⟩) (by simpa using ⟨nb'.1,nb'.2.2.1,nb'.2.1⟩)⟩
   refine zip_stop (I.ok.hd hc) V5 isz pI pO n fun g hk=>⟨rfl,I.turnedL (t':=s.toks) (ch:=[z,TI,TO,i1,i2]) (fun c o hb q=>?_) hf⟩
   have n5:c≠z∧c≠TI∧c≠TO∧c≠i1∧c≠i2:=by simpa using hb
   exact hk c o (by simpa using ⟨n5.1,n5.2.2.1,n5.2.2.2.1,n5.2.2.2.2⟩) q
 self:=fun _ _ _ _ _ st h=>wpAny_pyIter_zip st.1 h
theorem five_at (n:Nat):Five (n+4) (n+2) (n+3) n (n+1):=by
 constructor
 · show (n+2:Nat)≠n+4; omega
 · show (n+3:Nat)≠n+4; omega
 · show (n:Nat)≠n+4; omega
 · show (n+1:Nat)≠n+4; omega
 · show (n+3:Nat)≠n; omega
 · show (n+3:Nat)≠n+1; omega
 · show (n:Nat)≠n+1; omega
theorem six_at (n:Nat):(n+2:Nat)≠n+3∧(n+2:Nat)≠n∧(n+2:Nat)≠n+1:=by omega
theorem five_out {n a:Nat} (h:a<n):a∉[n+4,n+3,n,n+1]:=by
 simp
 omega
def iTL (K:PySem.W.Frag) (ta:TA):TI:=fun σ H R=>ta σ H fun vs H1=>∃ a b xs ys,vs=[.ref a,.ref b]∧SqT K H1 a xs∧SqL K H1 b ys∧R (ItTL K a b) H1
theorem pi_zipTL {X : Cx} {e e2 : Expr} {ta : TA} {p pos tpos : Pos} {elts : List Expr} {kk : Nat} (hg : Gl X "zip") (hm : X.mg "zip" = none) (ha : PA X [e, e2] ta)
   (hs:starEach [e,e2] X.env=(false,eval e X.env)::starEach [e2] X.env:=by rfl) (hpl:(backTo pos (starEach [e2] X.env)).any (·.1)=false:=by rfl):PI X (.Tuple elts kk tpos) (.Call (.Name "zip" p) [e,e2] [] pos) (iTL X.K ta):=by
 refine⟨fun pins s0 σ H R I h=>?_⟩
 refine Call_ (ld_blt I hg hm PyProof.Rows.boot_zip (PyProof.Rows.callWith_type1 (thn (ha.run pos pins s0 σ H _ I h) fun us u ⟨vs,H1,I1,r1,q1⟩=>?_) hs hpl))
 obtain⟨a,b,xs,ys,rfl,qx,qy,q⟩:=q1
 cases r1 with
 | cons r rr =>
   cases rr with
   | cons r' rr =>
     cases rr
     cases r
     cases r'
     obtain⟨its,rv,p1,_⟩:=I1.tuple qx
     obtain⟨jts,rw_,p2,_⟩:=I1.list qy
     have la:a<u.heap.objs.size:=by obtain⟨o,ho,_⟩:=id p1; exact Heap.lt_size ho
     have lb:b<u.heap.objs.size:=p2.lt
     refine call_zTL (xs:=its.toArray) p1 p2.isList fun n g hn hz hTI hTO h1 h2 hk=>wpAny_pyIter_zip hz ?_
     have I2:Inv X pins σ H1 { u with heap:=g }:=I1.kept (t':=u.toks) hk
     have fr:∀ c,c∈[n+4,n+2,n+3,n,n+1]→FpOk X pins H1 c:=fun c hcm=>by
       have five:c=n+4∨c=n+2∨c=n+3∨c=n∨c=n+1:=by simpa using hcm
       have le:u.heap.objs.size≤c:=by rw[← hn]; omega
       exact I1.fpOk le (I1.hok.fresh le)
     refine⟨n+4,[n+4,n+2,n+3,n,n+1],_,_,H1,rfl,I2,turn_TL (z:=n+4) (TI:=n+2) (TO:=n+3) (i1:=n) (i2:=n+1) (five_at n) (six_at n) (five_out (by rw[hn]; exact la)) (five_out (by rw[hn]; exact lb)),⟨hz,hTI,⟨_,_,hTO⟩,h1,h2⟩,fr,q⟩
end TB
namespace TB
open PySem PySem.Spec PyProof.Rows L2 HT
end TB
namespace TB
open PySem PySem.Spec PyProof.Rows L2
def hid (F:List Addr) (H:Hp):Hp:=fun b=>if b∈F then none else H b
/-- the places that are hidden are taken -/
def Took (F:List Addr) (H:Hp):Prop:=∀ f∈F,H f≠none
theorem Took.out {F:List Addr} {H:Hp} {p:Addr} (t:Took F H) (n:H p=none):p∉F:=fun z=>t p z n
theorem Took.same {F:List Addr} {H H':Hp} (t:Took F H) (s:Same H H'):Took F H':=fun f hf z=>by
 cases e:H f with
 | none=>exact t f hf e
 | some o =>
   rw[s f o e] at z
   cases z
def cutD (ds:List PyData) (lo hi:Option Int):List PyData:=(ds.drop (HT.sIx ds.length 0 lo)).take (HT.sIx ds.length ds.length hi-HT.sIx ds.length 0 lo)
theorem DpAll.drop {K:PySem.W.Frag} {H:Hp}:∀ {vs:List V} {ds:List PyData} (i:Nat),DpAll K H vs ds→DpAll K H (vs.drop i) (ds.drop i)
 | _,_,0,h=>h
 | _,_,_+1,.nil=>.nil
 | _,_,i+1,.cons _ t=>DpAll.drop i t
theorem DpAll.take {K:PySem.W.Frag} {H:Hp}:∀ {vs:List V} {ds:List PyData} (i:Nat),DpAll K H vs ds→DpAll K H (vs.take i) (ds.take i)
 | _,_,0,_=>by
   rw[List.take_zero,List.take_zero]
   exact .nil
 | _,_,_+1,.nil=>.nil
 | _,_,i+1,.cons a t=>.cons a (DpAll.take i t)
theorem DpAll.cut {K:PySem.W.Frag} {H:Hp} {vs:List V} {ds:List PyData} {lo hi:Option Int} (h:DpAll K H vs ds):DpAll K H (cutV vs lo hi) (cutD ds lo hi):=by
 unfold cutV cutD
 rw[DpAll.len h]
 exact DpAll.take _ (DpAll.drop _ h)
def atom:PyData→Prop
 | .none=>True
 | .bool _=>True
 | .int _=>True
 | .str z=>PyData.strOk z=true
 | _=>False
def Gd (n:Nat):Nat→PyData→Prop
 | 0,d=>atom d
 | k+1,d=>atom d ∨ ∃ ds,(d = .tuple ds∨d = .list ds)∧ds.length≤n ∧ ∀ e∈ds,Gd n k e
theorem Gd.atom {n k:Nat} {d:PyData} (h:atom d):Gd n k d:=by
 cases k with
 | zero=>exact h
 | succ k=>exact .inl h
theorem Gd.mono {n m:Nat} (hn:n≤m):∀ {k l:Nat} {d:PyData},k≤l→Gd n k d→Gd m l d
 | 0,_,_,_,h=>Gd.atom h
 | k+1,0,_,h,_=>by omega
 | k+1,l+1,_,hk,.inl h=>.inl h
 | k+1,l+1,_,hk,.inr ⟨ds,e,hl,h⟩=>.inr ⟨ds,e,Nat.le_trans hl hn,fun d hd=>Gd.mono hn (Nat.le_of_succ_le_succ hk) (h d hd)⟩
theorem Gd.tup {n k:Nat} {ds:List PyData} (hl:ds.length≤n) (h:∀ e∈ds,Gd n k e):Gd n (k+1) (.tuple ds):=.inr ⟨ds,.inl rfl,hl,h⟩
theorem Gd.lst {n k:Nat} {ds:List PyData} (hl:ds.length≤n) (h:∀ e∈ds,Gd n k e):Gd n (k+1) (.list ds):=.inr ⟨ds,.inr rfl,hl,h⟩
theorem Gd.lays {n:Nat}:∀ {k:Nat} {d:PyData},Gd n k d→PyData.canLay0 d=true∧PyData.depth d≤k
 | k,d,h=>by
   have at_:∀ {d:PyData},TB.atom d→PyData.canLay0 d=true∧PyData.depth d=0:=by
     intro d h
     cases d with
     | none=>exact⟨rfl,rfl⟩
     | bool b=>exact⟨rfl,rfl⟩
     | int i=>exact⟨rfl,rfl⟩
     | str z=>exact⟨h,rfl⟩
     | list ds=>exact absurd h id
     | tuple ds=>exact absurd h id
     | dict ds=>exact absurd h id
   cases k with
   | zero =>
     obtain⟨a,b⟩:=at_ h
     exact⟨a,by omega⟩
   | succ k =>
     rcases h with h | ⟨ds,e,_,h⟩
     · obtain⟨a,b⟩:=at_ h
       exact⟨a,by omega⟩
     · have all : ∀ es : List PyData, (∀ e ∈ es, Gd n k e) → PyData.canLayAll0 es = true ∧ PyData.depthAll es ≤ k := by
         intro es
         induction es with
         | nil=>exact fun _=>⟨rfl,Nat.zero_le _⟩
         | cons e es ih =>
           intro he
           obtain⟨a,b⟩:=ih fun x hx=>he x (List.mem_cons_of_mem _ hx)
           obtain⟨c,d⟩:=Gd.lays (he e List.mem_cons_self)
           refine⟨by simp only[PyData.canLayAll0,a,c,Bool.and_self],?_⟩
           simp only[PyData.depthAll]
           omega
       obtain⟨a,b⟩:=all ds h
       rcases e with rfl | rfl
       · exact⟨by simp only[PyData.canLay0,a],by simp only[PyData.depth]; omega⟩
       · exact⟨by simp only[PyData.canLay0,a],by simp only[PyData.depth]; omega⟩
theorem Gd.shaped {n k:Nat} {d:PyData} (h:Gd n k d) (hk:k≤60):SeqAt.shaped d=true:=by
 obtain⟨a,b⟩:=h.lays
 unfold SeqAt.shaped
 rw[a,decide_eq_true (by omega)]
 rfl
end TB
namespace VL
open PySem PySem.Spec PyProof.Rows L2 TB
@[simp] def vVar (i:Nat) (env:En) (st:AS):Out D:=match env[i]? with
 | some (some d)=>.ok d st
 | _=>.bad
@[simp] def vC (d:D) (_:En) (st:AS):Out D:=.ok d st
@[simp] def v1 {α:Type} (g:D→AS→Out α) (fa:En→AS→Out D) (env:En) (st:AS):Out α:=(fa env st).bind g
@[simp] def v2 {α:Type} (g:D→D→AS→Out α) (fa fb:En→AS→Out D) (env:En) (st:AS):Out α:=(fa env st).bind fun a st=>(fb env st).bind fun b st=>g a b st
@[simp] def vNil (_:En) (st:AS):Out (List D):=.ok [] st
@[simp] def vCons (fa:En→AS→Out D) (fr:En→AS→Out (List D)) (env:En) (st:AS):Out (List D):=(fa env st).bind fun a st=>(fr env st).bind fun r st=>.ok (a::r) st
@[simp] def vA {α:Type} (g:List D→AS→Out α) (fa:En→AS→Out (List D)) (env:En) (st:AS):Out α:=(fa env st).bind g
section
variable {X:Cx} {E:XK}
/-- another wish about what is raised,where nothing is -/
theorem ve_var (i : Nat) {x : Str} {pos : Pos} (hN : X.N[i]? = some x := by rfl) (hv : Vis X.env.scope x := by first | exact Or.inl rfl | exact Or.inr (Or.inl rfl) | exact Or.inr (Or.inr rfl)) (hd : (x == ("__debug__" : Str)) = false := by decide)
   (hcd:(x==("__classdict__" : Str))=false:=by decide):VE X E (.Name x pos) (vVar i):=by
 refine weakE (pe_var hN hv hd hcd) fun σ H Q ⟨β,env,st,he,hs,h⟩=>?_
 unfold vVar at h
 split at h
 · rename_i d e
   obtain⟨u,h1,h2⟩:=he.get i d e
   exact⟨u,h1,h β H u (Ext.refl _ _) hs h2⟩
 · exact h.elim
theorem ve_c {e:Expr} {v:V} {d:D} (h:PE X e (tC v)) (r:∀ H β,Rep X.K H β d v):VE X E e (vC d) :=
 weakE h fun σ H Q ⟨β,env,st,he,hs,h⟩=>h β H v (Ext.refl _ _) hs (r H β)
theorem ve_int {i j pos}:VE X E (.Constant (.int i) j pos) (vC (.int i)):=ve_c pe_int fun _ _=>.int i
theorem ve_bl {b j pos}:VE X E (.Constant (.bool b) j pos) (vC (.bl b)):=ve_c pe_bl fun _ _=>.bl b
theorem ve_non {j pos}:VE X E (.Constant .none j pos) (vC .non):=ve_c pe_non fun _ _=>.non
theorem ve_str {x j pos}:VE X E (.Constant (.str x) j pos) (vC (.str x)):=ve_c pe_str fun _ _=>.str x
theorem va_nil:VA X E [] vNil:=weakA pa_nil fun σ H Q ⟨β,env,st,he,hs,h⟩=>h β H [] (Ext.refl _ _) hs .nil
theorem va_cons {e:Expr} {es:List Expr} {fa:En→AS→Out D} {fr:En→AS→Out (List D)} (ha:VE X E e fa) (hr:VA X E es fr) (hs:starEach (e::es) X.env=(false,eval e X.env)::starEach es X.env:=by rfl):VA X E (e::es) (vCons fa fr):=by
 refine weakA (pa_cons ha hr hs) fun σ H Q ⟨β,env,st,he,hs,h⟩=>?_
 refine tG_bind he hs h fun a st1 β1 H1 u x1 s1 e1 r1 h1=>?_
 refine tG_bind e1 s1 h1 fun as st2 β2 H2 us x2 s2 e2 r2 h2=>?_
 exact h2 β2 H2 _ (Ext.refl _ _) s2 (.cons (r1.ext x2) r2)
def Ok2 (K:PySem.W.Frag) (mg:MG) (E:XK) (r:R2) (g:D→D→AS→Out D):Prop :=
 ∀ β H st x y u v Q,Sim K mg β st H→Rep K H β x u→Rep K H β y v→Post K mg (rD K) E β H Q (g x y st)→r u v H Q
def OkA (K:PySem.W.Frag) (mg:MG) (E:XK) (r:List V→Hp→VK→Prop) (g:List D→AS→Out D):Prop :=
 ∀ β H st xs us Q,Sim K mg β st H→Reps K H β xs us→Post K mg (rD K) E β H Q (g xs st)→r us H Q
variable {a b:Expr} {fa fb:En→AS→Out D} {pos:Pos}
theorem use2 {r:R2} {g:D→D→AS→Out D} (hg:Ok2 X.K X.mgw E r g) {σ:L2.St} {H:Hp} {Q:VK} (h:tV X.K X.mgw E (v2 g fa fb) σ H Q):tOp r (tV X.K X.mgw E fa) (tV X.K X.mgw E fb) σ H Q:=by
 obtain⟨β,env,st,he,hs,h⟩:=h
 refine tG_bind he hs h fun x st1 β1 H1 u x1 s1 e1 r1 h1=>?_
 refine tG_bind e1 s1 h1 fun y st2 β2 H2 v x2 s2 e2 r2 h2=>?_
 exact hg β2 H2 st2 x y u v Q s2 (r1.ext x2) r2 h2
theorem ve_op {op:Operator} {r:R2} {g:D→D→AS→Out D} (ho:OpR X (binaryOp op) r) (hg:Ok2 X.K X.mgw E r g) (ha:VE X E a fa) (hb:VE X E b fb):VE X E (.BinOp a op b pos) (v2 g fa fb) :=
 weakE (pe_op ho ha hb) fun _ _ _ h=>use2 hg h
theorem ve_ix {r:R2} {g:D→D→AS→Out D} (hr:IxR X r) (hg:Ok2 X.K X.mgw E r g) (ha:VE X E a fa) (hb:VE X E b fb) (hs:PlainIx b):VE X E (.Subscript a b pos) (v2 g fa fb) :=
 weakE (pe_ix hr ha hb hs) fun _ _ _ h=>use2 hg h
@[simp] def asB (d:D) (st:AS):Out Bool:=match d with
 | .bl b=>.ok b st
 | _=>.bad
@[simp] def vB (fa:En→AS→Out D):En→AS→Out Bool:=v1 asB fa
theorem postB {K : PySem.W.Frag} {mg : MG} {β : Bt} {H : Hp} {Q : Bool → Hp → Prop} {d : D} {u : V} {st : AS} (s : Sim K mg β st H) (r : Rep K H β d u)
   (h:Post K mg rB E β H Q (asB d st)):∃ k,u = .bl k∧Q k H:=by
 cases r with
 | bl b=>exact⟨b,rfl,h β H b (Ext.refl _ _) s rfl⟩
 | _=>exact h.elim
theorem vt_cmp {op:CmpOp} {r:R2} {g:D→D→AS→Out D} (ho:OpR X (compareOp op) r) (hg:Ok2 X.K X.mgw E r g) (ha:VE X E a fa) (hb:VE X E b fb) (hm:behindInMarks op b=false):VT X E (.Compare a [op] [b] pos) (vB (v2 g fa fb)):=by
 refine weakT (pt_cmpR ho ha hb hm) fun σ H Q h=>?_
 obtain⟨β,env,st,he,hs,h⟩:=h
 have h':tV X.K X.mgw E (v2 g fa fb) σ H fun x H'=>∃ k,x = .bl k∧Q k H':=tG_bind he hs h fun x st1 β1 H1 u x1 s1 e1 r1 h1=>postB s1 r1 h1
 exact use2 hg h'
/-- an expression as a test,by its truth -/
@[simp] def listOf (st:AS):D→Option (List D)
 | .lst ds=>some ds
 | .fzl ds=>some ds
 | .ref i=>match st[i]? with
   | some (.lst ds)=>some ds
   | _=>none
 | _=>none
@[simp] def truD (d:D) (st:AS):Out Bool:=match d with
 | .non=>.ok false st
 | .bl b=>.ok b st
 | .int i=>.ok (i != 0) st
 | .str x=>if x.length≤sizeLine then .ok ((x.length:Int) != 0) st else .bad
 | .tup ds=>.ok (!ds.isEmpty) st
 | .ctp ds=>.ok (!ds.isEmpty) st
 | .lst ds=>.ok (!ds.isEmpty) st
 | .fzl ds=>.ok (!ds.isEmpty) st
 | .ref i=>match st[i]? with
   | some (.lst ds)=>.ok (!ds.isEmpty) st
   | some (.dct kvs)=>.ok (!kvs.isEmpty) st
   | some (.lck kvs)=>.bad
   | _=>.bad
 | .cv _=>.bad
end
section
variable {K:PySem.W.Frag} {mg:MG} {E:XK} {β:Bt} {H:Hp} {st:AS}
theorem SqL.fz {a:Addr} {us:List V} (h:(β.out a∧Rd H a (.lst us))∨WrL K a us):SqL K H a us:=h.imp (·.2) id
/-- a list to be read -/
theorem Sim.lists (S:Sim K mg β st H) {d:D} {u:V} {ds:List D} (r:Rep K H β d u) (h:listOf st d=some ds):∃ a us,u = .ref a∧SqL K H a us∧Reps K H β ds us:=by
 cases r with
 | lst n e q =>
   cases h
   exact⟨_,_,rfl,.inl (.inl e),q⟩
 | fzl e q =>
   cases h
   exact⟨_,_,rfl,SqL.fz e,q⟩
 | ref e =>
   rename_i i a
   unfold listOf at h
   dsimp only at h
   split at h
   · rename_i ds' e2
     cases h
     obtain⟨us,e3,q⟩:=S.cell i a _ e e2
     exact⟨a,us,rfl,.inl (.inl e3),q⟩
   · cases h
 | _=>cases h
theorem Reps.isEmpty {ds:List D} {us:List V} (r:Reps K H β ds us):us.isEmpty=ds.isEmpty:=by
 cases r <;> rfl
theorem truD_ok (S:Sim K mg β st H) {d:D} {u:V} {Q:Bool→Hp→Prop} (r:Rep K H β d u) (h:Post K mg rB E β H Q (truD d st)):∃ k,TruV K u H k∧Q k H:=by
 have go:∀ k,truD d st = .ok k st→Q k H:=fun k e=>by
   rw[e] at h
   exact h β H k (Ext.refl _ _) S rfl
 cases r with
 | non=>exact⟨false,rfl,go _ rfl⟩
 | bl b=>exact⟨b,rfl,go _ rfl⟩
 | int i=>exact⟨_,rfl,go _ rfl⟩
 | str x =>
   by_cases hl:x.length≤sizeLine
   · exact⟨_,⟨hl,rfl⟩,go _ (if_pos hl)⟩
   · rw[show truD (.str x) st = .bad from if_neg hl] at h
     exact h.elim
 | tup n e q=>exact⟨_,.inr (.inl ⟨_,.inl (.inl e),by rw[q.isEmpty]⟩),go _ rfl⟩
 | ctp e q=>exact⟨_,.inr (.inl ⟨_,e.sq,by rw[q.isEmpty]⟩),go _ rfl⟩
 | lst n e q=>exact⟨_,.inl ⟨_,.inl (.inl e),by rw[q.isEmpty]⟩,go _ rfl⟩
 | fzl e q=>exact⟨_,.inl ⟨_,SqL.fz e,by rw[q.isEmpty]⟩,go _ rfl⟩
 | cv v=>exact h.elim
 | ref e =>
   rename_i i a
   cases q:st[i]? with
   | none =>
     simp only[truD,q] at h
     exact h.elim
   | some c =>
     cases c with
     | lst ds =>
       obtain⟨us,e3,r3⟩:=S.cell i a _ e q
       exact⟨_,.inl ⟨_,.inl (.inl e3),by rw[r3.isEmpty]⟩,go _ (by simp only[truD,q])⟩
     | dct kvs =>
       obtain⟨us,e3,r3⟩:=S.cell i a _ e q
       refine⟨!us.isEmpty,?_,go _ ?_⟩
       · exact .inr (.inr ⟨us,e3,rfl⟩)
       · simp only[truD,q]
         have:us.isEmpty=kvs.isEmpty:=by
           have h1:=congrArg List.length r3.1
           simp only[List.length_map] at h1
           cases us <;> cases kvs <;> simp_all
         rw[this]
     | dtt kvs =>
       simp only[truD,q] at h
       exact h.elim
     | dtf kvs =>
       simp only[truD,q] at h
       exact h.elim
     | lck kvs =>
       simp only[truD,q] at h
       exact h.elim
     | lct kvs =>
       simp only[truD,q] at h
       exact h.elim
     | lcf kvs =>
       simp only[truD,q] at h
       exact h.elim
     | obj c fs =>
       simp only[truD,q] at h
       exact h.elim
end
end VL
namespace TB
open PySem PySem.Spec PyProof.Rows L2
abbrev eT1 (h:Heap) (a:Addr):Heap:=h.push { cls:=.type "tuple_iterator",data:=.fields #[.ref a,.int 0 0] }
abbrev eT2 (h:Heap) (a:Addr):Heap:=(eT1 h a).push { cls:=.type "enumerate",data:=.fields #[.none,.bool false,.ref h.objs.size,rawInt 0,.none,.none] }
theorem enT_new (a : Addr) (xs : Array Value) (n : Nat) (dct : Option Addr) (sl : Array (Option Value)) :
   Meets (Builtin.«enumerate.__new__» ⟨[.type "enumerate",.ref a],[]⟩) (fun _ R s=>s.heap.get? a=some { cls:=.type "tuple",dict:=dct,data:=.seq xs n,slots:=sl }∧R (.ok (.ret (.ref (eT1 s.heap a).objs.size))) { s with heap:=eT2 s.heap a }) :=
 .of_wp fun prog w A R st h=>by
   obtain⟨hp,g,d,tk,os⟩:=st
   obtain⟨ha,h⟩:=h
   have sub:=sub_enumerate
   have iA:Heap.IsTuple (Shared.heap ⟨hp,g,d,tk,os⟩) a xs:=⟨_,ha,rfl,n,rfl⟩
   wp_walk using AutoSeq1.wpAny_loadPart' ha
   refine wpAny_stack_any fun st=>wpAny_pure ?_
   split
   · rename_i c _ _ _ _ _
     cases (c==Value.type "enumerate")
     · wp_walk using AutoSeq1.wpAny_loadPart' ha,wpAny_pyIter_tuple iA
       exact⟨_,rfl,h⟩
     · wp_walk using AutoSeq1.wpAny_loadPart' ha,wpAny_pyIter_tuple iA
       exact⟨_,rfl,h⟩
   · wp_walk using AutoSeq1.wpAny_loadPart' ha,wpAny_pyIter_tuple iA
     exact⟨_,rfl,h⟩
section
variable {prog:Program} {w:World} {A:Around} {E:Value→Shared→Prop} {s:Shared}
theorem call_enT {a : Addr} {xs : Array Value} {Q : Value → Shared → Prop} (ha : s.heap.IsTuple a xs)
   (h:∀ (n:Nat) (g:Heap),n=s.heap.objs.size→IsEnum g (n+1) n 0 .none→g.IsTupleIter n a 0→(∀ c o,s.heap.get? c=some o→g.get? c=some o)→Q (.ref (n+1)) { s with heap:=g }) :
   wpAny (model prog w) A (call (.type "enumerate") [.ref a]) Q E s:=by
 obtain⟨⟨c,dct,dt,sl⟩,ho,hc,n,hd⟩:=ha
 obtain rfl:c = .type "tuple" := hc
 obtain rfl:dt = .seq xs n:=hd
 refine callType_new F.called_enumerate (by decide) (F.typeCall_enumerate_1 _) (F.newCall_enumerate_1 _) (fun ob=>F.args_object_init_2 ob _) F.entry_enumerate_new (enT_new a xs n dct sl) ⟨ho,?_⟩
 have e1:(eT1 s.heap a).objs.size=s.heap.objs.size+1:=Heap.size_push ..
 have g2:(eT2 s.heap a).get? (eT1 s.heap a).objs.size=some _:=Heap.get?_push_size _ rfl
 have g1:(eT2 s.heap a).get? s.heap.objs.size=some _:=Heap.get?_push_of_some _ (Heap.get?_push_size _ rfl)
 show _∧_
 rw[e1] at g2
 rw[e1]
 exact⟨⟨_,g2,rfl⟩,h _ _ rfl g2 ⟨_,g1,rfl,rfl⟩ fun c o z=>Heap.get?_push_of_some _ (Heap.get?_push_of_some _ z)⟩
end
/-- a turn over it: a new pair of the place and the thing there -/
def ItET (K:PySem.W.Frag) (a:Addr):It :=
 ⟨fun i H=>∃ (xs:List V) (x:V),SqT K H a xs∧xs[i]? = some x,fun i H v H'=>∃ T x,v = .ref T∧H T=none∧H'=upd H T (.tup [.int (i:Nat),x]) ∧ ∀ xs,SqT K H a xs→xs[i]? = some x,fun i H=>∃ xs:List V,SqT K H a xs∧xs.length≤i⟩
theorem turn_ET {P : Program} {w : World} {K : PySem.W.Frag} {elts : List Expr} {kk : Nat} {tpos : Pos} {a e it : Addr} (nei : e ≠ it) (na : a ≠ it) (nae : a ≠ e) :
   Turn P w K (.Tuple elts kk tpos) (ItET K a) [e,it] e (fun i h=>(∃ old,IsEnum h e it ((i:Nat):Int) old)∧h.IsTupleIter it a i) where
 mem:=by simp
 obj:=fun i h st b hb=>by
   obtain⟨⟨old,he⟩,⟨o,ho,hc,hd⟩⟩:=st
   have two:b=e∨b=it:=by simpa using hb
   rcases two with rfl | rfl
   · exact⟨_,he,fun v q=>nomatch q⟩
   · exact⟨o,ho,fun v q=>by rw[hd] at q; cases q⟩
 keep:=fun i h h' st k=>by
   obtain⟨⟨old,he⟩,hi⟩:=st
   exact⟨⟨old,k _ (by simp) _ he⟩,hi.at fun o q=>k _ (by simp) o q⟩
 item:=by
   intro X eP eW eK hc i pins s σ H E I hf st hg
   subst eP eW eK
   obtain⟨⟨old,he⟩,hit⟩:=st
   obtain⟨xs,x,hq,hx⟩:=hg
   obtain⟨its,rv,p,hz⟩:=I.tuple hq
   obtain⟨u,hu,ru⟩:=rv.get hx
   have el:e<s.heap.objs.size:=Heap.lt_size he
   have il:it<s.heap.objs.size:=by obtain⟨_,q,_⟩:=hit; exact Heap.lt_size q
   have ilt:i<its.toArray.size:=by
     rw[List.size_toArray]
     exact (List.getElem?_eq_some_iff.mp hu).1
   have D:=Draws.tuple (prog:=X.prog) (w:=X.w) (A:=X.A.in1) (I.ok.hd hc) it a na its.toArray
   refine wpAny_pyNext_enum_itemD D he ⟨hit,p⟩ ilt nei (by simp; exact⟨nei,nae.symm⟩) fun y g tk hP ho st2 hT hsz hk=>?_
   have yu:y=u:=by
     have z:some y=some u:=by
       rw[← hu,← hP]
       simp
     exact Option.some.inj z
   subst yu
   refine⟨_,rfl,wpAny_letOwnedTupleGo_enum (s:={ s with heap:=g,toks:=tk+1 }) ho fun g2 he2 sb=>?_⟩
   have hT2:g2.get? s.heap.objs.size=some { cls:=.type "tuple",data:=.seq #[.int i tk,y] }:=(sb.2 _ (Nat.ne_of_gt el)).trans hT
   have new:ObjOk X.prog X.w (upd H s.heap.objs.size (.tup [.int (i:Nat),x])) g2 s.heap.objs.size (.tup [.int (i:Nat),x]):=⟨by show 2≤sizeLine; decide,[.int i tk,y],.cons ⟨_,rfl⟩ (.cons ru .nil),⟨_,hT2,rfl,_,rfl⟩⟩
   have I1:Inv X pins σ (upd H s.heap.objs.size (.tup [.int (i:Nat),x])) { s with heap:=g2,toks:=tk+1 }:=by
     refine I.turnedNew (ch:=[e,it]) (fun b ob hb q=>?_) hf (Nat.le_refl _) new
     have n2:b≠e∧b≠it:=by simpa using hb
     exact (sb.2 b n2.1).trans (hk b ob n2.1 n2.2 q)
   refine⟨.ref s.heap.objs.size,_,I1,rfl,⟨_,x,rfl,I.hok.fresh (Nat.le_refl _),rfl,fun l hl=>by rw[I.tuple_inj hl hq]; exact hx⟩,⟨⟨y,?_⟩,st2.1.at fun o q=>(sb.2 it (Ne.symm nei)).trans q⟩,fun b hb=>?_⟩
   · have i1:((i+1:Nat):Int)=(i:Int)+1:=by omega
     rw[i1]
     exact he2
   · have two:b=e∨b=it:=by simpa using hb
     have lt:b<s.heap.objs.size:=by
       rcases two with rfl | rfl
       · exact el
       · exact il
     rw[upd_ne (Nat.ne_of_lt lt)]
     exact (hf b hb).1
 done:=by
   intro X eP eW eK hc i pins s σ H E I hf st hg
   subst eP eW eK
   obtain⟨⟨old,he⟩,hit⟩:=st
   obtain⟨xs,hq,hx⟩:=hg
   obtain⟨its,rv,p,hz⟩:=I.tuple hq
   have hl:=rv.length
   obtain⟨f0,f1,f2,f3,f4,f5⟩:=hf it (by simp)
   have hT:s.TypeIs (.ref e) "enumerate" := ⟨_,he,rfl⟩
   unfold pyNext
   refine wpAny_bind (wpAny_attempt (wpAny_callSpecial?_slot (name:=Str.ofString "__next__") hT F.slot_enumerate_next (wpAny_call_entry F.slot_enumerate_next hT F.entry_enumerate_next ?_ (F.args_enumerate_next_1 _))))
   show wpAny _ _ (field (.ref e) 2 >>= _) _ _ _
   refine wpAny_bind (wpAny_field he rfl (x:=.ref it) rfl ?_)
   refine wpAny_bind (wpAny_nextOf_tuple_end (A:=X.A.in1) (I.ok.hd hc) hit p (by simp; omega) fun g ex eb hx'=>?_)
   obtain⟨o,ho,hce⟩:=hx'
   refine wpAny_bind (wpAny_isInstance (T:="StopIteration") (b:=true) ⟨o,ho,hce⟩ isSubtype_stop ?_)
   exact wpAny_pure ⟨rfl,I.turned (t':=s.toks) (fun b o hb q=>eb b o hb q) f0 f1 f3 f4 f5⟩
 self:=fun A i s Q E st h=>by
   obtain⟨⟨_,he⟩,_⟩:=st
   exact wpAny_pyIter_enum he h
def iET (K:PySem.W.Frag) (ta:TA):TI:=fun σ H R=>ta σ H fun vs H1=>∃ a xs,vs=[.ref a]∧SqT K H1 a xs∧R (ItET K a) H1
theorem pi_enumT {X : Cx} {e : Expr} {ta : TA} {p pos tpos : Pos} {elts : List Expr} {kk : Nat} (hg : Gl X "enumerate") (hm : X.mg "enumerate" = none) (ha : PA X [e] ta)
   (hs:starEach [e] X.env=[(false,eval e X.env)]:=by rfl):PI X (.Tuple elts kk tpos) (.Call (.Name "enumerate" p) [e] [] pos) (iET X.K ta):=by
 refine⟨fun pins s0 σ H R I h=>?_⟩
 refine Call_ (ld_blt I hg hm boot_enumerate (PyProof.Rows.callWith_type1 (thn (ha.run pos pins s0 σ H _ I h) fun us u ⟨vs,H1,I1,r1,q1⟩=>?_) hs rfl))
 obtain⟨a,xs,rfl,hq,q⟩:=q1
 cases r1 with
 | cons r rr =>
   cases rr
   cases r
   obtain⟨its,rv,p1,_⟩:=I1.tuple hq
   have la:a<u.heap.objs.size:=by obtain⟨o,ho,_⟩:=id p1; exact Heap.lt_size ho
   refine call_enT (xs:=its.toArray) p1 fun n g hn he hi hk=>wpAny_pyIter_enum he ?_
   have I2:Inv X pins σ H1 { u with heap:=g }:=I1.kept (t':=u.toks) hk
   have fr:∀ c,c∈[n+1,n]→FpOk X pins H1 c:=fun c hcm=>by
     have two:c=n+1∨c=n:=by simpa using hcm
     have le:u.heap.objs.size≤c:=by rw[← hn]; omega
     exact I1.fpOk le (I1.hok.fresh le)
   exact⟨n+1,[n+1,n],_,_,H1,rfl,I2,turn_ET (e:=n+1) (it:=n) (Nat.succ_ne_self _) (by rw[hn]; exact Nat.ne_of_lt la) (by rw[hn]; exact Nat.ne_of_lt (Nat.lt_succ_of_lt la)),⟨⟨.none,he⟩,hi⟩,fr,q⟩
section
variable {K:PySem.W.Frag} {a b:Addr} {xs ys:List V}
theorem walk_ET:Walk (ItET K a) xs.length (fun H=>SqT K H a xs) (YPair (fun i=>some (.int (i:Nat))) (fun i=>xs[i]?)):=by
 refine⟨fun i _ hi q=>⟨xs,xs[i],q,by simp[hi]⟩,fun _ q=>⟨xs,q,Nat.le_refl _⟩,fun i H x H' _ q y=>?_⟩
 obtain⟨T,z,h1,h2,h3,h4⟩:=y
 exact⟨T,_,z,h1,h2,h3,rfl,h4 xs q⟩
theorem walk_zT {n:Nat} (hn:n=min xs.length ys.length):Walk (RZ.ItzT K a b) n (fun H=>SqT K H a xs∧SqT K H b ys) (YPair (fun i=>xs[i]?) (fun i=>ys[i]?)):=by
 refine⟨fun i H hi q=>?_,fun H q=>?_,fun i H x H' hi q y=>?_⟩
 · have h1:i<xs.length:=by omega
   have h2:i<ys.length:=by omega
   exact⟨xs,ys,xs[i],ys[i],q.1,q.2,by simp[h1],by simp[h2]⟩
 · exact⟨xs,ys,q.1,q.2,by omega⟩
 · obtain⟨T,u,v,h1,h2,h3,h4,h5⟩:=y
   exact⟨T,u,v,h1,h2,h3,h4 xs q.1,h5 ys q.2⟩
theorem walk_TL {n:Nat} (hn:n=min xs.length ys.length):Walk (ItTL K a b) n (fun H=>SqT K H a xs∧SqL K H b ys) (YPair (fun i=>xs[i]?) (fun i=>ys[i]?)):=by
 refine⟨fun i H hi q=>?_,fun H q=>?_,fun i H x H' hi q y=>?_⟩
 · have h1:i<xs.length:=by omega
   have h2:i<ys.length:=by omega
   exact⟨xs,ys,xs[i],ys[i],q.1,q.2,by simp[h1],by simp[h2]⟩
 · exact⟨xs,ys,q.1,q.2,by omega⟩
 · obtain⟨T,u,v,h1,h2,h3,h4,h5⟩:=y
   exact⟨T,u,v,h1,h2,h3,h4 xs q.1,h5 ys q.2⟩
end
end TB
namespace TB
open PySem PySem.Spec PyProof.Rows L2
end TB
namespace TB
open PySem PySem.Spec PyProof.Rows L2
end TB
namespace TB
open PySem PySem.Spec PyProof.Rows L2
/-- the number that stands behind a number or a truth -/
inductive Nm:V→Int→Prop
 | int (i:Int):Nm (.int i) i
 | bl (b:Bool):Nm (.bl b) (if b=true then 1 else 0)
def rAddN:R2:=fun x y H Q=>∃ i j,Nm x i∧y = .int j∧Q (.int (i+j)) H
def rSubN:R2:=fun x y H Q=>∃ i j,Nm x i∧y = .int j∧Q (.int (i-j)) H
section
variable {X:Cx}
theorem op_addN:OpR X (binaryOp .Add) rAddN:=by
 intro pins s σ H x y v u Q I rx ry h
 obtain⟨i,j,n,rfl,q⟩:=h
 cases n with
 | int i=>exact op_add pins s σ H _ _ v u Q I rx ry ⟨i,j,rfl,rfl,q⟩
 | bl b =>
   obtain⟨t,rfl⟩:=ry
   cases (show v=Value.bool b from rx)
   exact PySem.IntBool.add_bool_int ⟨.int _,H,I.tok _,⟨_,rfl⟩,q⟩
theorem op_subN:OpR X (binaryOp .Sub) rSubN:=by
 intro pins s σ H x y v u Q I rx ry h
 obtain⟨i,j,n,rfl,q⟩:=h
 cases n with
 | int i=>exact op_sub pins s σ H _ _ v u Q I rx ry ⟨i,j,rfl,rfl,q⟩
 | bl b =>
   obtain⟨t,rfl⟩:=ry
   cases (show v=Value.bool b from rx)
   exact PySem.IntBool.sub_bool_int ⟨.int _,H,I.tok _,⟨_,rfl⟩,q⟩
end
end TB
namespace VL
open PySem PySem.Spec PyProof.Rows L2 TB
section
variable {K:PySem.W.Frag} {mg:MG} {E:XK} {β:Bt} {H:Hp} {st:AS} {Q:VK}
/-- the answer is d,the heap as it was -/
theorem Post.here {α ρ:Type} {R:Hp→Bt→α→ρ→Prop} {Q:ρ→Hp→Prop} {d:α} {u:ρ} (h:Post K mg R E β H Q (.ok d st)) (S:Sim K mg β st H) (r:R H β d u):Q u H:=h β H u (Ext.refl _ _) S r
theorem new_tup {ds:List D} {us:List V} (h:Post K mg (rD K) E β H Q (.ok (.tup ds) st)) (S:Sim K mg β st H) (r:Reps K H β ds us):∀ p,H p=none→Q (.ref p) (upd H p (.tup us)):=fun p hp =>
 h β _ (.ref p) (Ext.same (same_upd hp)) (S.same (same_upd hp)) (.tup (S.fresh hp) upd_same (r.ext (Ext.same (same_upd hp))))
/-- a new list: a value,or a thing that may change -/
def mk (c:Bool) (ds:List D) (st:AS):Out D:=match c with
 | true=>.ok (.ref st.length) (st++[.lst ds])
 | false=>.ok (.lst ds) st
@[simp] theorem mk_f (ds:List D) (st:AS):mk false ds st = .ok (.lst ds) st:=rfl
@[simp] theorem mk_t (ds:List D) (st:AS):mk true ds st = .ok (.ref st.length) (st++[.lst ds]):=rfl
theorem new_lst {c:Bool} {ds:List D} {us:List V} (h:Post K mg (rD K) E β H Q (mk c ds st)) (S:Sim K mg β st H) (r:Reps K H β ds us):∀ p,H p=none→Q (.ref p) (upd H p (.lst us)):=fun p hp=>by
 cases c with
 | false=>exact h β _ (.ref p) (Ext.same (same_upd hp)) (S.same (same_upd hp)) (.lst (S.fresh hp) upd_same (r.ext (Ext.same (same_upd hp))))
 | true =>
   have x:Ext β H (β.push p) (upd H p (.lst us)):=ext_push hp
   have S':=S.push (o:=.lst us) (c:=.lst ds) hp ⟨us,upd_same,r.ext x⟩
   exact h _ _ (.ref p) x S' (.ref (by rw[← S.len]; simp[Bt.push]))
end
section
variable {X:Cx} {E:XK} {a b c:Expr} {fa fb fc:En→AS→Out D} {ga gb:En→AS→Out Bool} {pos:Pos} {rest:List Expr}
@[simp] def vAnd (f g:En→AS→Out Bool) (env:En) (st:AS):Out Bool:=(f env st).bind fun x st=>if x=true then g env st else .ok false st
@[simp] def vOr (f g:En→AS→Out Bool) (env:En) (st:AS):Out Bool:=(f env st).bind fun x st=>if x=true then .ok true st else g env st
@[simp] def vNot (f:En→AS→Out Bool) (env:En) (st:AS):Out Bool:=(f env st).bind fun x st=>.ok (!x) st
@[simp] def vAndV (f g:En→AS→Out D) (env:En) (st:AS):Out D:=(f env st).bind fun x st=>(asB x st).bind fun x st=>if x=true then g env st else .ok (.bl false) st
@[simp] def vOrV (f g:En→AS→Out D) (env:En) (st:AS):Out D:=(f env st).bind fun x st=>(asB x st).bind fun x st=>if x=true then .ok (.bl true) st else g env st
@[simp] def vNotV (f:En→AS→Out D) (env:En) (st:AS):Out D:=(f env st).bind fun x st=>(asB x st).bind fun x st=>.ok (.bl (!x)) st
@[simp] def vIfE (t:En→AS→Out Bool) (f g:En→AS→Out D) (env:En) (st:AS):Out D:=(t env st).bind fun x st=>if x=true then f env st else g env st
theorem vw_and1 (ha:VT X E a ga):VW X E (.BoolOp .And [a] pos) ga:=pw_and1 ha
theorem vw_or1 (ha:VT X E a ga):VW X E (.BoolOp .Or [a] pos) ga:=pw_or1 ha
theorem vw_and (ha:VT X E a ga) (hb:VW X E (.BoolOp .And (b::rest) pos) gb):VW X E (.BoolOp .And (a::b::rest) pos) (vAnd ga gb):=by
 refine weakW (pw_and ha hb) fun σ H Q ⟨β,env,st,he,hs,h⟩=>?_
 refine tG_bind he hs h fun x st1 β1 H1 u x1 s1 e1 r1 h1=>?_
 obtain rfl:x=u:=r1
 cases x with
 | true=>exact⟨β1,env,st1,e1,s1,h1⟩
 | false=>exact h1.here s1 rfl
theorem vw_or (ha:VT X E a ga) (hb:VW X E (.BoolOp .Or (b::rest) pos) gb):VW X E (.BoolOp .Or (a::b::rest) pos) (vOr ga gb):=by
 refine weakW (pw_or ha hb) fun σ H Q ⟨β,env,st,he,hs,h⟩=>?_
 refine tG_bind he hs h fun x st1 β1 H1 u x1 s1 e1 r1 h1=>?_
 obtain rfl:x=u:=r1
 cases x with
 | true=>exact h1.here s1 rfl
 | false=>exact⟨β1,env,st1,e1,s1,h1⟩
theorem vt_val {e:Expr} (h:VE X E e fa) (he:∀ whole,isTrue e X.env whole=(do let v ← whole; standAt e.pos; holding [v] (truthy v)):=by intro _; rfl):VT X E e (v1 truD fa):=by
 refine weakT (pt_truth h (he)) fun σ H Q ⟨β,env,st,he,hs,h⟩=>?_
 exact tG_bind he hs h fun x st1 β1 H1 u x1 s1 e1 r1 h1=>truD_ok s1 r1 h1
theorem asB_ok {K : PySem.W.Frag} {mg : MG} {β : Bt} {H : Hp} {Q : VK} {d : D} {u : V} {st : AS} {k : Bool → AS → Out D} (r : Rep K H β d u) (h : Post K mg (rD K) E β H Q ((asB d st).bind k)) :
   ∃ c,u = .bl c∧Post K mg (rD K) E β H Q (k c st):=by
 cases r with
 | bl b=>exact⟨b,rfl,h⟩
 | _=>exact h.elim
theorem ve_ifExp (hc:VT X E c ga) (ha:VE X E a fa) (hb:VE X E b fb):VE X E (.IfExp c a b pos) (vIfE ga fa fb):=by
 refine weakE (pe_ifExp hc ha hb) fun σ H Q ⟨β,env,st,he,hs,h⟩=>?_
 refine tG_bind he hs h fun x st1 β1 H1 u x1 s1 e1 r1 h1=>?_
 obtain rfl:x=u:=r1
 cases x with
 | true=>exact⟨β1,env,st1,e1,s1,h1⟩
 | false=>exact⟨β1,env,st1,e1,s1,h1⟩
@[simp] def gTup (ds:List D) (st:AS):Out D:=if ds.length≤sizeLine then .ok (.tup ds) st else .bad
@[simp] def gLst (c:Bool) (ds:List D) (st:AS):Out D:=if ds.length≤sizeLine then mk c ds st else .bad
theorem Post.ite {α ρ:Type} {K:PySem.W.Frag} {mg:MG} {R:Hp→Bt→α→ρ→Prop} {β:Bt} {H:Hp} {Q:ρ→Hp→Prop} {p:Prop} [Decidable p] {o:Out α} (h:Post K mg R E β H Q (if p then o else .bad)):p∧Post K mg R E β H Q o:=by
 by_cases hp:p
 · rw[if_pos hp] at h
   exact⟨hp,h⟩
 · rw[if_neg hp] at h
   exact h.elim
variable {es:List Expr} {fs:En→AS→Out (List D)}
theorem ve_tup {x1} (h:VA X E es fs):VE X E (.Tuple es x1 pos) (vA gTup fs):=by
 refine weakE (pe_tup h) fun σ H Q ⟨β,env,st,he,hs,h⟩=>?_
 refine tG_bind he hs h fun ds st1 β1 H1 us x1 s1 e1 r1 h1=>?_
 obtain⟨hl,h2⟩:=h1.ite
 exact⟨by rw[r1.length]; exact hl,new_tup h2 s1 r1⟩
theorem ve_lst (c:Bool) (h:VA X E es fs):VE X E (.List es pos) (vA (gLst c) fs):=by
 refine weakE (pe_lst h) fun σ H Q ⟨β,env,st,he,hs,h⟩=>?_
 refine tG_bind he hs h fun ds st1 β1 H1 us x1 s1 e1 r1 h1=>?_
 obtain⟨hl,h2⟩:=h1.ite
 exact⟨by rw[r1.length]; exact hl,new_lst h2 s1 r1⟩
@[simp] def listW (st:AS):D→Option (List D)
 | .lst ds=>some ds
 | .ref i=>match st[i]? with
   | some (.lst ds)=>some ds
   | _=>none
 | _=>none
theorem Sim.listsW {K:PySem.W.Frag} {mg:MG} {β:Bt} {H:Hp} {st:AS} (S:Sim K mg β st H) {d:D} {u:V} {ds:List D} (r:Rep K H β d u) (h:listW st d=some ds):∃ a us,u = .ref a∧H a=some (.lst us)∧Reps K H β ds us:=by
 cases r with
 | lst n e q =>
   cases h
   exact⟨_,_,rfl,e,q⟩
 | ref e =>
   rename_i i a
   unfold listW at h
   dsimp only at h
   split at h
   · rename_i ds' e2
     cases h
     obtain⟨us,e3,q⟩:=S.cell i a _ e e2
     exact⟨a,us,rfl,e3,q⟩
   · cases h
 | _=>cases h
@[simp] def addL (c:Bool) (x y:D) (st:AS):Out D:=match listW st x,listW st y with
 | some a,some b=>if a.length+b.length≤sizeLine then mk c (a++b) st else .bad
 | _,_=>.bad
@[simp] def addD (c:Bool) (x y:D) (st:AS):Out D:=match x with
 | .int a=>(match y with | .int b=>.ok (.int (a+b)) st | _=>.bad)
 | .bl a=>(match y with | .int b=>.ok (.int ((if a=true then (1:Int) else 0)+b)) st | _=>.bad)
 | .str a=>(match y with | .str b=>if a.length+b.length≤sizeLine then .ok (.str (a++b)) st else .bad | _=>.bad)
 | .tup a=>(match y with | .tup b=>if a.length+b.length≤sizeLine then .ok (.tup (a++b)) st else .bad | _=>.bad)
 | _=>addL c x y st
theorem add_lists {K : PySem.W.Frag} {mg : MG} {β : Bt} {H : Hp} {st : AS} {Q : VK} {x y : D} {u v : V} {c : Bool} (S : Sim K mg β st H) (rx : Rep K H β x u) (ry : Rep K H β y v)
   (h:Post K mg (rD K) E β H Q (addL c x y st)):rCat u v H Q:=by
 unfold addL at h
 split at h
 · rename_i a b ea eb
   obtain⟨l1,us,rfl,e1,r1⟩:=S.listsW rx ea
   obtain⟨l2,ws,rfl,e2,r2⟩:=S.listsW ry eb
   obtain⟨hl,h2⟩:=h.ite
   exact⟨l1,l2,us,ws,rfl,rfl,e1,e2,by rw[r1.length,r2.length]; exact hl,new_lst h2 S (r1.append r2)⟩
 · exact h.elim
theorem ve_add (c:Bool) (ha:VE X E a fa) (hb:VE X E b fb):VE X E (.BinOp a .Add b pos) (v2 (addD c) fa fb):=by
 refine ve_op (op_addN.or (op_add_str.or (op_catA.or op_cat))) (fun β H st x y u v Q S rx ry h=>?_) ha hb
 unfold addD at h
 cases rx with
 | int i =>
   cases ry with
   | int j=>exact .inl ⟨i,j,.int i,rfl,h.here S (.int _)⟩
   | _=>exact h.elim
 | bl a =>
   cases ry with
   | int j=>exact .inl ⟨_,j,.bl a,rfl,h.here S (.int _)⟩
   | _=>exact h.elim
 | str i =>
   cases ry with
   | str j =>
     obtain⟨hl,h2⟩:=h.ite
     exact .inr (.inl ⟨i,j,rfl,rfl,hl,h2.here S (.str _)⟩)
   | _=>exact h.elim
 | tup n1 e1 r1 =>
   cases ry with
   | tup n2 e2 r2 =>
     obtain⟨hl,h2⟩:=h.ite
     refine .inr (.inr (.inl ⟨_,_,_,_,rfl,rfl,.inl (.inl e1),.inl (.inl e2),by rw[r1.length,r2.length]; exact hl,fun z=>?_,fun _ z=>?_,fun _ _=>new_tup h2 S (r1.append r2)⟩))
     · subst z
       cases r1
       exact h2.here S (.tup n2 e2 r2)
     · subst z
       cases r2
       refine h2.here S ?_
       rw[List.append_nil]
       exact .tup n1 e1 r1
   | _=>exact h.elim
 | ctp e r=>exact .inr (.inr (.inr (add_lists S (.ctp e r) ry h)))
 | non=>exact .inr (.inr (.inr (add_lists S .non ry h)))
 | cv b=>exact .inr (.inr (.inr (add_lists S (.cv b) ry h)))
 | lst n e r=>exact .inr (.inr (.inr (add_lists S (.lst n e r) ry h)))
 | fzl e r=>exact .inr (.inr (.inr (add_lists S (.fzl e r) ry h)))
 | ref e=>exact .inr (.inr (.inr (add_lists S (.ref e) ry h)))
@[simp] def iiD (f:Int→Int→D) (x y:D) (st:AS):Out D:=match x,y with
 | .int a,.int b=>.ok (f a b) st
 | _,_=>.bad
theorem ii_ok {K : PySem.W.Frag} {mg : MG} {β : Bt} {H : Hp} {st : AS} {Q : VK} {x y : D} {u v : V} {f : Int → Int → D} (rx : Rep K H β x u) (ry : Rep K H β y v) (h : Post K mg (rD K) E β H Q (iiD f x y st)) :
   ∃ i j,u = .int i∧v = .int j∧Post K mg (rD K) E β H Q (.ok (f i j) st):=by
 cases rx with
 | int i =>
   cases ry with
   | int j=>exact⟨i,j,rfl,rfl,h⟩
   | _=>exact h.elim
 | _=>exact h.elim
@[simp] def subD (x y:D) (st:AS):Out D:=match x with
 | .bl a=>(match y with | .int b=>.ok (.int ((if a=true then (1:Int) else 0)-b)) st | _=>.bad)
 | .int a=>(match y with | .int b=>.ok (.int (a-b)) st | _=>.bad)
 | _=>.bad
theorem ve_sub (ha:VE X E a fa) (hb:VE X E b fb):VE X E (.BinOp a .Sub b pos) (v2 subD fa fb) :=
 ve_op op_subN (fun β H st x y u v Q S rx ry h=>by
   unfold subD at h
   cases rx with
   | int i =>
     cases ry with
     | int j=>exact⟨i,j,.int i,rfl,h.here S (.int _)⟩
     | _=>exact h.elim
   | bl a =>
     cases ry with
     | int j=>exact⟨_,j,.bl a,rfl,h.here S (.int _)⟩
     | _=>exact h.elim
   | _=>exact h.elim) ha hb
def MulOk (i j:Int):Prop:=CMul i j∨CMulW i j
instance:∀ a b,Decidable (CMul a b):=fun a b=>inferInstanceAs (Decidable (_∨_))
instance:∀ a b,Decidable (CMulW a b):=fun a b=>inferInstanceAs (Decidable (_<_))
instance:∀ a b,Decidable (MulOk a b):=fun a b=>inferInstanceAs (Decidable (_∨_))
@[simp] def mulL (c:Bool) (x y:D) (st:AS):Out D:=match listW st x with
 | some a=>(match y with | .int k=>if -(2^63)≤k∧k<2^63∧a.length*k.toNat≤sizeLine then mk c (List.replicate k.toNat a).flatten st else .bad | _=>.bad)
 | _=>.bad
instance:∀ (a:Str) (n:Int),Decidable (PySem.MulOk a n):=fun a n=>inferInstanceAs (Decidable (_∧_))
/-- a text times a number -/
theorem op_mulS:OpR X (binaryOp .Mult) (fun x y H Q=>∃ z n,x = .str z∧y = .int n∧PySem.MulOk z n∧Q (.str (Txt.mul z n)) H):=by
 intro pins s σ H x y v u Q I rx ry h
 obtain⟨z,n,rfl,rfl,hz,q⟩:=h
 obtain⟨t,rfl⟩:=rx
 obtain⟨t',rfl⟩:=ry
 exact PySem.SB.mul hz fun t' k=>⟨.str (Txt.mul z n),H,I.tok _,⟨_,rfl⟩,q⟩
@[simp] def mulD (c:Bool) (x y:D) (st:AS):Out D:=match x with
 | .int a=>(match y with | .int b=>if MulOk a b then .ok (.int (a*b)) st else .bad | _=>.bad)
 | .tup a=>(match y with | .int k=>if a≠[]∧2≤k∧k≤1000∧a.length≤1000 then .ok (.tup (List.replicate k.toNat a).flatten) st else .bad | _=>.bad)
 | .str a=>(match y with | .int k=>if PySem.MulOk a k then .ok (.str (Txt.mul a k)) st else .bad | _=>.bad)
 | _=>mulL c x y st
theorem Reps.rep {K:PySem.W.Frag} {β:Bt} {H:Hp} {ds:List D} {us:List V} (r:Reps K H β ds us):∀ k:Nat,Reps K H β (List.replicate k ds).flatten (List.replicate k us).flatten
 | 0=>.nil
 | k+1=>by
   rw[List.replicate_succ,List.replicate_succ,List.flatten_cons,List.flatten_cons]
   exact r.append (Reps.rep r k)
theorem ne_nil {K:PySem.W.Frag} {β:Bt} {H:Hp} {ds:List D} {us:List V} (r:Reps K H β ds us) (h:ds≠[]):us≠[]:=by
 cases r with
 | nil=>exact absurd rfl h
 | cons _ _=>exact fun z=>nomatch z
theorem ve_mul (c:Bool) (ha:VE X E a fa) (hb:VE X E b fb):VE X E (.BinOp a .Mult b pos) (v2 (mulD c) fa fb):=by
 refine ve_op (op_mul.or (op_mulW.or (op_repT.or (op_rep.or op_mulS)))) (fun β H st x y u v Q S rx ry h=>?_) ha hb
 have lists:∀ {x:D} {u:V},Rep X.K H β x u→Post X.K X.mgw (rD X.K) E β H Q (mulL c x y st)→rRep u v H Q:=by
   intro x u rx h
   unfold mulL at h
   split at h
   · rename_i a ea
     obtain⟨l1,us,rfl,e1,r1⟩:=S.listsW rx ea
     cases ry with
     | int k =>
       obtain⟨⟨h1,h2,h3⟩,h⟩:=h.ite
       exact⟨l1,k,us,rfl,rfl,e1,h1,h2,by rw[r1.length]; exact h3,new_lst h S (r1.rep _)⟩
     | _=>exact h.elim
   · exact h.elim
 unfold mulD at h
 cases rx with
 | int i =>
   cases ry with
   | int j =>
     obtain⟨hl,h2⟩:=h.ite
     rcases hl with hl | hl
     · exact .inl ⟨i,j,rfl,rfl,hl,h2.here S (.int _)⟩
     · exact .inr (.inl ⟨i,j,rfl,rfl,hl,h2.here S (.int _)⟩)
   | _=>exact h.elim
 | ctp e r=>exact .inr (.inr (.inr (.inl (lists (.ctp e r) h))))
 | tup n1 e1 r1 =>
   cases ry with
   | int k =>
     obtain⟨⟨h0,h1,h2,h3⟩,h⟩:=h.ite
     exact .inr (.inr (.inl ⟨_,k,_,rfl,rfl,.inl (.inl e1),ne_nil r1 h0,h1,h2,by rw[r1.length]; exact h3,new_tup h S (r1.rep _)⟩))
   | _=>exact h.elim
 | non=>exact .inr (.inr (.inr (.inl (lists .non h))))
 | str z =>
   cases ry with
   | int k =>
     obtain⟨hl,h⟩:=h.ite
     exact .inr (.inr (.inr (.inr ⟨z,k,rfl,rfl,hl,h.here S (.str _)⟩)))
   | _=>exact h.elim
 | bl b=>exact .inr (.inr (.inr (.inl (lists (.bl b) h))))
 | cv b=>exact .inr (.inr (.inr (.inl (lists (.cv b) h))))
 | lst n e r=>exact .inr (.inr (.inr (.inl (lists (.lst n e r) h))))
 | fzl e r=>exact .inr (.inr (.inr (.inl (lists (.fzl e r) h))))
 | ref e=>exact .inr (.inr (.inr (.inl (lists (.ref e) h))))
@[simp] def iicD (p:Int→Int→Prop) [∀ a b,Decidable (p a b)] (f:Int→Int→D) (x y:D) (st:AS):Out D:=match x,y with
 | .int a,.int b=>if p a b then .ok (f a b) st else .bad
 | _,_=>.bad
theorem iic_ok {p : Int → Int → Prop} [∀ a b, Decidable (p a b)] {K : PySem.W.Frag} {mg : MG} {β : Bt} {H : Hp} {st : AS} {Q : VK} {x y : D} {u v : V} {f : Int → Int → D} (rx : Rep K H β x u) (ry : Rep K H β y v) (h : Post K mg (rD K) E β H Q (iicD p f x y st)) :
   ∃ i j,u = .int i∧v = .int j∧p i j∧Post K mg (rD K) E β H Q (.ok (f i j) st):=by
 cases rx with
 | int i =>
   cases ry with
   | int j=>exact⟨i,j,rfl,rfl,h.ite⟩
   | _=>exact h.elim
 | _=>exact h.elim
instance:∀ a b,Decidable (CDivW a b):=fun a b=>inferInstanceAs (Decidable (_∧_))
instance:∀ a b,Decidable (CPow a b):=fun a b=>inferInstanceAs (Decidable (_∧_))
@[simp] def fdivD (x y:D) (st:AS):Out D:=iicD CDivW (fun a b=>.int (a / b)) x y st
@[simp] def modD (x y:D) (st:AS):Out D:=iicD (fun _ b=>0<b) (fun a b=>.int (a % b)) x y st
@[simp] def powD (x y:D) (st:AS):Out D:=iicD CPow (fun a b=>.int (a^b.toNat)) x y st
theorem ve_fdiv (ha:VE X E a fa) (hb:VE X E b fb):VE X E (.BinOp a .FloorDiv b pos) (v2 fdivD fa fb) :=
 ve_op op_fdivW (fun β H st x y u v Q S rx ry h=>by
   obtain⟨i,j,rfl,rfl,hp,h⟩:=iic_ok rx ry h
   exact⟨i,j,rfl,rfl,hp,h.here S (.int _)⟩) ha hb
theorem ve_mod (ha:VE X E a fa) (hb:VE X E b fb):VE X E (.BinOp a .Mod b pos) (v2 modD fa fb) :=
 ve_op op_mod (fun β H st x y u v Q S rx ry h=>by
   obtain⟨i,j,rfl,rfl,hp,h⟩:=iic_ok rx ry h
   exact⟨i,j,rfl,rfl,hp,h.here S (.int _)⟩) ha hb
theorem ve_pow (ha:VE X E a fa) (hb:VE X E b fb):VE X E (.BinOp a .Pow b pos) (v2 powD fa fb) :=
 ve_op op_pow (fun β H st x y u v Q S rx ry h=>by
   obtain⟨i,j,rfl,rfl,hp,h⟩:=iic_ok rx ry h
   exact⟨i,j,rfl,rfl,hp,h.here S (.int _)⟩) ha hb
@[simp] def negD (x:D) (st:AS):Out D:=match x with
 | .int a=>.ok (.int (-a)) st
 | .bl a=>.ok (.int (-(if a=true then (1:Int) else 0))) st
 | _=>.bad
end
end VL
namespace VL
open PySem PySem.Spec PyProof.Rows L2 TB
mutual
def D.pure:D→Bool
 | .tup ds=>D.pures ds
 | .ctp ds=>D.pures ds
 | .lst ds=>D.pures ds
 | .fzl _=>false
 | .ref _=>false
 | .cv _=>false
 | _=>true
def D.pures:List D→Bool
 | []=>true
 | d::ds=>d.pure&&D.pures ds
end
mutual
def D.py:D→PyData
 | .non=>.none
 | .bl b=>.bool b
 | .int i=>.int i
 | .str x=>.str x
 | .tup ds=>.tuple (D.pys ds)
 | .ctp ds=>.tuple (D.pys ds)
 | .lst ds=>.list (D.pys ds)
 | .fzl _=>.none
 | .ref _=>.none
 | .cv _=>.none
def D.pys:List D→List PyData
 | []=>[]
 | d::ds=>d.py::D.pys ds
end
theorem D.pures_eq:∀ ds:List D,D.pures ds=ds.all D.pure
 | []=>rfl
 | d::ds=>by rw[D.pures,D.pures_eq ds,List.all_cons]
theorem D.pys_eq:∀ ds:List D,D.pys ds=ds.map D.py
 | []=>rfl
 | d::ds=>by rw[D.pys,D.pys_eq ds,List.map_cons]
mutual
theorem Rep.dp {K:PySem.W.Frag} {H:Hp} {β:Bt}:∀ {d:D} {u:V},Rep K H β d u→d.pure=true→Dp K H u d.py
 | _,_,.non,_=>by rw[D.py]; exact .non
 | _,_,.bl b,_=>by rw[D.py]; exact .bl b
 | _,_,.int i,_=>by rw[D.py]; exact .int i
 | _,_,.str x,_=>by rw[D.py]; exact .str x
 | _,_,.cv v,h=>by rw[D.pure] at h; cases h
 | _,_,.ref e,h=>by rw[D.pure] at h; cases h
 | _,_,.tup n e r,h=>by
   rw[D.pure] at h
   rw[D.py]
   exact .tup (.inl (.inl e)) (Reps.dps r h)
 | _,_,.ctp e r,h=>by
   rw[D.pure] at h
   rw[D.py]
   exact .tup e.sq (Reps.dps r h)
 | _,_,.lst n e r,h=>by
   rw[D.pure] at h
   rw[D.py]
   exact .lst (.inl (.inl e)) (Reps.dps r h)
 | _,_,.fzl e r,h=>by rw[D.pure] at h; cases h
theorem Reps.dps {K:PySem.W.Frag} {H:Hp} {β:Bt}:∀ {ds:List D} {us:List V},Reps K H β ds us→D.pures ds=true→DpAll K H us (D.pys ds)
 | _,_,.nil,_=>by rw[D.pys]; exact .nil
 | _,_,.cons r t,h=>by
   rw[D.pures,Bool.and_eq_true] at h
   rw[D.pys]
   exact .cons (Rep.dp r h.1) (Reps.dps t h.2)
end
/-- plain data that==and repr may look at -/
def D.fit (d:D):Bool:=d.pure&&SeqAt.shaped d.py
/-- a list that may change,by what it holds -/
@[simp] def valD (st:AS) (d:D):D:=match d with
 | .ref i=>(match st[i]? with
   | some (.lst ds)=>.lst ds
   | _=>.ref i)
 | _=>d
section
variable {K:PySem.W.Frag} {mg:MG} {E:XK} {β:Bt} {H:Hp} {st:AS} {Q:VK}
theorem Sim.dp (S:Sim K mg β st H) {d:D} {u:V} (r:Rep K H β d u) (h:(valD st d).pure=true):Dp K H u (valD st d).py:=by
 cases r with
 | ref e =>
   rename_i i a
   unfold valD at h ⊢
   dsimp only at h ⊢
   split at h
   · rename_i ds e2
     obtain⟨us,e3,q⟩:=S.cell i a _ e e2
     rw[D.pure] at h
     rw[D.py]
     exact .lst (.inl (.inl e3)) (q.dps h)
   · rw[D.pure] at h
     cases h
 | non=>exact Rep.dp (β:=β) .non h
 | bl b=>exact Rep.dp (β:=β) (.bl b) h
 | int i=>exact Rep.dp (β:=β) (.int i) h
 | str x=>exact Rep.dp (β:=β) (.str x) h
 | cv q=>exact Rep.dp (β:=β) (.cv q) h
 | tup n e r=>exact Rep.dp (.tup n e r) h
 | ctp e r=>exact Rep.dp (.ctp e r) h
 | lst n e r=>exact Rep.dp (.lst n e r) h
 | fzl e r=>exact Rep.dp (.fzl e r) h
end
def scalD:D→Bool
 | .non=>true
 | .bl _=>true
 | .int _=>true
 | .str _=>true
 | _=>false
def eqvD (x y:D):Bool:=PyData.eqv x.py y.py
def eqD (neg:Bool) (x y:D) (st:AS):Out D :=
 if (scalD x&&scalD y)=true then .ok (.bl (xor neg (eqvD x y))) st
 else if ((valD st x).fit&&(valD st y).fit)=true then .ok (.bl (xor neg (eqvD (valD st x) (valD st y)))) st else .bad
section
variable {X:Cx} {E:XK} {a b c:Expr} {fa fb fc:En→AS→Out D} {pos:Pos}
theorem fit_dp {K:PySem.W.Frag} {mg:MG} {β:Bt} {H:Hp} {st:AS} (S:Sim K mg β st H) {d:D} {u:V} (r:Rep K H β d u) (h:(valD st d).fit=true):Dp K H u (valD st d).py∧SeqAt.shaped (valD st d).py=true:=by
 unfold D.fit at h
 rw[Bool.and_eq_true] at h
 exact⟨S.dp r h.1,h.2⟩
theorem eq_ok {K:PySem.W.Frag} {mg:MG} {β:Bt} {H:Hp} {st:AS} {Q:VK} {x y:D} {u v:V} (S:Sim K mg β st H) (rx:Rep K H β x u) (ry:Rep K H β y v) (h:Post K mg (rD K) E β H Q (eqD false x y st)):rEq u v H Q∨rEqD K u v H Q:=by
 unfold eqD at h
 split at h
 · rename_i e
   have q:=h.here S (.bl _)
   rw[Bool.and_eq_true] at e
   cases rx <;> first | (cases e.1; done) | (cases ry <;> first | (cases e.2; done) | (refine Or.inl ⟨rfl,?_⟩; simpa [eqvD,D.py,PyData.eqv,Bool.beq_eq_decide_eq] using q) | (refine Or.inr ⟨.bool _,.int _,.bl _,.int _,rfl,rfl,?_⟩; simpa [eqvD,D.py] using q) | (refine Or.inr ⟨.int _,.bool _,.int _,.bl _,rfl,rfl,?_⟩; simpa [eqvD,D.py] using q))
 · obtain⟨e,h⟩:=h.ite
   rw[Bool.and_eq_true] at e
   obtain⟨d1,s1⟩:=fit_dp S rx e.1
   obtain⟨d2,s2⟩:=fit_dp S ry e.2
   refine .inr ⟨_,_,d1,d2,s1,s2,?_⟩
   have q:=h.here S (.bl _)
   simpa [eqvD] using q
theorem ne_ok {K:PySem.W.Frag} {mg:MG} {β:Bt} {H:Hp} {st:AS} {Q:VK} {x y:D} {u v:V} (S:Sim K mg β st H) (rx:Rep K H β x u) (ry:Rep K H β y v) (h:Post K mg (rD K) E β H Q (eqD true x y st)):rNe u v H Q∨rNeD K u v H Q:=by
 unfold eqD at h
 split at h
 · rename_i e
   have q:=h.here S (.bl _)
   rw[Bool.and_eq_true] at e
   cases rx <;> first | (cases e.1; done) | (cases ry <;> first | (cases e.2; done) | (refine Or.inl ⟨rfl,?_⟩; simpa [eqvD,D.py,PyData.eqv,Bool.beq_eq_decide_eq] using q) | (refine Or.inr ⟨.bool _,.int _,.bl _,.int _,rfl,rfl,?_⟩; simpa [eqvD,D.py] using q) | (refine Or.inr ⟨.int _,.bool _,.int _,.bl _,rfl,rfl,?_⟩; simpa [eqvD,D.py] using q))
 · obtain⟨e,h⟩:=h.ite
   rw[Bool.and_eq_true] at e
   obtain⟨d1,s1⟩:=fit_dp S rx e.1
   obtain⟨d2,s2⟩:=fit_dp S ry e.2
   refine .inr ⟨_,_,d1,d2,s1,s2,?_⟩
   have q:=h.here S (.bl _)
   simpa [eqvD] using q
variable (hu:X.A.units+65<cLine)
include hu
end
def intsOf:List D→Option (List Int)
 | []=>some []
 | .int i::ds=>(intsOf ds).map (i::·)
 | _::_=>none
theorem intsOf_eq:∀ {ds:List D} {ns:List Int},intsOf ds=some ns→ds=ns.map D.int
 | [],ns,h=>by
   rw[intsOf] at h
   cases h
   rfl
 | .int i::ds,ns,h=>by
   rw[intsOf] at h
   cases e:intsOf ds with
   | none=>rw[e] at h; cases h
   | some ms =>
     rw[e] at h
     cases h
     rw[intsOf_eq e]
     rfl
 | .non::_,_,h=>by simp[intsOf] at h
 | .bl _::_,_,h=>by simp[intsOf] at h
 | .str _::_,_,h=>by simp[intsOf] at h
 | .tup _::_,_,h=>by simp[intsOf] at h
 | .ctp _::_,_,h=>by simp[intsOf] at h
 | .lst _::_,_,h=>by simp[intsOf] at h
 | .fzl _::_,_,h=>by simp[intsOf] at h
 | .ref _::_,_,h=>by simp[intsOf] at h
 | .cv _::_,_,h=>by simp[intsOf] at h
theorem Reps.ints {K:PySem.W.Frag} {H:Hp} {β:Bt}:∀ {ns:List Int} {us:List V},Reps K H β (ns.map D.int) us→us=ns.map V.int
 | [],_,.nil=>rfl
 | n::ns,_,.cons r t=>by
   cases r
   rw[Reps.ints t]
   rfl
theorem reps_ints {K:PySem.W.Frag} {H:Hp} {β:Bt}:∀ ns:List Int,Reps K H β (ns.map D.int) (ns.map V.int)
 | []=>.nil
 | n::ns=>.cons (.int n) (reps_ints ns)
def ltStr (a b:Str):Bool:=decide (a.cps.toList<b.cps.toList)
def leT (ns ms:List Int):Bool:=Ob.lexAt (fun j=>decide (ns.getD j 0=ms.getD j 0)) (fun j=>decide (ns.getD j 0≤ms.getD j 0)) (decide (ns.length≤ms.length)) 0 (min ns.length ms.length)
@[simp] def ordD (fi:Int→Int→Bool) (fs:Str→Str→Bool) (ft:List Int→List Int→Option Bool) (x y:D) (st:AS):Out D:=match x,y with
 | .int a,.int b=>.ok (.bl (fi a b)) st
 | .str a,.str b=>.ok (.bl (fs a b)) st
 | .tup a,.tup b=>(match intsOf a,intsOf b with
   | some n,some m=>(match ft n m with | some k=>.ok (.bl k) st | none=>.bad)
   | _,_=>.bad)
 | _,_=>.bad
@[simp] def ltD (x y:D) (st:AS):Out D:=ordD (fun a b=>decide (a<b)) ltStr (fun n m=>some (HT.lexLt n m)) x y st
@[simp] def leD (x y:D) (st:AS):Out D:=ordD (fun a b=>decide (a≤b)) (fun a b=>!ltStr b a) (fun n m=>some (leT n m)) x y st
@[simp] def gtD (x y:D) (st:AS):Out D:=ordD (fun a b=>decide (b<a)) (fun a b=>ltStr b a) (fun _ _=>none) x y st
@[simp] def geD (x y:D) (st:AS):Out D:=ordD (fun a b=>decide (b≤a)) (fun a b=>!ltStr a b) (fun _ _=>none) x y st
theorem ord_ok {K : PySem.W.Frag} {mg : MG} {E : XK} {β : Bt} {H : Hp} {st : AS} {Q : VK} {x y : D} {u v : V} {fi : Int → Int → Bool} {fs : Str → Str → Bool} {ft : List Int → List Int → Option Bool} (S : Sim K mg β st H) (rx : Rep K H β x u) (ry : Rep K H β y v) (h : Post K mg (rD K) E β H Q (ordD fi fs ft x y st)) :
   (∃ i j,u = .int i∧v = .int j∧Q (.bl (fi i j)) H)∨(∃ i j,u = .str i∧v = .str j∧Q (.bl (fs i j)) H) ∨ ∃ a b ns ms k,u = .ref a∧v = .ref b∧SqT K H a (ns.map V.int)∧SqT K H b (ms.map V.int)∧ft ns ms=some k∧Q (.bl k) H:=by
 cases rx with
 | int i =>
   cases ry with
   | int j=>exact .inl ⟨i,j,rfl,rfl,h.here S (.bl _)⟩
   | _=>exact h.elim
 | str i =>
   cases ry with
   | str j=>exact .inr (.inl ⟨i,j,rfl,rfl,h.here S (.bl _)⟩)
   | _=>exact h.elim
 | tup n1 e1 r1 =>
   cases ry with
   | tup n2 e2 r2 =>
     unfold ordD at h
     dsimp only at h
     split at h
     · rename_i n m en em
       split at h
       · rename_i k ek
         have z1:=intsOf_eq en
         have z2:=intsOf_eq em
         subst z1
         subst z2
         have w1:=r1.ints
         have w2:=r2.ints
         subst w1
         subst w2
         exact .inr (.inr ⟨_,_,n,m,k,rfl,rfl,.inl (.inl e1),.inl (.inl e2),ek,h.here S (.bl _)⟩)
       · exact h.elim
     · exact h.elim
   | _=>exact h.elim
 | _=>exact h.elim
section
variable {X:Cx} {E:XK} {a b c:Expr} {fa fb fc:En→AS→Out D} {pos:Pos}
def OkC (X:Cx) (E:XK) (op:CmpOp) (g:D→D→AS→Out D):Prop:=∃ r,OpR X (compareOp op) r∧Ok2 X.K X.mgw E r g
theorem OkC.vt {op:CmpOp} {g:D→D→AS→Out D} (h:OkC X E op g) (ha:VE X E a fa) (hb:VE X E b fb) (hm:behindInMarks op b=false):VT X E (.Compare a [op] [b] pos) (vB (v2 g fa fb)):=by
 obtain⟨r,h1,h2⟩:=h
 exact vt_cmp h1 h2 ha hb hm
theorem oc_lt (hu:X.A.units+65<cLine):OkC X E .Lt ltD:=⟨_,op_lt.or (op_lt_str.or (op_ltT (Nat.lt_of_le_of_lt (by omega) hu))),fun β H st x y u v Q S rx ry h=>by
 rcases ord_ok S rx ry h with⟨i,j,rfl,rfl,q⟩ | ⟨i,j,rfl,rfl,q⟩ | ⟨p,q',ns,ms,k,rfl,rfl,h1,h2,e,q⟩
 · exact .inl ⟨i,j,rfl,rfl,q⟩
 · exact .inr (.inl ⟨i,j,rfl,rfl,q⟩)
 · cases e
   exact .inr (.inr ⟨p,q',ns,ms,rfl,rfl,h1,h2,q⟩)⟩
theorem oc_gt:OkC X E .Gt gtD:=⟨_,op_gt.or op_gt_str,fun β H st x y u v Q S rx ry h=>by
 rcases ord_ok S rx ry h with⟨i,j,rfl,rfl,q⟩ | ⟨i,j,rfl,rfl,q⟩ | ⟨p,q',ns,ms,k,rfl,rfl,h1,h2,e,q⟩
 · exact .inl ⟨i,j,rfl,rfl,q⟩
 · exact .inr ⟨i,j,rfl,rfl,q⟩
 · cases e⟩
theorem oc_ge:OkC X E .GtE geD:=⟨_,op_ge.or op_ge_str,fun β H st x y u v Q S rx ry h=>by
 rcases ord_ok S rx ry h with⟨i,j,rfl,rfl,q⟩ | ⟨i,j,rfl,rfl,q⟩ | ⟨p,q',ns,ms,k,rfl,rfl,h1,h2,e,q⟩
 · exact .inl ⟨i,j,rfl,rfl,q⟩
 · exact .inr ⟨i,j,rfl,rfl,q⟩
 · cases e⟩
theorem oc_le (hu:X.A.units+65<cLine):OkC X E .LtE leD:=⟨_,op_le.or (op_le_str.or (op_leT (Nat.lt_of_le_of_lt (by omega) hu))),fun β H st x y u v Q S rx ry h=>by
 rcases ord_ok S rx ry h with⟨i,j,rfl,rfl,q⟩ | ⟨i,j,rfl,rfl,q⟩ | ⟨p,q',ns,ms,k,rfl,rfl,h1,h2,e,q⟩
 · exact .inl ⟨i,j,rfl,rfl,q⟩
 · exact .inr (.inl ⟨i,j,rfl,rfl,q⟩)
 · cases e
   exact .inr (.inr ⟨p,q',ns,ms,rfl,rfl,h1,h2,q⟩)⟩
theorem oc_eq (hu:X.A.units+65<cLine):OkC X E .Eq (eqD false):=⟨_,op_eq.or (op_eqD (Nat.lt_of_le_of_lt (by omega) hu)),fun _ _ _ _ _ _ _ _ S rx ry h=>eq_ok S rx ry h⟩
theorem oc_ne (hu:X.A.units+65<cLine):OkC X E .NotEq (eqD true):=⟨_,op_ne.or (op_neD (Nat.lt_of_le_of_lt (by omega) hu)),fun _ _ _ _ _ _ _ _ S rx ry h=>ne_ok S rx ry h⟩
/-- is None,is True,is not .. -/
@[simp] def isND (neg:Bool) (x y:D) (st:AS):Out D:=match y with
 | .non=>(match x with
   | .cv _=>.bad
   | .non=>.ok (.bl (!neg)) st
   | _=>.ok (.bl neg) st)
 | .bl b=>(match x with
   | .cv _=>.bad
   | .bl a=>.ok (.bl (xor neg (decide (a=b)))) st
   | _=>.ok (.bl neg) st)
 | _=>.bad
def notTy:V→Bool
 | .non=>true
 | .bl _=>true
 | .int _=>true
 | .str _=>true
 | .ref _=>true
 | _=>false
def rIsT (neg:Bool):R2:=fun x y H Q=>∃ b:Bool,y = .bl b∧notTy x=true∧Q (.bl (xor neg (decide (x = .bl b)))) H
theorem op_notT:OpR X (compareOp .IsNot) (rIsT true):=by
 intro pins s σ H x y v u Q I rx ry h
 obtain⟨b,rfl,hx,q⟩:=h
 cases (show u=Value.bool b from ry)
 cases x with
 | bl a=>exact op_notBl pins s σ H _ _ v _ Q I rx (show RelV (.bl b) (.bool b) from rfl) ⟨a,b,rfl,rfl,by simpa using q⟩
 | non =>
   cases (show v=Value.none from rx)
   exact wpAny_isNot_other rfl (fun z=>nomatch z) ⟨.bl true,H,I,rfl,by simpa using q⟩
 | int i =>
   obtain⟨t,rfl⟩:=rx
   exact wpAny_isNot_other rfl (fun z=>nomatch z) ⟨.bl true,H,I,rfl,by simpa using q⟩
 | str i =>
   obtain⟨t,rfl⟩:=rx
   exact wpAny_isNot_other rfl (fun z=>nomatch z) ⟨.bl true,H,I,rfl,by simpa using q⟩
 | ref a =>
   cases (show v=Value.ref a from rx)
   exact wpAny_isNot_other rfl (fun z=>nomatch z) ⟨.bl true,H,I,rfl,by simpa using q⟩
 | _=>cases hx
theorem isN_val {K : PySem.W.Frag} {mg : MG} {β : Bt} {H : Hp} {st : AS} {Q : VK} {x y : D} {u v : V} {neg : Bool} (S : Sim K mg β st H) (rx : Rep K H β x u) (ry : Rep K H β y v) (h : Post K mg (rD K) E β H Q (isND neg x y st)) :
   (v = .non∧Q (.bl (xor neg (decide (u = .non)))) H)∨rIsT neg u v H Q:=by
 unfold isND at h
 cases ry with
 | non =>
   refine .inl ⟨rfl,?_⟩
   cases rx with
   | cv=>exact h.elim
   | non=>have q:=h.here S (.bl _); cases neg <;> simpa using q
   | _=>have q:=h.here S (.bl _); cases neg <;> simpa using q
 | bl b =>
   refine .inr ⟨b,rfl,?_,?_⟩
   · cases rx <;> first | rfl | exact h.elim
   · cases rx with
     | cv=>exact h.elim
     | bl a=>have q:=h.here S (.bl _); simpa using q
     | _=>have q:=h.here S (.bl _); cases neg <;> simpa using q
 | _=>exact h.elim
theorem oc_isnot:OkC X E .IsNot (isND true):=⟨_,op_notN.or op_notT,fun β H st x y u v Q S rx ry h=>by
 rcases isN_val S rx ry h with⟨rfl,q⟩ | q
 · exact .inl ⟨rfl,by simpa using q⟩
 · exact .inr q⟩
/-- a op b op' c -/
@[simp] def vChain (g g':D→D→AS→Out D) (fa fb fc:En→AS→Out D) (env:En) (st:AS):Out D:=(fa env st).bind fun x st=>(fb env st).bind fun y st=>(g x y st).bind fun z st=>(asB z st).bind fun k st =>
 if k=true then (fc env st).bind fun w st=>g' y w st else .ok (.bl false) st
theorem post_bind {K : PySem.W.Frag} {mg : MG} {α ρ γ τ : Type} {R : Hp → Bt → α → ρ → Prop} {R' : Hp → Bt → γ → τ → Prop} {β : Bt} {H : Hp} {Q : τ → Hp → Prop} {o : Out α} {k : α → AS → Out γ} (h : Post K mg R' E β H Q (o.bind k)) :
   Post K mg R E β H (fun u H1=>∃ a st1 β1,Ext β H β1 H1∧Sim K mg β1 st1 H1∧R H1 β1 a u∧Post K mg R' E β1 H1 Q (k a st1)) o:=by
 cases o with
 | ok a st=>exact fun β1 H1 u x s r=>⟨a,st,β1,x,s,r,Post.ext x h⟩
 | exc c fs st=>exact h
 | bad=>exact h
theorem use_chain {op op':CmpOp} {g g':D→D→AS→Out D} {r r':R2} (h2:Ok2 X.K X.mgw E r g) (h2':Ok2 X.K X.mgw E r' g') {σ:L2.St} {H:Hp} {Q:VK} (h:tV X.K X.mgw E (vChain g g' fa fb fc) σ H Q):tChain r r' (tV X.K X.mgw E fa) (tV X.K X.mgw E fb) (tV X.K X.mgw E fc) σ H Q:=by
 obtain⟨β,env,st,he,hs,h⟩:=h
 refine tG_bind he hs h fun x st1 β1 H1 u x1 s1 e1 r1 h1=>?_
 refine tG_bind e1 s1 h1 fun y st2 β2 H2 v x2 s2 e2 r2 h2x=>?_
 refine h2 β2 H2 st2 x y u v _ s2 (r1.ext x2) r2 ?_
 have q:=post_bind (R:=rD X.K) h2x
 cases o:g x y st2 with
 | bad=>rw[o] at q; exact q
 | exc c fs s=>rw[o] at q; exact q
 | ok z st3 =>
   rw[o] at q
   intro β3 H3 w x3 s3 r3
   obtain⟨a',st3',β3',_,_,_,q3⟩:=q β3 H3 w x3 s3 r3
   rw[o] at h2x
   have h3:Post X.K X.mgw (rD X.K) E β3 H3 Q ((asB z st3).bind fun k st=>if k=true then (fc env st).bind fun w st=>g' y w st else .ok (.bl false) st):=Post.ext x3 h2x
   obtain⟨k,rfl,h4⟩:=asB_ok r3 h3
   cases k with
   | false=>exact⟨false,rfl,h4.here s3 (.bl false)⟩
   | true =>
     refine⟨true,rfl,?_⟩
     refine tG_bind (e2.ext x3) s3 h4 fun w' st4 β4 H4 t x4 s4 e4 r4 h5=>?_
     exact h2' β4 H4 st4 y w' v t Q s4 ((r2.ext x3).ext x4) r4 h5
theorem vt_chain {op op':CmpOp} {g g':D→D→AS→Out D} (h:OkC X E op g) (h':OkC X E op' g') (ha:VE X E a fa) (hb:VE X E b fb) (hc:VE X E c fc) (hm:lastMarks [op,op'] [b,c]=false:=by with_unfolding_all rfl):VT X E (.Compare a [op,op'] [b,c] pos) (vB (vChain g g' fa fb fc)):=by
 obtain⟨r,h1,h2⟩:=h
 obtain⟨r',h1',h2'⟩:=h'
 refine weakT (pt_chain h1 h1' ha hb hc hm) fun σ H Q h=>?_
 obtain⟨β,env,st,he,hs,h⟩:=h
 have h':tV X.K X.mgw E (vChain g g' fa fb fc) σ H fun x H'=>∃ k,x = .bl k∧Q k H':=tG_bind he hs h fun x st1 β1 H1 u x1 s1 e1 r1 h1=>postB s1 r1 h1
 exact use_chain (op:=op) (op':=op') h2 h2' h'
end
end VL
namespace TB
open PySem PySem.Spec PyProof.Rows L2
section
variable {prog:Program} {w:World} {A:Around} {R:Result→Shared→Prop} {I:Addr} {fp wr:List Addr} {G:Array GenState→Array GenState→Prop} {n:Nat} {P:Nat→Value→Prop} {St:Nat→Shared→Prop}
/-- the loop behind the first thing,whatever default goes along -/
theorem min_goes (Wk : WalksS prog w A.in1 I fp wr G n P St) (bt : Nat → Nat → Bool) (cm : CmpOf prog w A.in1 .Lt P bt) (S : Addr) (out : S ∉ fp) (kw : List (Str × Value)) :
   ∀ (k j:Nat) (s:Shared) (b0:Value) (c:Nat),n-(j+1)=k→j+1≤n→St (j+1) s→P (argBest bt j) b0 →
     s.heap.get? S=some { cls:=.type "list",dict:=none,data:=.seq #[b0,b0] c,slots:=#[] } →
     (∀ v s2,P (argBest bt (n-1)) v→Moved (S::wr) G s s2→R (.ok (.ret v)) s2)→codeAny (model prog w) A (.builtin "min.loop" ⟨[.ref I,.none,.ref S],kw⟩) R s:=by
 have outw:S∉wr:=fun z=>out (Wk.sub _ z)
 have sub:∀ b∈wr,b∈S::wr:=fun b z=>List.mem_cons_of_mem _ z
 have nm:(toString "min" ++ toString ".loop" : String) = "min.loop" := by decide
 have apart:∀ {b:Addr},b∉S::wr→S≠b:=fun z y=>z (by rw[y]; exact List.mem_cons_self)
 intro k
 induction k with
 | zero =>
   intro j s b0 c ek lj st pb at_S rr
   have ej:j+1=n:=by omega
   refine codeAny_builtin PySem.F.entry_min_loop ?_
   rw[Around.under_plainId PySem.F.plain_min_loop _]
   show wpAny _ A.in1 (seqItems? (.ref S) >>= _) _ _ _
   refine wpAny_bind (wpAny_seqItems at_S rfl ?_)
   show wpAny _ A.in1 (tryCatch (pyNext (.ref I)) _ >>= _) _ _ _
   refine wpAny_bind (wpAny_tryCatch (Wk.done s _ _ (ej ▸ st) fun s1 mv=>?_))
   have at1:=mv.heap S _ outw at_S
   show wpAny _ A.in1 (updateSeq S (fun _=>#[]) >>= _) _ _ s1
   refine wpAny_bind ?_
   refine wpAny_updateSeq at1 rfl (wpAny_bind (wpAny_letGo (wpAny_pure ?_)))
   refine rr b0 _ (by rw[← ej]; exact pb) ((mv.mono sub).then_heap (tk:=s1.toks) (Nat.le_refl _) fun b o z e=>?_)
   exact (Heap.get?_update_other _ _ (apart z)).trans e
 | succ k ih =>
   intro j s b0 c ek lj st pb at_S rr
   have lt:j+1<n:=by omega
   refine codeAny_builtin PySem.F.entry_min_loop ?_
   rw[Around.under_plainId PySem.F.plain_min_loop _]
   show wpAny _ A.in1 (seqItems? (.ref S) >>= _) _ _ _
   refine wpAny_bind (wpAny_seqItems at_S rfl ?_)
   show wpAny _ A.in1 (tryCatch (pyNext (.ref I)) _ >>= _) _ _ _
   refine wpAny_bind (wpAny_tryCatch (Wk.item (j+1) s _ _ lt st fun v s1 pv st1 mv=>?_))
   have at1:=mv.heap S _ outw at_S
   show wpAny _ A.in1 (tryCatch (holding [v,v] (richCompare .Lt v b0 >>= _)) _ >>= _) _ _ s1
   refine wpAny_bind (wpAny_tryCatch (wpAny_holding (wpAny_bind (cm (j+1) (argBest bt j) v b0 _ _ _ pv pb ?_))))
   refine wpAny_bind (wpAny_holding (wpAny_truthy_bool ?_))
   refine wpAny_bind (wpAny_letGo (wpAny_pure ?_))
   cases eb:bt (j+1) (argBest bt j) with
   | true =>
     simp only[if_true]
     refine wpAny_bind ?_
     refine wpAny_updateSeq at1 rfl (wpAny_bind (wpAny_letGo ?_))
     rw[nm]
     refine wpAny_pure ⟨plainId_quiet PySem.F.plain_min_loop _,ih (j+1) _ v _ (by omega) lt (Wk.frame _ s1 _ s1.toks st1 (Nat.le_refl _) fun b z o e=>?_) (by simp only[argBest,eb,if_true]; exact pv) (Heap.get?_update_self _ at1 rfl) fun v2 s2 p2 m2=>?_⟩
     · exact (Heap.get?_update_other _ _ (fun y:S=b=>out (by rw[y]; exact z))).trans e
     · refine rr v2 s2 p2 (Moved.trans Wk.gtrans ((mv.mono sub).then_heap (by first | exact Nat.le_refl _ | exact Nat.le_succ _ | omega) fun b o z e=>?_) m2)
       exact (Heap.get?_update_other _ _ (apart z)).trans e
   | false =>
     simp only[Bool.false_eq_true,if_false]
     refine wpAny_bind (wpAny_letGo ?_)
     rw[nm]
     refine wpAny_pure ⟨plainId_quiet PySem.F.plain_min_loop _,ih (j+1) _ b0 c (by omega) lt st1 (by simp only[argBest,eb,Bool.false_eq_true,if_false]; exact pb) at1 fun v2 s2 p2 m2=>?_⟩
     exact rr v2 s2 p2 (Moved.trans Wk.gtrans (mv.mono sub) m2)
theorem min_starts (Wk : WalksS prog w A.in1 I fp wr G n P St) (bt : Nat → Nat → Bool) (cm : CmpOf prog w A.in1 .Lt P bt) (S : Addr) (out : S ∉ fp) (kx : Str) (dv : Value) {s : Shared} {c : Nat} (st : St 0 s)
   (at_S:s.heap.get? S=some { cls:=.type "list",dict:=none,data:=.seq #[] c,slots:=#[] })
   (r0:n=0 → ∀ s2,Moved (S::wr) G s s2→R (.ok (.ret dv)) s2)
   (rr:0<n → ∀ v s2,P (argBest bt (n-1)) v→Moved (S::wr) G s s2→R (.ok (.ret v)) s2):codeAny (model prog w) A (.builtin "min.loop" ⟨[.ref I,.none,.ref S],[(kx,dv)]⟩) R s:=by
 have outw:S∉wr:=fun z=>out (Wk.sub _ z)
 have sub:∀ b∈wr,b∈S::wr:=fun b z=>List.mem_cons_of_mem _ z
 have nm:(toString "min" ++ toString ".loop" : String) = "min.loop" := by decide
 have apart:∀ {b:Addr},b∉S::wr→S≠b:=fun z y=>z (by rw[y]; exact List.mem_cons_self)
 refine codeAny_builtin PySem.F.entry_min_loop ?_
 rw[Around.under_plainId PySem.F.plain_min_loop _]
 show wpAny _ A.in1 (seqItems? (.ref S) >>= _) _ _ _
 refine wpAny_bind (wpAny_seqItems at_S rfl ?_)
 show wpAny _ A.in1 (tryCatch (pyNext (.ref I)) _ >>= _) _ _ _
 by_cases c0:n=0
 · refine wpAny_bind (wpAny_tryCatch (Wk.done s _ _ (by rw[c0]; exact st) fun s1 mv=>?_))
   refine wpAny_bind (wpAny_rule ?_)
   exact wpAny_pure (r0 c0 _ (mv.mono sub))
 · have np:0<n:=by omega
   refine wpAny_bind (wpAny_tryCatch (Wk.item 0 s _ _ np st fun v s1 pv st1 mv=>?_))
   have at1:=mv.heap S _ outw at_S
   show wpAny _ A.in1 (updateSeq S (fun _=>#[v,v]) >>= _) _ _ s1
   refine wpAny_bind ?_
   refine wpAny_updateSeq at1 rfl ?_
   rw[nm]
   refine wpAny_pure ⟨plainId_quiet PySem.F.plain_min_loop _,min_goes Wk bt cm S out _ _ 0 _ v _ rfl np (Wk.frame _ s1 _ s1.toks st1 (Nat.le_refl _) fun b z o e=>?_) pv (Heap.get?_update_self _ at1 rfl) fun v2 s2 p2 m2=>?_⟩
   · exact (Heap.get?_update_other _ _ (fun y:S=b=>out (by rw[y]; exact z))).trans e
   · refine rr np v2 s2 p2 (Moved.trans Wk.gtrans ((mv.mono sub).then_heap (by first | exact Nat.le_refl _ | exact Nat.le_succ _ | omega) fun b o z e=>?_) m2)
     exact (Heap.get?_update_other _ _ (apart z)).trans e
end
theorem moved_eq {wr:List Addr} {s s2:Shared} (h:Moved wr (fun a b=>b=a) s s2):s2={ s with heap:=s2.heap,toks:=s2.toks }:=by
 obtain⟨hp,g,d,tk,os⟩:=s
 obtain⟨hp2,g2,d2,tk2,os2⟩:=s2
 obtain⟨_,a,b,c,_⟩:=h
 cases a
 cases b
 cases c
 rfl
section
variable {prog:Program} {w:World} {A:Around} {E:Value→Shared→Prop} {s:Shared}
theorem min_args (a v:Value):argsOk "min" ⟨[a],[(Str.ofString "default",v)]⟩:=by
 unfold argsOk
 kernel_rfl
theorem min_dflt {its : List Value} {ns : List Int} {l : Addr} {dv : Value} {Q : Value → Shared → Prop} (hh : A.handled = none) (hl : s.heap.IsList l its.toArray) (hi : IntsAre its ns)
   (h0:ns=[] → ∀ h' tk,(∀ b o,s.heap.get? b=some o→h'.get? b=some o)→Q dv { s with heap:=h',toks:=tk })
   (h:∀ h' tk M t',(∀ b o,s.heap.get? b=some o→h'.get? b=some o)→M∈ns→(∀ a,a∈ns→M≤a)→Q (.int M t') { s with heap:=h',toks:=tk }) :
   wpAny (model prog w) A (call (.builtin "min") [.ref l] [(Str.ofString "default",dv)]) Q E s:=by
 obtain⟨xs,e⟩:=hi.allInts.items
 have hn:numsOf (intItems xs).toList=ns:=by rw[← e]; exact hi.numsOf
 rw[nums_intItems] at hn
 subst hn
 rw[e] at hl
 have nm:(toString "min" ++ toString ".loop" : String) = "min.loop" := by decide
 refine kmk_tree PySem.F.kind_min PySem.F.plain_min PySem.F.entry_min (min_args _ _) ?_
 show wpAny _ A.in1 (Builtin.Builtins.bindParams "min" ["key","default"] 0 ⟨[],[(Str.ofString "default",dv)]⟩ >>= _) _ _ s
 refine wpAny_bind (wpAny_of_eq (show Builtin.Builtins.bindParams "min" ["key","default"] 0 ⟨[],[(Str.ofString "default",dv)]⟩=pure [none,some dv] from rfl) ?_)
 refine wpAny_bind (wpAny_pure ?_)
 refine wpAny_bind (iter_intList hl fun s2 es st hfp hlI=>?_)
 subst es
 refine wpAny_bind (wpAny_newObj_type ?_)
 rw[nm]
 have Wk:=(Walks.list (prog:=prog) (w:=w) (A:=A.in1) hh s.heap.objs.size l hlI (intItems xs)).toS
 refine wpAny_pure ⟨plainId_quiet PySem.F.plain_min_loop _,min_starts Wk _ (CmpOf.ints_lt (numAt xs) (fun _ _=>intItems_at)) _ ?_ _ dv (Wk.frame 0 _ _ _ st (Nat.le_refl _) fun b _ o z=>Heap.get?_push_of_some _ z) (Heap.get?_push_size _ rfl) (fun z s2 mv=>?_) (fun z v s2 pv mv=>?_)⟩
 · exact fun z=>Nat.lt_irrefl _ (hfp _ z)
 · have m2:=Moved.drop_new (tk:=s.toks) mv (Nat.le_refl _)
   have hz:xs.toList=[]:=by
     have:xs.size=0:=by simpa [intItems] using z
     exact List.eq_nil_of_length_eq_zero (by rw[Array.length_toList]; exact this)
   show Q dv s2
   rw[moved_eq m2]
   exact h0 (by rw[hz]; rfl) _ _ (old_kept m2.heap)
 · have m2:=Moved.drop_new (tk:=s.toks) mv (Nat.le_refl _)
   have hsz:0<xs.size:=by simpa [intItems] using z
   have pv2:(intItems xs)[argBest (fun i j=>decide (numAt xs i<numAt xs j)) ((intItems xs).size-1)]? = some v:=pv
   obtain⟨t,rfl⟩:=intItems_at pv2
   have esz:(intItems xs).size=xs.size:=by simp[intItems]
   obtain⟨h1,h2⟩:=argBest_lt (numAt xs) ((intItems xs).size-1)
   rw[esz] at h1 h2
   show Q (.int _ t) s2
   rw[moved_eq m2,esz]
   refine h _ _ _ t (old_kept m2.heap) ?_ fun a ha=>?_
   · rw[numAt_eq]
     exact PySem.getD_mem (by rw[List.length_map,Array.length_toList]; omega)
   · obtain⟨j,hj,rfl⟩:=mem_getD ha
     rw[List.length_map,Array.length_toList] at hj
     rw[← numAt_eq]
     exact h2 j (by omega)
end
section
variable {X:Cx}
def rMinDf (K:PySem.W.Frag):List V→List V→Hp→VK→Prop:=fun vs zs H Q=>∃ (a:Addr) (ns:List Int) (d:V),vs=[V.ref a]∧zs=[d]∧SqL K H a (ns.map V.int)∧(ns=[]→Q d H) ∧ ∀ m,m∈ns→(∀ y,y∈ns→m≤y)→Q (.int m) H
theorem cr_minDf (calm:X.calm=true):CallRK X (.builtin "min") ["default"] (rMinDf X.K):=by
 intro pins s σ H xs zs us ws Q I rx rz h
 obtain⟨a,ns,d,rfl,rfl,at_a,q0,q1⟩:=h
 obtain⟨its,rv,hl,_⟩:=I.list at_a
 obtain⟨u,rfl,ru⟩:=rz.one
 rw[Vals.ref1 rx]
 exact min_dflt (I.ok.hd calm) hl.isList rv.ints (fun z h' tk hk=>⟨d,H,I.kept hk,ru,q0 z⟩) fun h' tk m t' hk h1 h2=>⟨.int m,H,I.kept hk,⟨_,rfl⟩,q1 m h1 h2⟩
end
end TB
namespace TB
open PySem PySem.Spec PyProof.Rows L2 PySem.AutoSeq1
set_option maxRecDepth 8000 in
theorem ext_tup (l t : Addr) (xs ys : Array Value) (n m : Nat) (dd : Option Addr) (sl : Array (Option Value)) (c0 : ¬(!xs.isEmpty && Builtin.List.listTooLong (xs.size + ys.size)) = true) (c1 : xs.size ≤ sizeLine) (c2 : xs.size + ys.size ≤ sizeLine + 1) :
   Meets (Builtin.«list.extend» ⟨[.ref l,.ref t],[]⟩) (fun _ R s=>s.heap.get? l=some { cls:=.type "list",dict:=none,data:=.seq xs n,slots:=#[] }∧s.heap.get? t=some { cls:=.type "tuple",dict:=dd,data:=.seq ys m,slots:=sl }∧R (.ok (.ret Value.none)) { s with heap:=s.heap.update l (Obj.mapSeq fun x=>x++ys),toks:=s.toks }) :=
 .of_wp fun prog w A R s h=>by
   obtain⟨hp,g,d,tk,os⟩:=s
   obtain⟨a1,a2,h⟩:=h
   have f1:=idx_int
   have f2:=AutoSeq1.sub_tuple_tuple
   have f3:=AutoSeq1.sub_list_list
   have f4:=AutoSeq1.sub_tuple_list
   have f5:=AutoSeq1.sub_list_tuple
   have z':(xs++ys).size≤sizeLine+1:=by rw[Array.size_append]; exact c2
   wp_walk using (wpAny_updateSeq a1 rfl (hz:=c1) (_hz':=z')),wpAny_loadPart' a1,wpAny_loadPart' a2
   exact⟨_,rfl,h⟩
section
variable {X:Cx}
def rExtT (K:PySem.W.Frag):V→List V→Hp→VK→Prop:=fun x vs H Q=>∃ l t xs zs,x = .ref l∧vs=[.ref t]∧H l=some (.lst xs)∧SqT K H t zs∧xs.length+zs.length≤sizeLine∧Q .non (upd H l (.lst (xs++zs)))
theorem mt_extendT:MtM X "list.extend" (rExtT X.K):=by
 intro pins s σ H x vs v us Q I rx rv h
 obtain⟨l,t,xs,zs,rfl,rfl,hH,hB,hz,q⟩:=h
 cases rx
 obtain⟨u,rfl,ru⟩:=rv.one
 cases ru
 obtain⟨z,its,n,r,hl,e⟩:=I.lstM hH
 obtain⟨its2,r2,⟨o2,e2,k2,n2,d2⟩,z2⟩:=I.tuple hB
 obtain⟨oc,od,oda,osl⟩:=o2
 cases k2
 cases d2
 have l2:=r2.length
 have fits:its.toArray.size+its2.toArray.size≤sizeLine:=by
   rw[List.size_toArray,List.size_toArray]
   omega
 have short:¬ (!its.toArray.isEmpty&&Builtin.List.listTooLong (its.toArray.size+its2.toArray.size))=true:=fun y=>by
   rw[notLongL fits,Bool.and_false] at y
   cases y
 refine call_meets F.slot_list_extend ⟨_,e,rfl⟩ F.entry_list_extend (F.args_list_extend_2 _ _) (ext_tup l t its.toArray its2.toArray n n2 _ _ short (by rw[List.size_toArray]; omega) (by omega)) ⟨e,e2,?_⟩
 refine⟨.non,_,I.lset (its':=its++its2) hH e (by simp) (r.append r2) ?_,rfl,q⟩
 rw[List.length_append]
 omega
end
end TB
namespace VL
open PySem PySem.Spec PyProof.Rows L2 TB
/-- what a list or a tuple holds -/
@[simp] def seqOf (st:AS) (d:D):Option (List D):=match d with
 | .tup ds=>some ds
 | .ctp ds=>some ds
 | _=>listOf st d
section
variable {K:PySem.W.Frag} {mg:MG} {E:XK} {β:Bt} {H:Hp} {st:AS} {Q:VK}
theorem Sim.seqs (S:Sim K mg β st H) {d:D} {u:V} {ds:List D} (r:Rep K H β d u) (h:seqOf st d=some ds):∃ a us,u = .ref a∧(SqL K H a us∨SqT K H a us)∧Reps K H β ds us:=by
 cases r with
 | tup n e q =>
   cases h
   exact⟨_,_,rfl,.inr (.inl (.inl e)),q⟩
 | ctp e q =>
   cases h
   exact⟨_,_,rfl,.inr e.sq,q⟩
 | non=>cases h
 | bl b=>cases h
 | int b=>cases h
 | str b=>cases h
 | cv=>cases h
 | lst n e q =>
   obtain⟨a,us,e1,e2,e3⟩:=S.lists (.lst n e q) h
   exact⟨a,us,e1,.inl e2,e3⟩
 | fzl e q =>
   obtain⟨a,us,e1,e2,e3⟩:=S.lists (.fzl e q) h
   exact⟨a,us,e1,.inl e2,e3⟩
 | ref e =>
   obtain⟨a,us,e1,e2,e3⟩:=S.lists (.ref e) h
   exact⟨a,us,e1,.inl e2,e3⟩
end
def inD (neg:Bool) (x y:D) (st:AS):Out D:=match seqOf st y with
 | some ds=>if (scalD x&&ds.all scalD)=true then .ok (.bl (xor neg (ds.any fun d=>eqvD d x))) st
   else if ((valD st x).fit&&(D.lst ds).fit&&(listOf st y).isSome&&(valD st y).pure)=true then .ok (.bl (xor neg (ds.any fun d=>eqvD d (valD st x)))) st else .bad
 | none=>match y with
   | .ref i=>(match st[i]? with
     | some (.dct kvs)=>(match x with
       | .int k=>.ok (.bl (xor neg (kvs.any fun kv=>decide (kv.1=Sum.inl k)))) st
       | .str k=>.ok (.bl (xor neg (kvs.any fun kv=>decide (kv.1=Sum.inr k)))) st
       | _=>.bad)
     | some (.lck kvs)=>(match x with
       | .int k=>.ok (.bl (xor neg (kvs.any fun kv=>decide (kv.1=Sum.inl k)))) st
       | .str k=>.ok (.bl (xor neg (kvs.any fun kv=>decide (kv.1=Sum.inr k)))) st
       | _=>.bad)
     | _=>.bad)
   | _=>.bad
theorem vals_lookup {κ : Type} [DecidableEq κ] {K : PySem.W.Frag} {H : Hp} {β : Bt} (k : κ) : ∀ {kvs : List (κ × D)} {us : List (κ × V)}, RepK K H β kvs us →
   (∀ d,(kvs.find? fun kv=>decide (kv.1=k)).map (·.2)=some d → ∃ u,valV us k=some u∧Rep K H β d u)∧((kvs.find? fun kv=>decide (kv.1=k))=none→valV us k=none)
 | [],us,h=>by
   have:us=[]:=by
     have h1:=congrArg List.length h.1
     simp only[List.map_nil,List.length_nil,List.length_map] at h1
     exact List.length_eq_zero_iff.mp h1.symm
   subst this
   exact And.intro (fun d e=>nomatch e) (fun _=>rfl)
 | kv::kvs,us,h=>by
   cases us with
   | nil=>exact absurd (congrArg List.length h.1) (by simp)
   | cons w us =>
     obtain⟨h1,h2⟩:=h
     simp only[List.map_cons,List.cons.injEq] at h1
     cases h2 with
     | cons r t =>
       have ih:=vals_lookup k (kvs:=kvs) (us:=us) ⟨h1.2,t⟩
       by_cases e:kv.1=k
       · refine⟨fun d q=>?_,fun q=>?_⟩
         · rw[List.find?_cons_of_pos (by simpa using e)] at q
           cases q
           exact⟨w.2,valV_pos (h1.1 ▸ e),r⟩
         · rw[List.find?_cons_of_pos (by simpa using e)] at q
           cases q
       · have e':¬ w.1=k:=fun z=>e (h1.1.trans z)
         refine⟨fun d q=>?_,fun q=>?_⟩
         · rw[List.find?_cons_of_neg (by simpa using e)] at q
           rw[valV_neg e']
           exact ih.1 d q
         · rw[List.find?_cons_of_neg (by simpa using e)] at q
           rw[valV_neg e']
           exact ih.2 q
theorem RepK.any {κ:Type} [DecidableEq κ] {K:PySem.W.Frag} {H:Hp} {β:Bt} {kvs:List (κ × D)} {us:List (κ × V)} (h:RepK K H β kvs us) (k:κ):(valV us k).isSome=kvs.any fun kv=>decide (kv.1=k):=by
 obtain⟨h1,h2⟩:=vals_lookup k h
 cases e:kvs.find? fun kv=>decide (kv.1=k) with
 | none =>
   rw[h2 e]
   have:(kvs.any fun kv=>decide (kv.1=k))=false:=by
     rw[List.find?_eq_none] at e
     rw[List.any_eq_false]
     exact e
   rw[this]
   rfl
 | some kv =>
   obtain⟨u,e1,_⟩:=h1 kv.2 (by rw[e]; rfl)
   rw[e1]
   have m:=List.mem_of_find?_eq_some e
   have p:=List.find?_some e
   exact (List.any_eq_true.mpr ⟨kv,m,p⟩).symm
section
variable {X:Cx} {E:XK} {a b c:Expr} {fa fb fc:En→AS→Out D} {pos:Pos}
def rDIn (neg:Bool):R2:=fun x y H Q=>∃ a o,y = .ref a∧DGet H a x o∧Q (.bl (xor neg o.isSome)) H
theorem op_dNotIn (hu:X.A.units+1<cLine):OpR X (compareOp .NotIn) (rDIn true):=by
 intro pins s σ H x y v u Q I rx ry h
 obtain⟨a,o,rfl,g,q⟩:=h
 cases ry
 exact d_notIn hu I g rx fun s' I'=>⟨.bl _,H,I',rfl,by simpa using q⟩
theorem Reps.atI {K:PySem.W.Frag} {H:Hp} {β:Bt} {ds:List D} {us:List V} {i:Int} {d:D} (r:Reps K H β ds us) (h:atI ds i=some d):∃ u,L2.atI us i=some u∧Rep K H β d u:=by
 unfold L2.atI at h ⊢
 rw[r.length]
 cases e:ixN ds.length i with
 | none=>rw[e] at h; cases h
 | some j =>
   rw[e] at h
   exact r.get h
@[simp] def valK {κ:Type} [DecidableEq κ] (kvs:List (κ × D)) (k:κ):Option D:=(kvs.find? fun kv=>decide (kv.1=k)).map (·.2)
/-- the key that a value is -/
@[simp] def keyD:D→Option Key
 | .int i=>some (.inl i)
 | .str x=>some (.inr x)
 | _=>none
@[simp] def keysD:List D→Option (List Key)
 | []=>some []
 | d::ds=>match keyD d,keysD ds with
   | some k,some ks=>some (k::ks)
   | _,_=>none
@[simp] def toOut {α:Type} (o:Option α) (st:AS):Out α:=match o with
 | some a=>.ok a st
 | none=>.bad
@[simp] def ixD (x y:D) (st:AS):Out D:=match seqOf st x with
 | some ds=>(match y with
   | .int i=>toOut (atI ds i) st
   | _=>.bad)
 | none=>match x with
   | .str z=>(match y with
     | .int i=>if z.length≤sizeLine then toOut ((atI z.cps.toList i).map fun c=>.str ⟨#[c]⟩) st else .bad
     | _=>.bad)
   | .ref i=>(match st[i]? with
     | some (.dct kvs)=>(match keyD y with
       | some k=>toOut (valK kvs k) st
       | none=>.bad)
     | some (.dtt kvs)=>(match y with
       | .tup ks=>(match keysD ks with
         | some k=>toOut (valK kvs k) st
         | none=>.bad)
       | _=>.bad)
     | some (.lck kvs)=>(match keyD y with
       | some k=>toOut (valK kvs k) st
       | none=>.bad)
     | some (.lct kvs)=>(match y with
       | .tup ks=>(match keysD ks with
         | some k=>toOut (valK kvs k) st
         | none=>.bad)
       | _=>.bad)
     | _=>.bad)
   | _=>.bad
theorem Post.opt {K:PySem.W.Frag} {mg:MG} {α ρ:Type} {R:Hp→Bt→α→ρ→Prop} {β:Bt} {H:Hp} {Q:ρ→Hp→Prop} {o:Option α} {st:AS} (h:Post K mg R E β H Q (toOut o st)):∃ d,o=some d∧Post K mg R E β H Q (.ok d st):=by
 cases o with
 | none=>exact h.elim
 | some d=>exact⟨d,rfl,h⟩
theorem Rep.key {K:PySem.W.Frag} {H:Hp} {β:Bt} {d:D} {u:V} {k:Key} (r:Rep K H β d u) (h:keyD d=some k):u=kV k:=by
 cases r <;> first | (cases h; done) | (cases h; rfl)
theorem Reps.keys {K:PySem.W.Frag} {H:Hp} {β:Bt}:∀ {ds:List D} {us:List V} {ks:List Key},Reps K H β ds us→keysD ds=some ks→us=ks.map kV
 | _,_,_,.nil,h=>by
   cases h
   rfl
 | _,_,ks,.cons r t,h=>by
   rw[keysD] at h
   split at h
   · rename_i k ks' e1 e2
     cases h
     rw[r.key e1,Reps.keys t e2]
     rfl
   · cases h
def rDIx:R2:=fun x y H Q=>∃ a v,x = .ref a∧DGet H a y (some v)∧Q v H
theorem valK_ok {κ:Type} [DecidableEq κ] {K:PySem.W.Frag} {H:Hp} {β:Bt} {kvs:List (κ × D)} {us:List (κ × V)} {k:κ} {d:D} (r:RepK K H β kvs us) (h:valK kvs k=some d):∃ u,valV us k=some u∧Rep K H β d u:=(vals_lookup k r).1 d h
theorem ix_ok {K:PySem.W.Frag} {mg:MG} {β:Bt} {H:Hp} {st:AS} {Q:VK} {x y:D} {u v:V} (S:Sim K mg β st H) (rx:Rep K H β x u) (ry:Rep K H β y v) (h:Post K mg (rD K) E β H Q (ixD x y st)):rIx K u v H Q∨rDIx u v H Q:=by
 unfold ixD at h
 split at h
 · rename_i ds e
   obtain⟨p,us,rfl,hq,r⟩:=S.seqs rx e
   cases ry with
   | int i =>
     obtain⟨d,ed,h⟩:=h.opt
     obtain⟨w,ew,rw'⟩:=r.atI ed
     rcases hq with hq | hq
     · exact .inl (.inl ⟨p,us,i,w,rfl,rfl,hq,ew,h.here S rw'⟩)
     · exact .inl (.inr (.inl ⟨p,us,i,w,rfl,rfl,hq,ew,h.here S rw'⟩))
   | _=>exact h.elim
 · cases rx with
   | str z =>
     dsimp only at h
     cases ry with
     | int i =>
       obtain⟨hl,h⟩:=h.ite
       obtain⟨d,ed,h⟩:=h.opt
       cases e:atI z.cps.toList i with
       | none=>rw[e] at ed; cases ed
       | some c =>
         rw[e] at ed
         cases ed
         exact .inl (.inr (.inr ⟨z,i,c,rfl,rfl,hl,e,h.here S (.str _)⟩))
     | _=>exact h.elim
   | ref er =>
     rename_i i p en
     dsimp only at h
     split at h
     · rename_i kvs ec
       obtain⟨us,eu,r⟩:=S.cell i p _ er ec
       split at h
       · rename_i k ek
         obtain⟨d,ed,h⟩:=h.opt
         obtain⟨w,ew,rw'⟩:=valK_ok r ed
         rw[ry.key ek]
         exact .inr ⟨p,w,rfl,by rw[← ew]; exact DGet.k eu,h.here S rw'⟩
       · exact h.elim
     · rename_i kvs ec
       obtain⟨us,eu,r⟩:=S.cell i p _ er ec
       cases ry with
       | tup n2 e2 r2 =>
         dsimp only at h
         split at h
         · rename_i k ek
           obtain⟨d,ed,h⟩:=h.opt
           obtain⟨w,ew,rw'⟩:=valK_ok r ed
           have z:=r2.keys ek
           subst z
           exact .inr ⟨p,w,rfl,by rw[← ew]; exact DGet.t eu e2,h.here S rw'⟩
         · exact h.elim
       | _=>exact h.elim
     · rename_i kvs ec
       obtain⟨z,us,eu,r⟩:=S.cell i p _ er ec
       split at h
       · rename_i k ek
         obtain⟨d,ed,h⟩:=h.opt
         obtain⟨w,ew,rw'⟩:=valK_ok r ed
         rw[ry.key ek]
         exact .inr ⟨p,w,rfl,.inl ⟨us,k,.inr ⟨z,eu⟩,rfl,ew.symm⟩,h.here S rw'⟩
       · exact h.elim
     · rename_i kvs ec
       obtain⟨z,us,eu,r⟩:=S.cell i p _ er ec
       cases ry with
       | tup n2 e2 r2 =>
         dsimp only at h
         split at h
         · rename_i k ek
           obtain⟨d,ed,h⟩:=h.opt
           obtain⟨w,ew,rw'⟩:=valK_ok r ed
           have zz:=r2.keys ek
           subst zz
           exact .inr ⟨p,w,rfl,.inr ⟨us,k,_,.inr ⟨z,eu⟩,rfl,e2,ew.symm⟩,h.here S rw'⟩
         · exact h.elim
       | _=>exact h.elim
     · exact h.elim
   | _=>exact h.elim
theorem ix_dictR (hu:X.A.units+1<cLine):IxR X rDIx:=by
 intro va sl pins s σ H x y v u Q I rx ry h hsl
 obtain⟨p,w',rfl,g,q⟩:=h
 obtain rfl:v=Value.ref p:=rx
 have ty:=dict_typeIs I g
 have item:wpAny (model X.prog X.w) X.A (getItem (.ref p) u) (EP X pins σ Q) X.xe s:=d_getItem hu I g ry fun w2 s' I' r=>⟨w',H,I',r,q⟩
 have last:wpAny (model X.prog X.w) X.A (subscripted sl false (.ref p) u) (fun r t=>wpAny (model X.prog X.w) X.A (letTemporaryGo va (.ref p) r >>= fun _=>pure r) (EP X pins σ Q) X.xe t) X.xe s:=by
   rw[hsl]
   refine wpAny_operating (thn item ?_)
   intro r t ht
   exact wpAny_bind (wpAny_letTemporaryGo (wpAny_pure ht))
 unfold subscriptTail
 apply wpAny_bind
 rw[getitemInPython_of_ne ty.not_modules]
 apply wpAny_bind
 refine wpAny_specialOf ty PySem.F.slot_dict_getitem.lookup ?_
 first
   | exact wpAny_pure (wpAny_bind last)
   | exact wpAny_bind (wpAny_pure (wpAny_bind last))
   | exact wpAny_bind last
theorem ve_sub_ix (hu:X.A.units+65<cLine) (ha:VE X E a fa) (hb:VE X E b fb) (hs:PlainIx b):VE X E (.Subscript a b pos) (v2 ixD fa fb) :=
 ve_ix (ix_seq.or (ix_dictR (Nat.lt_of_le_of_lt (by omega) hu))) (fun _ _ _ _ _ _ _ _ S rx ry h=>ix_ok S rx ry h) ha hb hs
abbrev rO:Hp→Bt→Option Int→Option Int→Prop:=fun _ _ a b=>a=b
abbrev VO (X:Cx) (E:XK) (e:Option Expr) (f:En→AS→Out (Option Int)):Prop:=PO X e (tG X.K X.mgw rO E f)
@[simp] def vNoPart (_:En) (st:AS):Out (Option Int):=.ok none st
@[simp] def asI (d:D) (st:AS):Out (Option Int):=match d with
 | .int i=>.ok (some i) st
 | _=>.bad
theorem weakO {e:Option Expr} {t t':TO} (h:PO X e t) (w:∀ σ H Q,t' σ H Q→t σ H Q):PO X e t':=⟨fun pins s σ H Q I q=>h.run pins s σ H Q I (w σ H Q q)⟩
theorem vo_none:VO X E none vNoPart:=weakO po_none fun σ H Q ⟨β,env,st,he,hs,h⟩=>h.here hs rfl
theorem vo_some (ha:VE X E a fa):VO X E (some a) (v1 asI fa):=weakO (po_some ha) fun σ H Q ⟨β,env,st,he,hs,h⟩=>by
 refine tG_bind he hs h fun x st1 β1 H1 u x1 s1 e1 r1 h1=>?_
 cases r1 with
 | int i=>exact⟨i,rfl,h1.here s1 rfl⟩
 | _=>exact h1.elim
def cut {α:Type} (xs:List α) (lo hi:Option Int):List α:=(xs.drop (HT.sIx xs.length 0 lo)).take (HT.sIx xs.length xs.length hi-HT.sIx xs.length 0 lo)
theorem cut_whole {α:Type} {xs:List α} {lo hi:Option Int} (h1:HT.sIx xs.length 0 lo=0) (h2:HT.sIx xs.length xs.length hi=xs.length):VL.cut xs lo hi=xs:=by
 unfold VL.cut
 rw[h1,h2,List.drop_zero,Nat.sub_zero,List.take_length]
@[simp] def slD (c:Bool) (x:D) (lo hi:Option Int) (st:AS):Out D:=match x with
 | .tup ds=>.ok (.tup (cut ds lo hi)) st
 | .ctp ds=>if HT.sIx ds.length 0 lo=0∧HT.sIx ds.length ds.length hi=ds.length then .ok (.ctp ds) st else .ok (.tup (cut ds lo hi)) st
 | .str z=>if z.length≤sizeLine then .ok (.str (cutS z lo hi)) st else .bad
 | _=>match listOf st x with
   | some ds=>mk c (cut ds lo hi) st
   | none=>.bad
@[simp] def vSl (g:D→Option Int→Option Int→AS→Out D) (fa:En→AS→Out D) (fl fh:En→AS→Out (Option Int)) (env:En) (st:AS):Out D:=(fa env st).bind fun x st=>(fl env st).bind fun l st=>(fh env st).bind fun h st=>g x l h st
theorem Reps.cut {K:PySem.W.Frag} {H:Hp} {β:Bt} {ds:List D} {us:List V} (r:Reps K H β ds us) (lo hi:Option Int):Reps K H β (VL.cut ds lo hi) (cutV us lo hi):=by
 unfold VL.cut cutV
 rw[r.length]
 exact (r.drop _).take _
theorem sl_ok {K:PySem.W.Frag} {mg:MG} {β:Bt} {H:Hp} {st:AS} {Q:VK} {x:D} {u:V} {lo hi:Option Int} {c:Bool} (S:Sim K mg β st H) (rx:Rep K H β x u) (h:Post K mg (rD K) E β H Q (slD c x lo hi st)):rSlA K u lo hi H Q∨rSlL K u lo hi H Q∨rSlS u lo hi H Q:=by
 unfold slD at h
 have lists:∀ {x:D} {u:V},Rep K H β x u→Post K mg (rD K) E β H Q (match listOf st x with | some ds=>mk c (VL.cut ds lo hi) st | none=>.bad)→rSlL K u lo hi H Q:=by
   intro x u rx h
   split at h
   · rename_i ds e
     obtain⟨p,us,rfl,hq,r⟩:=S.lists rx e
     exact⟨p,us,rfl,hq,new_lst h S (r.cut lo hi)⟩
   · exact h.elim
 cases rx with
 | tup n e r =>
   refine .inl ⟨_,_,rfl,.inl (.inl e),fun z=>?_,fun _=>new_tup h S (r.cut lo hi)⟩
   have q:=h.here (u:=V.ref _) S (show Rep K H β (.tup (VL.cut _ lo hi)) (.ref _) from by
     rw[cut_whole (by rw[← r.length]; exact z.1) (by rw[← r.length]; exact z.2)]
     exact .tup n e r)
   exact q
 | str z =>
   obtain⟨hl,h⟩:=h.ite
   exact .inr (.inr ⟨z,rfl,hl,h.here S (.str _)⟩)
 | non=>exact .inr (.inl (lists .non h))
 | bl b=>exact .inr (.inl (lists (.bl b) h))
 | int b=>exact .inr (.inl (lists (.int b) h))
 | cv q=>exact .inr (.inl (lists (.cv q) h))
 | ctp e r =>
   dsimp only at h
   refine .inl ⟨_,_,rfl,e.sq,fun z=>?_,fun z=>?_⟩
   · rw[r.length] at z
     rw[if_pos z] at h
     exact h.here S (.ctp e r)
   · rw[r.length] at z
     rw[if_neg z] at h
     exact new_tup h S (r.cut lo hi)
 | lst n e r=>exact .inr (.inl (lists (.lst n e r) h))
 | fzl e r=>exact .inr (.inl (lists (.fzl e r) h))
 | ref e=>exact .inr (.inl (lists (.ref e) h))
theorem ve_slice (k:Bool) {lo hi:Option Expr} {fl fh:En→AS→Out (Option Int)} {p2:Pos} (ha:VE X E a fa) (hl:VO X E lo fl) (hh:VO X E hi fh):VE X E (.Subscript a (.Slice lo hi none p2) pos) (vSl (slD k) fa fl fh):=by
 refine weakE (pe_slice (sl_tupA.or (sl_list.or sl_str)) ha hl hh) fun σ H Q ⟨β,env,st,he,hs,h⟩=>?_
 refine tG_bind he hs h fun x st1 β1 H1 u x1 s1 e1 r1 h1=>?_
 refine tG_bind e1 s1 h1 fun l st2 β2 H2 l' x2 s2 e2 r2 h2=>?_
 refine tG_bind e2 s2 h2 fun l st3 β3 H3 l2' x3 s3 e3 r3 h3=>?_
 cases r2
 cases r3
 exact sl_ok s3 ((r1.ext x2).ext x3) h3
/-- x[::-1] -/
@[simp] def revD (x:D) (st:AS):Out D:=match x with
 | .tup ds=>.ok (.tup ds.reverse) st
 | _=>.bad
@[simp] def revLD (c:Bool) (x:D) (st:AS):Out D:=match listOf st x with
 | some ds=>mk c ds.reverse st
 | none=>.bad
variable {es:List Expr} {e:Expr} {fs:En→AS→Out (List D)} {x:Str} {p:Pos}
theorem useA {r:List V→Hp→VK→Prop} {g:List D→AS→Out D} (hg:OkA X.K X.mgw E r g) {σ:L2.St} {H:Hp} {Q:VK} (h:tV X.K X.mgw E (vA g fs) σ H Q):tCB r (tVA X.K X.mgw E fs) σ H Q:=by
 obtain⟨β,env,st,he,hs,h⟩:=h
 exact tG_bind he hs h fun ds st1 β1 H1 us x1 s1 e1 r1 h1=>hg β1 H1 st1 ds us Q s1 r1 h1
/-- a built-in function with what it does -/
def OkB (X:Cx) (E:XK) (f:Value) (g:List D→AS→Out D):Prop:=∃ r,CallR X f r∧OkA X.K X.mgw E r g
theorem ve_callB {id : String} {g : List D → AS → Out D} (hc : OkB X E (.builtin id) g) (hg : Gl X x) (hm : X.mg x = none) (hv : bootBuiltins x = some (.builtin id)) (ha : VA X E (e :: es) fs) (hn : x ≠ "__name__" := by decide) (hdb : (x == ("__debug__" : Str)) = false := by decide)
   (he:starEach (e::es) X.env=(false,eval e X.env)::starEach es X.env:=by rfl) (hpl:(backTo pos (starEach es X.env)).any (·.1)=false:=by rfl):VE X E (.Call (.Name x p) (e::es) [] pos) (vA g fs):=by
 obtain⟨r,h1,h2⟩:=hc
 exact weakE (pe_callB h1 hg hm hv ha hn hdb he hpl) fun _ _ _ h=>useA h2 h
theorem ve_callTy {T : String} {g : List D → AS → Out D} (hc : OkB X E (.type T) g) (hg : Gl X x) (hm : X.mg x = none) (hv : bootBuiltins x = some (.type T)) (ha : VA X E (e :: es) fs) (hn : x ≠ "__name__" := by decide) (hdb : (x == ("__debug__" : Str)) = false := by decide)
   (he:starEach (e::es) X.env=(false,eval e X.env)::starEach es X.env:=by rfl) (hpl:(backTo pos (starEach es X.env)).any (·.1)=false:=by rfl):VE X E (.Call (.Name x p) (e::es) [] pos) (vA g fs):=by
 obtain⟨r,h1,h2⟩:=hc
 exact weakE (pe_callTy h1 hg hm hv ha hn hdb he hpl) fun _ _ _ h=>useA h2 h
/-- of one thing -/
@[simp] def g1 (g:D→AS→Out D) (xs:List D) (st:AS):Out D:=match xs with
 | [x]=>g x st
 | _=>.bad
theorem g1_ok {K:PySem.W.Frag} {mg:MG} {β:Bt} {H:Hp} {st:AS} {Q:VK} {xs:List D} {us:List V} {g:D→AS→Out D} (r:Reps K H β xs us) (h:Post K mg (rD K) E β H Q (g1 g xs st)):∃ x u,us=[u]∧Rep K H β x u∧Post K mg (rD K) E β H Q (g x st):=by
 cases r with
 | nil=>exact h.elim
 | cons a t =>
   cases t with
   | nil=>exact⟨_,_,rfl,a,h⟩
   | cons _ _=>exact h.elim
@[simp] def lenD (x:D) (st:AS):Out D:=match seqOf st x with
 | some ds=>.ok (.int ds.length) st
 | none=>match x with
   | .str z=>if z.length≤sizeLine then .ok (.int z.length) st else .bad
   | .ref i=>(match st[i]? with
     | some (.dct kvs)=>.ok (.int kvs.length) st
     | _=>.bad)
   | _=>.bad
theorem RepK.length {κ:Type} {K:PySem.W.Frag} {H:Hp} {β:Bt} {kvs:List (κ × D)} {us:List (κ × V)} (h:RepK K H β kvs us):us.length=kvs.length:=by
 have:=congrArg List.length h.1
 simpa using this.symm
theorem ob_len:OkB X E (.builtin "len") (g1 lenD):=⟨_,call_len.or call_lenD,fun β H st xs us Q S r h=>by
 obtain⟨x,u,rfl,rx,h⟩:=g1_ok r h
 unfold lenD at h
 split at h
 · rename_i ds e
   obtain⟨p,us,rfl,hq,r⟩:=S.seqs rx e
   refine .inl ⟨_,us.length,rfl,?_,by rw[r.length]; exact h.here S (.int _)⟩
   rcases hq with hq | hq
   · exact .inl ⟨us,hq,rfl⟩
   · exact .inr ⟨us,hq,rfl⟩
 · cases rx with
   | str z =>
     obtain⟨hl,h⟩:=h.ite
     exact .inl ⟨_,_,rfl,⟨hl,rfl⟩,h.here S (.int _)⟩
   | ref er =>
     rename_i i p en
     dsimp only at h
     split at h
     · rename_i kvs ec
       obtain⟨us,eu,r⟩:=S.cell i p _ er ec
       exact .inr ⟨p,us,rfl,eu,by rw[r.length]; exact h.here S (.int _)⟩
     · exact h.elim
   | _=>exact h.elim⟩
/-- tuple(list or tuple),list(list or tuple) -/
@[simp] def tupD (x:D) (st:AS):Out D:=match x with
 | .tup ds=>.ok (.tup ds) st
 | _=>match listOf st x with
   | some ds=>.ok (.tup ds) st
   | none=>.bad
theorem ob_tuple:OkB X E (.type "tuple") (g1 tupD):=⟨_,call_tuple_of,fun β H st xs us Q S r h=>by
 obtain⟨x,u,rfl,rx,h⟩:=g1_ok r h
 clear r
 have lists:∀ {x:D} {u:V},Rep X.K H β x u→Post X.K X.mgw (rD X.K) E β H Q (match listOf st x with | some ds=>.ok (.tup ds) st | none=>.bad) → ∃ p ys,[u]=[V.ref p]∧((SqL X.K H p ys ∧ ∀ l,H l=none→Q (.ref l) (upd H l (.tup ys)))∨(SqT X.K H p ys∧Q (.ref p) H)):=by
   intro x u rx h
   split at h
   · rename_i ds e
     obtain⟨p,us,rfl,hq,r⟩:=S.lists rx e
     exact⟨p,us,rfl,.inl ⟨hq,new_tup h S r⟩⟩
   · exact h.elim
 unfold tupD at h
 cases rx with
 | tup n e r=>exact⟨_,_,rfl,.inr ⟨.inl (.inl e),h.here S (.tup n e r)⟩⟩
 | non=>exact lists .non h
 | bl b=>exact lists (.bl b) h
 | int b=>exact lists (.int b) h
 | str b=>exact lists (.str b) h
 | cv q=>exact lists (.cv q) h
 | ctp e r=>exact lists (.ctp e r) h
 | lst n e r=>exact lists (.lst n e r) h
 | fzl e r=>exact lists (.fzl e r) h
 | ref e=>exact lists (.ref e) h⟩
@[simp] def lstD (c:Bool) (x:D) (st:AS):Out D:=match seqOf st x with
 | some ds=>mk c ds st
 | none=>.bad
/-- sums,greatest,least of ints -/
@[simp] def onInts (g:List Int→AS→Out D) (x:D) (st:AS):Out D:=match seqOf st x with
 | some ds=>(match intsOf ds with
   | some ns=>g ns st
   | none=>.bad)
 | none=>.bad
theorem ints_ok {K : PySem.W.Frag} {mg : MG} {β : Bt} {H : Hp} {st : AS} {Q : VK} {x : D} {u : V} {g : List Int → AS → Out D} (S : Sim K mg β st H) (rx : Rep K H β x u) (h : Post K mg (rD K) E β H Q (onInts g x st)) :
   ∃ p ns,u = .ref p∧(SqL K H p (ns.map V.int)∨SqT K H p (ns.map V.int))∧Post K mg (rD K) E β H Q (g ns st):=by
 unfold onInts at h
 split at h
 · rename_i ds e
   split at h
   · rename_i ns en
     obtain⟨p,us,rfl,hq,r⟩:=S.seqs rx e
     have z:=intsOf_eq en
     subst z
     have w:=r.ints
     subst w
     exact⟨p,ns,rfl,hq,h⟩
   · exact h.elim
 · exact h.elim
@[simp] def sumD (x:D) (st:AS):Out D:=onInts (fun ns st=>.ok (.int ns.sum) st) x st
theorem ob_sum (hc:X.calm=true):OkB X E (.builtin "sum") (g1 sumD):=⟨_,(cr_sum hc).or (call_sumT hc),fun β H st xs us Q S r h=>by
 obtain⟨x,u,rfl,rx,h⟩:=g1_ok r h
 obtain⟨p,ns,rfl,hq,h⟩:=ints_ok S rx h
 have q:=h.here S (.int _)
 rcases hq with hq | hq
 · exact .inl ⟨p,ns,rfl,hq,q⟩
 · exact .inr ⟨p,ns,rfl,hq,q⟩⟩
def maxI:List Int→Int
 | []=>0
 | [n]=>n
 | n::m::ns=>max n (maxI (m::ns))
def minI:List Int→Int
 | []=>0
 | [n]=>n
 | n::m::ns=>min n (minI (m::ns))
theorem maxI_mem:∀ {ns:List Int},ns≠[]→maxI ns∈ns ∧ ∀ y∈ns,y≤maxI ns
 | [],h=>absurd rfl h
 | [n],_=>by simp[maxI]
 | n::m::ns,_=>by
   obtain⟨h1,h2⟩:=maxI_mem (ns:=m::ns) (by simp)
   rw[maxI]
   refine⟨?_,fun y hy=>?_⟩
   · by_cases e:n≤maxI (m::ns)
     · rw[Int.max_eq_right e]
       exact List.mem_cons_of_mem _ h1
     · rw[Int.max_eq_left (by omega)]
       exact List.mem_cons_self
   · rcases List.mem_cons.mp hy with z | z
     · subst z
       exact Int.le_max_left _ _
     · exact Int.le_trans (h2 y z) (Int.le_max_right _ _)
theorem minI_mem:∀ {ns:List Int},ns≠[]→minI ns∈ns ∧ ∀ y∈ns,minI ns≤y
 | [],h=>absurd rfl h
 | [n],_=>by simp[minI]
 | n::m::ns,_=>by
   obtain⟨h1,h2⟩:=minI_mem (ns:=m::ns) (by simp)
   rw[minI]
   refine⟨?_,fun y hy=>?_⟩
   · by_cases e:n≤minI (m::ns)
     · rw[Int.min_eq_left e]
       exact List.mem_cons_self
     · rw[Int.min_eq_right (by omega)]
       exact List.mem_cons_of_mem _ h1
   · rcases List.mem_cons.mp hy with z | z
     · subst z
       exact Int.min_le_left _ _
     · exact Int.le_trans (Int.min_le_right _ _) (h2 y z)
theorem maxI_eq {ns:List Int} {m:Int} (h:m∈ns) (h2:∀ y∈ns,y≤m):m=maxI ns:=by
 obtain⟨h3,h4⟩:=maxI_mem (ns:=ns) (fun z=>by subst z; cases h)
 exact Int.le_antisymm (h4 m h) (h2 _ h3)
theorem minI_eq {ns:List Int} {m:Int} (h:m∈ns) (h2:∀ y∈ns,m≤y):m=minI ns:=by
 obtain⟨h3,h4⟩:=minI_mem (ns:=ns) (fun z=>by subst z; cases h)
 exact Int.le_antisymm (h2 _ h3) (h4 m h)
@[simp] def maxD (xs:List D) (st:AS):Out D:=match xs with
 | []=>.bad
 | x::r=>(match r with
   | []=>onInts (fun ns st=>if ns=[] then .bad else .ok (.int (maxI ns)) st) x st
   | y::q=>(match q with
     | []=>iiD (fun a b=>.int (max a b)) x y st
     | _::_=>.bad))
@[simp] def minD (xs:List D) (st:AS):Out D:=match xs with
 | []=>.bad
 | x::r=>(match r with
   | []=>onInts (fun ns st=>if ns=[] then .bad else .ok (.int (minI ns)) st) x st
   | y::q=>(match q with
     | []=>iiD (fun a b=>.int (min a b)) x y st
     | _::_=>.bad))
theorem Post.iteN {α ρ:Type} {K:PySem.W.Frag} {mg:MG} {R:Hp→Bt→α→ρ→Prop} {β:Bt} {H:Hp} {Q:ρ→Hp→Prop} {p:Prop} [Decidable p] {o:Out α} (h:Post K mg R E β H Q (if p then .bad else o)):¬ p∧Post K mg R E β H Q o:=by
 by_cases hp:p
 · rw[if_pos hp] at h
   exact h.elim
 · rw[if_neg hp] at h
   exact⟨hp,h⟩
theorem ob_max (hc:X.calm=true):OkB X E (.builtin "max") maxD:=⟨_,(cr_max hc).or ((call_maxT hc).or (call_max2 hc)),fun β H st xs us Q S r h=>by
 cases r with
 | nil=>exact h.elim
 | cons a t =>
   cases t with
   | nil =>
     obtain⟨p,ns,rfl,hq,h⟩:=ints_ok (g:=fun ns st=>if ns=[] then .bad else .ok (.int (maxI ns)) st) S a h
     obtain⟨hn,h⟩:=h.iteN
     have q:=h.here S (.int _)
     have hl:0<ns.length:=List.length_pos_iff.mpr hn
     rcases hq with hq | hq
     · exact .inl ⟨p,ns,rfl,hq,hl,fun m hm hy=>by rw[maxI_eq hm hy]; exact q⟩
     · exact .inr (.inl ⟨p,ns,rfl,hq,hl,fun m hm hy=>by rw[maxI_eq hm hy]; exact q⟩)
   | cons b t =>
     cases t with
     | nil =>
       obtain⟨i,j,rfl,rfl,h⟩:=ii_ok a b h
       refine .inr (.inr ⟨i,j,rfl,?_⟩)
       have q:=h.here S (.int _)
       have e:(if j>i then j else i)=max i j:=by
         by_cases z:j>i
         · rw[if_pos z,Int.max_eq_right (by omega)]
         · rw[if_neg z,Int.max_eq_left (by omega)]
       rw[e]
       exact q
     | cons _ _=>exact h.elim⟩
theorem ob_min (hc:X.calm=true):OkB X E (.builtin "min") minD:=⟨_,(cr_min hc).or ((call_minT hc).or (call_min2 hc)),fun β H st xs us Q S r h=>by
 cases r with
 | nil=>exact h.elim
 | cons a t =>
   cases t with
   | nil =>
     obtain⟨p,ns,rfl,hq,h⟩:=ints_ok (g:=fun ns st=>if ns=[] then .bad else .ok (.int (minI ns)) st) S a h
     obtain⟨hn,h⟩:=h.iteN
     have q:=h.here S (.int _)
     have hl:0<ns.length:=List.length_pos_iff.mpr hn
     rcases hq with hq | hq
     · exact .inl ⟨p,ns,rfl,hq,hl,fun m hm hy=>by rw[minI_eq hm hy]; exact q⟩
     · exact .inr (.inl ⟨p,ns,rfl,hq,hl,fun m hm hy=>by rw[minI_eq hm hy]; exact q⟩)
   | cons b t =>
     cases t with
     | nil =>
       obtain⟨i,j,rfl,rfl,h⟩:=ii_ok a b h
       refine .inr (.inr ⟨i,j,rfl,?_⟩)
       have q:=h.here S (.int _)
       have e:(if j<i then j else i)=min i j:=by
         by_cases z:j<i
         · rw[if_pos z,Int.min_eq_right (by omega)]
         · rw[if_neg z,Int.min_eq_left (by omega)]
       rw[e]
       exact q
     | cons _ _=>exact h.elim⟩
@[simp] def absD (x:D) (st:AS):Out D:=match x with
 | .int i=>.ok (.int i.natAbs) st
 | _=>.bad
def blsOf:List D→Option (List Bool)
 | []=>some []
 | .bl i::ds=>(blsOf ds).map (i::·)
 | _::_=>none
@[simp] def onBls (g:List Bool→Bool) (x:D) (st:AS):Out D:=match listOf st x with
 | some ds=>(match blsOf ds with
   | some bs=>.ok (.bl (g bs)) st
   | none=>.bad)
 | none=>.bad
end
end VL
namespace VL
open PySem PySem.Spec PyProof.Rows L2 TB
@[simp] def tyD (st:AS) (d:D):Option String:=match d with
 | .non=>some "NoneType"
 | .bl _=>some "bool"
 | .int _=>some "int"
 | .str _=>some "str"
 | .tup _=>some "tuple"
 | .ctp _=>some "tuple"
 | .lst _=>some "list"
 | .fzl _=>some "list"
 | .ref i=>(match st[i]? with
   | some (.lst _)=>some "list"
   | some (.dct _)=>some "dict"
   | some (.dtt _)=>some "dict"
   | _=>none)
 | .cv _=>none
def isT (a b:String):Bool:=decide (a=b)||(decide (a = "bool")&&decide (b = "int"))
@[simp] def isiD (xs:List D) (st:AS):Out D:=match xs with
 | [x,.cv (.v (.ty T))]=>(match tyD st x with
   | some n=>if T∈["int","bool","str","tuple","list","dict"] then .ok (.bl (isT n T)) st else .bad
   | none=>.bad)
 | _=>.bad
section
variable {X:Cx} {E:XK} {a b c:Expr} {fa fb fc:En→AS→Out D} {pos:Pos}
def Shw (p:PyData):Prop:=p.showable=true∧p.depth≤60∧p.shown.length≤sizeLine
instance (p:PyData):Decidable (Shw p):=inferInstanceAs (Decidable (_∧_))
theorem Shw.of {k n:Nat} {p:PyData} (h:Sh k n p) (hk:k≤60) (hn:n≤sizeLine):Shw p:=⟨h.sh,Nat.le_trans h.dp hk,Nat.le_trans h.ln hn⟩
@[simp] def reprD (x:D) (st:AS):Out D:=if (valD st x).pure=true∧Shw (valD st x).py then .ok (.str (txt (valD st x).py)) st else .bad
def rRep (K:PySem.W.Frag):List V→Hp→VK→Prop:=fun xs H Q=>∃ x d,xs=[x]∧Dp K H x d∧d.hasDict=false∧Shw d∧Q (.str (txt d)) H
@[simp] def strD (x:D) (st:AS):Out D:=match x with
 | .int i=>if i.natAbs.log2<1920 then .ok (.str (toString i)) st else .bad
 | _=>.bad
variable {o e:Expr} {es:List Expr} {fo:En→AS→Out D} {fs:En→AS→Out (List D)} {name:Str} {apos cpos:Pos} {id:String}
@[simp] def vML (g:D→List D→AS→Out D) (fo:En→AS→Out D) (fs:En→AS→Out (List D)) (env:En) (st:AS):Out D:=(fo env st).bind fun x st=>if (listOf st x).isSome=true then (fs env st).bind fun xs st=>g x xs st else .bad
def OkM (X:Cx) (E:XK) (id:String) (g:D→List D→AS→Out D):Prop:=∃ r,MtR X id r ∧ ∀ β H st x xs u us Q,Sim X.K X.mgw β st H→Rep X.K H β x u→Reps X.K H β xs us→Post X.K X.mgw (rD X.K) E β H Q (g x xs st)→r u us H Q
theorem Sim.isList {K:PySem.W.Frag} {mg:MG} {β:Bt} {H:Hp} {st:AS} (S:Sim K mg β st H) {d:D} {u:V} (r:Rep K H β d u) (h:(listOf st d).isSome=true):tyV K "list" u H:=by
 obtain⟨ds,e⟩:=Option.isSome_iff_exists.mp h
 obtain⟨a,us,rfl,hq,_⟩:=S.lists r e
 exact .inl ⟨rfl,us,hq⟩
theorem ve_ml {g : D → List D → AS → Out D} (slot : Slot "list" name id) (hty : typeOf (.builtin id) = pure (.type "method_descriptor")) (hm : OkM X E id g) (ho : VE X E o fo) (ha : VA X E (e :: es) fs)
   (hbase:attributeBase o name X.env (eval o X.env)=eval o X.env:=by rfl)
   (hfew:((backTo cpos (starEach (e::es) X.env)).all (fun x=>!x.1)&&(backToKw cpos (keywordEach [] X.env)).all (fun x=>x.1.isSome)
     && decide ((e::es).length+([]:List Keyword).length+(if ([]:List Keyword).isEmpty then 0 else 1)<30))=true:=by rfl)
   (hline:(apos.endLine==cpos.line)=true:=by rfl) (hs:starEach (e::es) X.env=(false,eval e X.env)::starEach es X.env:=by rfl) (hplain:(backTo cpos (starEach es X.env)).any (·.1)=false:=by rfl) :
   VE X E (.Call (.Attribute o name apos) (e::es) [] cpos) (vML g fo fs):=by
 obtain⟨r,h1,h2⟩:=hm
 refine weakE (pe_bm PySem.F.plainAttrs_list slot hty h1 ho ha hbase hfew hline hs hplain) fun σ H Q ⟨β,env,st,he,hS,h⟩=>?_
 refine tG_bind he hS h fun x st1 β1 H1 u x1 s1 e1 r1 h3=>?_
 obtain⟨hl,h3⟩:=h3.ite
 refine⟨s1.isList r1 hl,?_⟩
 exact tG_bind e1 s1 h3 fun xs st2 β2 H2 us x2 s2 e2 r2 h4=>h2 β2 H2 st2 x xs u us Q s2 (r1.ext x2) r2 h4
@[simp] def vML0 (g:D→List D→AS→Out D) (fo:En→AS→Out D) (env:En) (st:AS):Out D:=(fo env st).bind fun x st=>if (listOf st x).isSome=true then g x [] st else .bad
/-- a list that may change is put anew -/
@[simp] def putL (x:D) (st:AS) (k:List D→Option (D × List D)):Out D:=match x with
 | .ref i=>(match st[i]? with
   | some (.lst ds)=>(match k ds with
     | some (r,ds')=>.ok r (st.set i (.lst ds'))
     | none=>.bad)
   | _=>.bad)
 | _=>.bad
theorem putL_ok {K : PySem.W.Frag} {mg : MG} {β : Bt} {H : Hp} {st : AS} {Q : VK} {x : D} {u : V} {k : List D → Option (D × List D)} (S : Sim K mg β st H) (rx : Rep K H β x u) (h : Post K mg (rD K) E β H Q (putL x st k)) :
   ∃ p us ds r ds',u = .ref p∧H p=some (.lst us)∧Reps K H β ds us∧k ds=some (r,ds') ∧ ∀ us' v,(Rep K H β r v)→Reps K H β ds' us'→Q v (upd H p (.lst us')):=by
 unfold putL at h
 cases rx with
 | ref e =>
   rename_i i p
   dsimp only at h
   split at h
   · rename_i ds e2
     split at h
     · rename_i r ds' ek
       obtain⟨us,e3,q⟩:=S.cell i p _ e e2
       refine⟨p,us,ds,r,ds',rfl,e3,q,ek,fun us' v rv q'=>?_⟩
       have hm:p∈β.l:=List.mem_of_getElem? e
       have x:Ext β H β (upd H p (.lst us')):=ext_put hm e3
       have S':=S.put (o:=.lst us') (c:=.lst ds') e ⟨us',upd_same,q'.ext x⟩
       exact h β _ v x S' (rv.ext x)
     · exact h.elim
   · exact h.elim
 | _=>exact h.elim
@[simp] def appD (x:D) (xs:List D) (st:AS):Out D:=match xs with
 | [y]=>putL x st fun ds=>if ds.length<sizeLine then some (.non,ds++[y]) else none
 | _=>.bad
theorem one_ok {K:PySem.W.Frag} {H:Hp} {β:Bt} {y:D} {us:List V} (r:Reps K H β [y] us):∃ v,us=[v]∧Rep K H β y v:=by
 cases r with
 | cons a t=>cases t; exact⟨_,rfl,a⟩
theorem om_append:OkM X E "list.append" appD:=⟨_,mt_append,fun β H st x xs u us Q S rx rs h=>by
 unfold appD at h
 split at h
 · rename_i y
   obtain⟨v,rfl,rv⟩:=one_ok rs
   obtain⟨p,ws,ds,r,ds',rfl,e,q,ek,hq⟩:=putL_ok S rx h
   split at ek
   · rename_i hl
     cases ek
     exact⟨p,ws,v,rfl,rfl,e,by rw[q.length]; exact hl,hq _ _ .non (q.append (.cons rv .nil))⟩
   · cases ek
 · exact h.elim⟩
@[simp] def extD (x:D) (xs:List D) (st:AS):Out D:=match xs with
 | [y]=>(match (match y with | .tup ds=>some ds | _=>listW st y) with
   | some zs=>putL x st fun ds=>if ds.length+zs.length≤sizeLine then some (.non,ds++zs) else none
   | none=>.bad)
 | _=>.bad
@[simp] def popD (x:D) (xs:List D) (st:AS):Out D:=match xs with
 | []=>putL x st fun ds=>match ds[ds.length-1]? with
   | some d=>some (d,ds.dropLast)
   | none=>none
 | _=>.bad
theorem Reps.dropLast {K:PySem.W.Frag} {H:Hp} {β:Bt} {ds:List D} {us:List V} (r:Reps K H β ds us):Reps K H β ds.dropLast us.dropLast:=by
 rw[List.dropLast_eq_take,List.dropLast_eq_take,r.length]
 exact r.take _
end
end VL
namespace TB
open PySem PySem.Spec PyProof.Rows L2
abbrev zLT1 (h:Heap) (a:Addr):Heap:=h.push { cls:=.type "list_iterator",data:=.fields #[.ref a,.int 0 0] }
abbrev zLT2 (h:Heap) (a b:Addr):Heap:=(zLT1 h a).push { cls:=.type "tuple_iterator",data:=.fields #[.ref b,.int 0 0] }
abbrev zLT3 (h:Heap) (a b:Addr):Heap:=(zLT2 h a b).push { cls:=.type "tuple",data:=.seq #[.ref h.objs.size,.ref (zLT1 h a).objs.size] }
abbrev zLT4 (h:Heap) (a b:Addr):Heap:=(zLT3 h a b).push { cls:=.type "tuple",data:=.seq #[.none,.none] }
abbrev zLT5 (h:Heap) (a b:Addr):Heap:=(zLT4 h a b).push { cls:=.type "zip",data:=.fields #[.none,.bool false,.bool false,.ref (zLT2 h a b).objs.size,.ref (zLT3 h a b).objs.size] }
theorem zLT_new (a b : Addr) (xs ys : Array Value) :
   Meets (Builtin.«zip.__new__» ⟨[.type "zip",.ref a,.ref b],[]⟩) (fun _ R s=>s.heap.IsList a xs∧s.heap.IsTuple b ys∧R (.ok (.ret (.ref (zLT4 s.heap a b).objs.size))) { s with heap:=zLT5 s.heap a b }) :=
 .of_wp fun prog w A R st h=>by
   obtain⟨hp,g,d,tk,os⟩:=st
   obtain⟨ha,hb,h⟩:=h
   have sub:=sub_zip
   have iA:Heap.IsList (Shared.heap ⟨hp,g,d,tk,os⟩) a xs:=ha
   have iB:Heap.IsTuple (Shared.heap ⟨hp.push { cls:=.type "list_iterator",data:=.fields #[.ref a,.int 0 0] },g,d,tk,os⟩) b ys:=hb.push _
   wp_walk using wpAny_pyIter_list iA,wpAny_pyIter_tuple iB
   exact⟨_,rfl,h⟩
section
variable {prog:Program} {w:World} {A:Around} {E:Value→Shared→Prop} {s:Shared}
theorem call_zLT {a b : Addr} {xs ys : Array Value} {Q : Value → Shared → Prop} (ha : s.heap.IsList a xs) (hb : s.heap.IsTuple b ys)
   (h:∀ (n:Nat) (g:Heap),n=s.heap.objs.size→IsZip g (n+4) (n+2) (n+3) .none→IsPair g (n+2) (.ref n) (.ref (n+1))→IsPair g (n+3) .none .none→g.IsListIter n a 0→g.IsTupleIter (n+1) b 0 →
     (∀ c o,s.heap.get? c=some o→g.get? c=some o)→Q (.ref (n+4)) { s with heap:=g }) :
   wpAny (model prog w) A (call (.type "zip") [.ref a,.ref b]) Q E s:=by
 refine callType_new PySem.F.called_zip (by decide) (PySem.F.typeCall_zip_2 _ _) (PySem.F.newCall_zip_2 _ _) (fun o=>PySem.F.args_object_init_3 o _ _) PySem.F.entry_zip_new (zLT_new a b xs ys) ⟨ha,hb,?_⟩
 have e1:(zLT1 s.heap a).objs.size=s.heap.objs.size+1:=Heap.size_push ..
 have e2:(zLT2 s.heap a b).objs.size=s.heap.objs.size+2:=by rw[Heap.size_push,e1]
 have e3:(zLT3 s.heap a b).objs.size=s.heap.objs.size+3:=by rw[Heap.size_push,e2]
 have e4:(zLT4 s.heap a b).objs.size=s.heap.objs.size+4:=by rw[Heap.size_push,e3]
 have g5:(zLT5 s.heap a b).get? (zLT4 s.heap a b).objs.size=some _:=Heap.get?_push_size _ rfl
 have g4:(zLT5 s.heap a b).get? (zLT3 s.heap a b).objs.size=some _:=Heap.get?_push_of_some _ (Heap.get?_push_size _ rfl)
 have g3:(zLT5 s.heap a b).get? (zLT2 s.heap a b).objs.size=some _:=Heap.get?_push_of_some _ (Heap.get?_push_of_some _ (Heap.get?_push_size _ rfl))
 have g2:(zLT5 s.heap a b).get? (zLT1 s.heap a).objs.size=some _:=Heap.get?_push_of_some _ (Heap.get?_push_of_some _ (Heap.get?_push_of_some _ (Heap.get?_push_size _ rfl)))
 have g1:(zLT5 s.heap a b).get? s.heap.objs.size=some _:=Heap.get?_push_of_some _ (Heap.get?_push_of_some _ (Heap.get?_push_of_some _ (Heap.get?_push_of_some _ (Heap.get?_push_size _ rfl))))
 show _∧_
 rw[e2,e3,e4] at g5
 rw[e1,e2] at g3
 rw[e3] at g4
 rw[e1] at g2
 rw[e4]
 refine⟨⟨_,g5,rfl⟩,h _ _ rfl g5 g3 g4 ⟨_,g1,rfl,rfl⟩ ⟨_,g2,rfl,rfl⟩ fun c o x=>?_⟩
 iterate 5 apply Heap.get?_push_of_some
 exact x
end
/-- what a turn over zip(t,xs) is -/
def ItLT (K:PySem.W.Frag) (a b:Addr):It :=
 ⟨fun i H=>∃ (xs ys:List V) (x y:V),SqL K H a xs∧SqT K H b ys∧xs[i]? = some x∧ys[i]? = some y,
   fun i H v H'=>∃ T x y,v = .ref T∧H T=none∧H'=upd H T (.tup [x,y])∧(∀ xs,SqL K H a xs→xs[i]? = some x) ∧ ∀ ys,SqT K H b ys→ys[i]? = some y,
   fun i H=>∃ xs ys:List V,SqL K H a xs∧SqT K H b ys∧(xs.length≤i∨ys.length≤i)⟩
theorem turn_LT {P : Program} {w : World} {K : PySem.W.Frag} {elts : List Expr} {kk : Nat} {tpos : Pos} {a b z TI TO i1 i2 : Addr} (V5 : Five z TI TO i1 i2) (nI : TI ≠ TO ∧ TI ≠ i1 ∧ TI ≠ i2) (na : a ∉ [z, TO, i1, i2]) (nb : b ∉ [z, TO, i1, i2]) :
   Turn P w K (.Tuple elts kk tpos) (ItLT K a b) [z,TI,TO,i1,i2] z (fun i h=>IsZip h z TI TO .none∧IsPair h TI (.ref i1) (.ref i2)∧(∃ x y,IsPair h TO x y)∧h.IsListIter i1 a i∧h.IsTupleIter i2 b i) where
 mem:=by simp
 obj:=fun i h st c hc=>by
   obtain⟨isz,pI,⟨x,y,pO⟩,⟨o1,e1,_,d1⟩,⟨o2,e2,_,d2⟩⟩:=st
   have five:c=z∨c=TI∨c=TO∨c=i1∨c=i2:=by simpa using hc
   rcases five with rfl | rfl | rfl | rfl | rfl
   · exact⟨_,isz,fun v q=>nomatch q⟩
   · exact⟨_,pI,fun v q=>nomatch q⟩
   · exact⟨_,pO,fun v q=>nomatch q⟩
   · exact⟨o1,e1,fun v q=>by rw[d1] at q; cases q⟩
   · exact⟨o2,e2,fun v q=>by rw[d2] at q; cases q⟩
 keep:=fun i h h' st k=>by
   obtain⟨isz,pI,⟨x,y,pO⟩,h1,h2⟩:=st
   exact⟨k _ (by simp) _ isz,k _ (by simp) _ pI,⟨x,y,k _ (by simp) _ pO⟩,h1.at fun o q=>k _ (by simp) o q,h2.at fun o q=>k _ (by simp) o q⟩
 item:=by
   intro X eP eW eK hc i pins s σ H E I hf st hg
   subst eP eW eK
   obtain⟨isz,pI,⟨x0,y0,pO⟩,h1,h2⟩:=st
   obtain⟨xs,ys,x,y,qx,qy,hx,hy⟩:=hg
   obtain⟨its,rv,p1,_⟩:=I.list qx
   obtain⟨jts,rw_,p2,_⟩:=I.tuple qy
   obtain⟨u,at_u,ru⟩:=rv.get hx
   obtain⟨v,hv,rv2⟩:=rw_.get hy
   have zl:z<s.heap.objs.size:=Heap.lt_size isz
   have l1:i1<s.heap.objs.size:=by obtain⟨_,e,_⟩:=h1; exact Heap.lt_size e
   have l2:i2<s.heap.objs.size:=by obtain⟨_,e,_⟩:=h2; exact Heap.lt_size e
   have na':a≠z∧a≠TO∧a≠i1∧a≠i2:=by simpa using na
   have nb':b≠z∧b≠TO∧b≠i1∧b≠i2:=by simpa using nb
   refine zip_step (T1:=fun g=>g.IsListIter i1 a (i+1)) (T2:=fun g=>g.IsTupleIter i2 b (i+1)) V5 isz pI pO ⟨l1,l2⟩ (next_lst h1 p1.isList (x:=u) (by simpa using at_u) (by simpa using V5.c) (by simpa using na'.1))
     (next_tup h2 p2 (x:=v) (by simpa using hv) (by simpa using ⟨V5.d,V5.g.symm,V5.f.symm⟩) (by simpa using ⟨nb'.1,nb'.2.2.1,nb'.2.1⟩)) (fun g g' t k=>t.at k) (fun g g' t k=>t.at k) fun g z' TO' t1 t2 hT hsz hk=>?_
   refine⟨_,rfl,wpAny_letOwnedTupleGo_zip (s:={ s with heap:=g }) z' fun g2 z2 sb=>?_⟩
   have hT2:g2.get? s.heap.objs.size=some { cls:=.type "tuple",data:=.seq #[u,v] }:=(sb.2 _ (Nat.ne_of_gt zl)).trans hT
   have new:ObjOk X.prog X.w (upd H s.heap.objs.size (.tup [x,y])) g2 s.heap.objs.size (.tup [x,y]):=⟨by show 2≤sizeLine; decide,[u,v],.cons ru (.cons rv2 .nil),⟨_,hT2,rfl,_,rfl⟩⟩
   have I1:Inv X pins σ (upd H s.heap.objs.size (.tup [x,y])) { s with heap:=g2 }:=by
     refine I.turnedNew (t':=s.toks) (ch:=[z,TI,TO,i1,i2]) (fun c o hb q=>?_) hf (Nat.le_refl _) new
     have n5:c≠z∧c≠TI∧c≠TO∧c≠i1∧c≠i2:=by simpa using hb
     exact (sb.2 c n5.1).trans (hk c o (by simpa using ⟨n5.1,n5.2.2.1,n5.2.2.2.1,n5.2.2.2.2⟩) q)
   have up:∀ c o,c≠z→g.get? c=some o→g2.get? c=some o:=fun c o n q=>(sb.2 c n).trans q
   refine⟨.ref s.heap.objs.size,_,I1,rfl,⟨_,x,y,rfl,I.hok.fresh (Nat.le_refl _),rfl,fun l hl=>by rw[I.list_inj hl qx]; exact hx,fun l hl=>by rw[I.tuple_inj hl qy]; exact hy⟩,⟨z2,?_,⟨u,v,up _ _ V5.b TO'⟩,t1.at fun o q=>up _ o V5.c q,t2.at fun o q=>up _ o V5.d q⟩,fun c hcm=>?_⟩
   · exact up _ _ V5.a (hk _ _ (by simpa using ⟨V5.a,nI.1,nI.2.1,nI.2.2⟩) pI)
   · have five:c=z∨c=TI∨c=TO∨c=i1∨c=i2:=by simpa using hcm
     have lt:c<s.heap.objs.size:=by
       rcases five with rfl | rfl | rfl | rfl | rfl
       · exact zl
       · exact Heap.lt_size pI
       · exact Heap.lt_size pO
       · exact l1
       · exact l2
     rw[upd_ne (Nat.ne_of_lt lt)]
     exact (hf c hcm).1
 done:=by
   intro X eP eW eK hc i pins s σ H E I hf st hg
   subst eP eW eK
   obtain⟨isz,pI,⟨x0,y0,pO⟩,h1,h2⟩:=st
   obtain⟨xs,ys,qx,qy,hend⟩:=hg
   obtain⟨its,rv,p1,_⟩:=I.list qx
   obtain⟨jts,rw_,p2,_⟩:=I.tuple qy
   have m1:=rv.length
   have m2:=rw_.length
   have na':a≠z∧a≠TO∧a≠i1∧a≠i2:=by simpa using na
   have nb':b≠z∧b≠TO∧b≠i1∧b≠i2:=by simpa using nb
   have n:NextEnds X.prog X.w s [z] i1∨(∃ (x:Value) (T:Heap→Prop),NextIs X.prog X.w s [z] i1 x T)∧NextEnds X.prog X.w s [z,i1,TO] i2:=by
     by_cases c:xs.length≤i
     · exact .inl (ends_lst h1 p1.isList (by simp; omega) (by simpa using V5.c) (by simpa using na'.1))
     · have c2:ys.length≤i:=by omega
       exact .inr ⟨⟨its[i]'(by omega),_,next_lst h1 p1.isList (by simp) (by simpa using V5.c) (by simpa using na'.1)⟩,ends_tup h2 p2 (by simp; omega) (by simpa using ⟨V5.d,V5.g.symm,V5.f.symm⟩) (by simpa using ⟨nb'.1,nb'.2.2.1,nb'.2.1⟩)⟩
   refine zip_stop (I.ok.hd hc) V5 isz pI pO n fun g hk=>⟨rfl,I.turnedL (t':=s.toks) (ch:=[z,TI,TO,i1,i2]) (fun c o hb q=>?_) hf⟩
   have n5:c≠z∧c≠TI∧c≠TO∧c≠i1∧c≠i2:=by simpa using hb
   exact hk c o (by simpa using ⟨n5.1,n5.2.2.1,n5.2.2.2.1,n5.2.2.2.2⟩) q
 self:=fun _ _ _ _ _ st h=>wpAny_pyIter_zip st.1 h
def iLT (K:PySem.W.Frag) (ta:TA):TI:=fun σ H R=>ta σ H fun vs H1=>∃ a b xs ys,vs=[.ref a,.ref b]∧SqL K H1 a xs∧SqT K H1 b ys∧R (ItLT K a b) H1
theorem pi_zipLT {X : Cx} {e e2 : Expr} {ta : TA} {p pos tpos : Pos} {elts : List Expr} {kk : Nat} (hg : Gl X "zip") (hm : X.mg "zip" = none) (ha : PA X [e, e2] ta)
   (hs:starEach [e,e2] X.env=(false,eval e X.env)::starEach [e2] X.env:=by rfl) (hpl:(backTo pos (starEach [e2] X.env)).any (·.1)=false:=by rfl):PI X (.Tuple elts kk tpos) (.Call (.Name "zip" p) [e,e2] [] pos) (iLT X.K ta):=by
 refine⟨fun pins s0 σ H R I h=>?_⟩
 refine Call_ (ld_blt I hg hm PyProof.Rows.boot_zip (PyProof.Rows.callWith_type1 (thn (ha.run pos pins s0 σ H _ I h) fun us u ⟨vs,H1,I1,r1,q1⟩=>?_) hs hpl))
 obtain⟨a,b,xs,ys,rfl,qx,qy,q⟩:=q1
 cases r1 with
 | cons r rr =>
   cases rr with
   | cons r' rr =>
     cases rr
     cases r
     cases r'
     obtain⟨its,rv,p1,_⟩:=I1.list qx
     obtain⟨jts,rw_,p2,_⟩:=I1.tuple qy
     have la:a<u.heap.objs.size:=p1.lt
     have lb:b<u.heap.objs.size:=by obtain⟨o,ho,_⟩:=id p2; exact Heap.lt_size ho
     refine call_zLT (xs:=its.toArray) p1.isList p2 fun n g hn hz hTI hTO h1 h2 hk=>wpAny_pyIter_zip hz ?_
     have I2:Inv X pins σ H1 { u with heap:=g }:=I1.kept (t':=u.toks) hk
     have fr:∀ c,c∈[n+4,n+2,n+3,n,n+1]→FpOk X pins H1 c:=fun c hcm=>by
       have five:c=n+4∨c=n+2∨c=n+3∨c=n∨c=n+1:=by simpa using hcm
       have le:u.heap.objs.size≤c:=by rw[← hn]; omega
       exact I1.fpOk le (I1.hok.fresh le)
     refine⟨n+4,[n+4,n+2,n+3,n,n+1],_,_,H1,rfl,I2,turn_LT (z:=n+4) (TI:=n+2) (TO:=n+3) (i1:=n) (i2:=n+1) (five_at n) (six_at n) (five_out (by rw[hn]; exact la)) (five_out (by rw[hn]; exact lb)),⟨hz,hTI,⟨_,_,hTO⟩,h1,h2⟩,fr,q⟩
section
variable {K:PySem.W.Frag} {a b:Addr} {xs ys:List V}
theorem walk_LT {n:Nat} (hn:n=min xs.length ys.length):Walk (ItLT K a b) n (fun H=>SqL K H a xs∧SqT K H b ys) (YPair (fun i=>xs[i]?) (fun i=>ys[i]?)):=by
 refine⟨fun i H hi q=>?_,fun H q=>?_,fun i H x H' hi q y=>?_⟩
 · have b1:i<xs.length:=by omega
   have b2:i<ys.length:=by omega
   exact⟨xs,ys,xs[i],ys[i],q.1,q.2,by simp[b1],by simp[b2]⟩
 · exact⟨xs,ys,q.1,q.2,by omega⟩
 · obtain⟨T,u,v,c1,c2,c3,c4,c5⟩:=y
   exact⟨T,u,v,c1,c2,c3,c4 xs q.1,c5 ys q.2⟩
end
end TB
namespace VL
open PySem PySem.Spec PyProof.Rows L2 TB
abbrev rE (K:PySem.W.Frag) (σ:L2.St) (ws:List Nat):Hp→Bt→En→L2.St→Prop:=fun H β env σ2=>EnvR K H β env σ2∧σ2.length=σ.length ∧ ∀ j,j∉ws→σ2[j]? = σ[j]?
def tVG (K:PySem.W.Frag) (mg:MG) (E:XK) (ws:List Nat) (g:D→En→AS→Out En):TG:=fun v σ H Q=>∃ (β:Bt) (env:En) (st:AS) (d:D),EnvR K H β env σ∧Sim K mg β st H∧Rep K H β d v∧Post K mg (rE K σ ws) E β H Q (g d env st)
def tVGs (K:PySem.W.Frag) (mg:MG) (E:XK) (ws:List Nat) (g:List D→En→AS→Out En):TGs:=fun vs σ H Q=>∃ (β:Bt) (env:En) (st:AS) (ds:List D),EnvR K H β env σ∧Sim K mg β st H∧Reps K H β ds vs∧Post K mg (rE K σ ws) E β H Q (g ds env st)
/-- a target; the slots that it fills -/
abbrev VG (X:Cx) (E:XK) (tg:Expr) (ws:List Nat) (g:D→En→AS→Out En):Prop:=PG X tg (tVG X.K X.mgw E ws g)
abbrev VGs (X:Cx) (E:XK) (tgs:List Expr) (ws:List Nat) (g:List D→En→AS→Out En):Prop:=PGs X tgs (tVGs X.K X.mgw E ws g)
theorem weakG {X:Cx} {e:Expr} {t t':TG} (h:PG X e t) (w:∀ v σ H Q,t' v σ H Q→t v σ H Q):PG X e t':=⟨fun pins s σ H v u Q I r q=>h.run pins s σ H v u Q I r (w v σ H Q q)⟩
theorem weakGs {X:Cx} {e:List Expr} {t t':TGs} (h:PGs X e t) (w:∀ v σ H Q,t' v σ H Q→t v σ H Q):PGs X e t':=⟨fun pins s σ H v u Q I r q=>h.run pins s σ H v u Q I r (w v σ H Q q)⟩
@[simp] def kName (i:Nat) (d:D) (env:En) (st:AS):Out En:=.ok (env.set i (some d)) st
@[simp] def kNil (ds:List D) (env:En) (st:AS):Out En:=match ds with
 | []=>.ok env st
 | _::_=>.bad
@[simp] def kCons (g:D→En→AS→Out En) (gs:List D→En→AS→Out En) (ds:List D) (env:En) (st:AS):Out En:=match ds with
 | []=>.bad
 | d::r=>(g d env st).bind fun env st=>gs r env st
@[simp] def kTup (n:Nat) (gs:List D→En→AS→Out En) (d:D) (env:En) (st:AS):Out En:=match d with
 | .tup ds=>if ds.length=n then gs ds env st else .bad
 | .ctp ds=>if ds.length=n then gs ds env st else .bad
 | _=>.bad
section
variable {X:Cx} {E:XK} {e:Expr} {es:List Expr} {g:D→En→AS→Out En} {gs:List D→En→AS→Out En} {pos:Pos}
theorem vg_name {i:Nat} {x:Str} (hN:X.N.Nodup) (hi:X.N[i]? = some x) (hx:Loc X.env.scope x) (hf:X.fn x=true∨X.env.scope.names.lookup x=some .local:=by first | exact .inl rfl | exact .inr rfl | assumption):VG X E (.Name x pos) [i] (kName i) :=
 weakG (pg_name hN hi hx hf) fun v σ H Q ⟨β,env,st,d,he,hs,r,h⟩=>h.here hs ⟨he.set r i,by simp,fun j hj=>List.getElem?_set_ne (fun z=>hj (by simp[z]))⟩
theorem vgs_nil:VGs X E [] [] kNil:=weakGs pgs_nil fun vs σ H Q ⟨β,env,st,ds,he,hs,r,h⟩=>by
 cases r with
 | nil=>exact⟨rfl,h.here hs ⟨he,rfl,fun _ _=>rfl⟩⟩
 | cons _ _=>exact h.elim
theorem post_step {K : PySem.W.Frag} {mg : MG} {α ρ γ τ : Type} {R : Hp → Bt → α → ρ → Prop} {R' : Hp → Bt → γ → τ → Prop} {β : Bt} {H : Hp} {Q : τ → Hp → Prop} {Q' : ρ → Hp → Prop} {o : Out α} {k : α → AS → Out γ} (h : Post K mg R' E β H Q (o.bind k))
   (hk:∀ a st1 β1 H1 u,Ext β H β1 H1→Sim K mg β1 st1 H1→R H1 β1 a u→Post K mg R' E β1 H1 Q (k a st1)→Q' u H1):Post K mg R E β H Q' o:=by
 cases o with
 | ok a st=>exact fun β1 H1 u x s r=>hk a st β1 H1 u x s r (Post.ext x h)
 | exc c fs st=>exact h
 | bad=>exact h
theorem vgs_cons {w1 w2:List Nat} (h1:VG X E e w1 g) (h2:VGs X E es w2 gs) (hs:(assignEach (e::es) X.env).map (·.2)=assign e X.env::(assignEach es X.env).map (·.2):=by rfl):VGs X E (e::es) (w1++w2) (kCons g gs) :=
 weakGs (pgs_cons h1 h2 hs) fun vs σ H Q ⟨β,env,st,ds,he,hS,r,h⟩=>by
   cases r with
   | nil=>exact h.elim
   | cons r t =>
     refine⟨_,_,rfl,β,env,st,_,he,hS,r,?_⟩
     refine post_step h fun env1 st1 β1 H1 σ1 x s e1 h1=>⟨β1,env1,st1,_,e1.1,s,t.ext x,?_⟩
     cases o:gs _ env1 st1 with
     | bad=>rw[o] at h1; exact h1
     | exc c fs st2=>rw[o] at h1; exact h1
     | ok env2 st2 =>
       rw[o] at h1
       exact fun β2 H2 σ2 x2 s2 e2=>h1 β2 H2 σ2 x2 s2 ⟨e2.1,e2.2.1.trans e1.2.1,fun j hj=>(e2.2.2 j fun z=>hj (List.mem_append_right _ z)).trans (e1.2.2 j fun z=>hj (List.mem_append_left _ z))⟩
theorem vg_tup {k n:Nat} {ws:List Nat} (hc:X.calm=true) (h:VGs X E es ws gs) (hn:(assignEach es X.env).length=n:=by rfl) (hst:(assignEach es X.env).findIdx? (·.1)=none:=by rfl):VG X E (.Tuple es k pos) ws (kTup n gs) :=
 weakG (pg_tup hc h hn hst) fun v σ H Q ⟨β,env,st,d,he,hs,r,h⟩=>by
   unfold kTup at h
   cases r with
   | tup nm e r =>
     obtain⟨hl,h⟩:=h.ite
     exact⟨_,_,rfl,.inl (.inl e),by rw[r.length]; exact hl,β,env,st,_,he,hs,r,h⟩
   | ctp e r =>
     obtain⟨hl,h⟩:=h.ite
     exact⟨_,_,rfl,e.sq,by rw[r.length]; exact hl,β,env,st,_,he,hs,r,h⟩
   | _=>exact h.elim
/-- a list unpacked -/
@[simp] def kLst (n:Nat) (gs:List D→En→AS→Out En) (d:D) (env:En) (st:AS):Out En:=match listOf st d with
 | some ds=>if ds.length=n then gs ds env st else .bad
 | none=>.bad
def putKD {κ:Type} [DecidableEq κ] (kvs:List (κ × D)) (k:κ) (d:D):List (κ × D) :=
 if (kvs.any fun kv=>decide (kv.1=k))=true then kvs.map fun kv=>if kv.1=k then (kv.1,d) else kv else kvs++[(k,d)]
@[simp] def setD (o i v:D) (st:AS):Out Unit:=match o with
 | .ref n=>(match st[n]? with
   | some (.lst ds)=>(match i with
     | .int k=>(match ixN ds.length k with
       | some j=>.ok () (st.set n (.lst (ds.set j v)))
       | none=>.bad)
     | _=>.bad)
   | some (.dct kvs)=>(match keyD i with
     | some k=>if kvs.length<sizeLine then .ok () (st.set n (.dct (putKD kvs k v))) else .bad
     | none=>.bad)
   | some (.dtt kvs)=>(match i with
     | .tup ks=>(match keysD ks with
       | some k=>if kvs.length<sizeLine then .ok () (st.set n (.dtt (putKD kvs k v))) else .bad
       | none=>.bad)
     | _=>.bad)
   | _=>.bad)
 | _=>.bad
def rSetD:TSet:=fun o i v H Q=>∃ a H',o = .ref a∧DPut H a i v H'∧Q H'
theorem set_dict (hu:X.A.units+1<cLine):PSet X rSetD:=by
 intro pins s σ H o i v ov iv u Q I ro ri rv h
 obtain⟨a,H',rfl,g,q⟩:=h
 obtain rfl:ov=Value.ref a:=ro
 exact d_setItem hu I g ri rv fun s' I'=>⟨H',I',q⟩
theorem psetOr {t t':TSet} (h:PSet X t) (h':PSet X t'):PSet X (fun o i v H Q=>t o i v H Q∨t' o i v H Q):=by
 intro pins s σ H o i v ov iv u Q I ro ri rv q
 rcases q with q | q
 · exact h pins s σ H o i v ov iv u Q I ro ri rv q
 · exact h' pins s σ H o i v ov iv u Q I ro ri rv q
theorem RepK.put {κ:Type} [DecidableEq κ] {K:PySem.W.Frag} {H:Hp} {β:Bt} {kvs:List (κ × D)} {us:List (κ × V)} (h:RepK K H β kvs us) {d:D} {u:V} (r:Rep K H β d u) (k:κ):RepK K H β (putKD kvs k d) (putK us k u):=by
 have ha:(us.any fun kv=>decide (kv.1=k))=kvs.any fun kv=>decide (kv.1=k):=by
   rw[valV_any]
   exact h.any k
 unfold putKD putK
 rw[ha]
 split
 · have go : ∀ {kvs : List (κ × D)} {us : List (κ × V)}, RepK K H β kvs us → RepK K H β (kvs.map fun kv => if kv.1 = k then (kv.1, d) else kv) (us.map fun kv => if kv.1 = k then (kv.1, u) else kv) := by
     intro kvs
     induction kvs with
     | nil =>
       intro us h
       have:us=[]:=List.length_eq_zero_iff.mp h.length
       subst this
       exact h
     | cons kv kvs ih =>
       intro us h
       cases us with
       | nil=>exact absurd h.length (by simp)
       | cons w us =>
         obtain⟨h1,h2⟩:=h
         simp only[List.map_cons,List.cons.injEq] at h1
         cases h2 with
         | cons r1 t =>
           obtain⟨i1,i2⟩:=ih (us:=us) ⟨h1.2,t⟩
           simp only[List.map_cons]
           by_cases e:kv.1=k
           · have e':w.1=k:=h1.1.symm.trans e
             rw[if_pos e,if_pos e']
             exact⟨by simp only[List.map_cons,i1,h1.1],.cons r i2⟩
           · have e':¬ w.1=k:=fun z=>e (h1.1.trans z)
             rw[if_neg e,if_neg e']
             exact⟨by simp only[List.map_cons,i1,h1.1],.cons r1 i2⟩
   exact go h
 · refine⟨?_,?_⟩
   · rw[List.map_append,List.map_append,h.1]
     rfl
   · rw[List.map_append,List.map_append]
     exact h.2.append (.cons r .nil)
theorem set_ok {K : PySem.W.Frag} {mg : MG} {β : Bt} {H : Hp} {st : AS} {o i v : D} {uo ui uv : V} {Q : Hp → Prop} (S : Sim K mg β st H) (ro : Rep K H β o uo) (ri : Rep K H β i ui) (rv : Rep K H β v uv)
   (h:Post (ρ:=Unit) K mg (fun _ _ _ _=>True) E β H (fun _ H'=>Q H') (setD o i v st)):rSetL uo ui uv H Q∨rSetD uo ui uv H Q:=by
 unfold setD at h
 cases ro with
 | ref er =>
   rename_i n p
   have hm:p∈β.l:=List.mem_of_getElem? er
   dsimp only at h
   split at h
   · rename_i ds e2
     cases ri with
     | int k =>
       dsimp only at h
       split at h
       · rename_i j ej
         obtain⟨us,e3,q⟩:=S.cell n p _ er e2
         refine .inl ⟨p,us,k,j,rfl,rfl,e3,by rw[q.length]; exact ej,?_⟩
         have x:Ext β H β (upd H p (.lst (us.set j uv))):=ext_put hm e3
         have S':=S.put (o:=.lst (us.set j uv)) (c:=.lst (ds.set j v)) er ⟨_,upd_same,(Reps.set rv j q).ext x⟩
         exact h β _ () x S' trivial
       · exact h.elim
     | _=>exact h.elim
   · rename_i kvs e2
     split at h
     · rename_i k ek
       obtain⟨hl,h⟩:=h.ite
       obtain⟨us,e3,q⟩:=S.cell n p _ er e2
       rw[ri.key ek]
       refine .inr ⟨p,_,rfl,DPut.k e3 (by rw[q.length]; exact hl),?_⟩
       have x:Ext β H β (upd H p (.dK (putK us k uv))):=ext_put hm e3
       have S':=S.put (o:=.dK (putK us k uv)) (c:=.dct (putKD kvs k v)) er ⟨_,upd_same,(q.put rv k).ext x⟩
       exact h β _ () x S' trivial
     · exact h.elim
   · rename_i kvs e2
     cases ri with
     | tup n2 e4 r4 =>
       dsimp only at h
       split at h
       · rename_i k ek
         obtain⟨hl,h⟩:=h.ite
         obtain⟨us,e3,q⟩:=S.cell n p _ er e2
         have z:=r4.keys ek
         subst z
         refine .inr ⟨p,_,rfl,DPut.t e3 e4 (by rw[q.length]; exact hl),?_⟩
         have x:Ext β H β (upd H p (.dT (putK us k uv))):=ext_put hm e3
         have S':=S.put (o:=.dT (putK us k uv)) (c:=.dtt (putKD kvs k v)) er ⟨_,upd_same,(q.put rv k).ext x⟩
         exact h β _ () x S' trivial
       · exact h.elim
     | _=>exact h.elim
   · exact h.elim
 | _=>exact h.elim
@[simp] def kSub (fo fi:En→AS→Out D) (d:D) (env:En) (st:AS):Out En:=(fo env st).bind fun o st=>(fi env st).bind fun i st=>(setD o i d st).bind fun _ st=>.ok env st
theorem vg_sub (hu : X.A.units + 65 < cLine) {o i : Expr} {fo fi : En → AS → Out D} (ho : VE X E o fo) (hi : VE X E i fi)
   (ha:∀ v,assign (.Subscript o i pos) X.env v=(do
     let ov ← holding [v] (eval o X.env)
     let iv ← holding [v,ov] (eval i X.env)
     standAt pos
     holding [v,ov,iv] (setItem ov iv v)
     release [v,ov,iv] []):=by intro _; rfl):VG X E (.Subscript o i pos) [] (kSub fo fi) :=
 weakG (pg_sub ho hi (psetOr set_list (set_dict (Nat.lt_of_le_of_lt (by omega) hu))) ha) fun v σ H Q ⟨β,env,st,d,he,hs,r,h⟩=>by
   refine tG_bind he hs h fun x st1 β1 H1 u x1 s1 e1 r1 h1=>?_
   refine tG_bind e1 s1 h1 fun y st2 β2 H2 w x2 s2 e2 r2 h2=>?_
   refine set_ok (E:=E) s2 (r1.ext x2) r2 ((r.ext x1).ext x2) ?_
   refine post_step (R:=fun _ _ _ _=>True) h2 fun _ st3 β3 H3 _ x3 s3 _ h3=>h3.here s3 ⟨e2.ext x3,rfl,fun _ _=>rfl⟩
end
inductive Fl where
 | nx (env:En) (s:AS) | rt (d:D) (s:AS) | bk (env:En) (s:AS) | ct (env:En) (s:AS)
 | exc (c:Str) (fs:List (Str × D)) (s:AS) | bad
def PostS (K:PySem.W.Frag) (mg:MG) (E:XK) (β:Bt) (H:Hp) (De:Ends):Fl→Prop
 | .nx env st=>∀ β' H' σ',Ext β H β' H'→Sim K mg β' st H'→EnvR K H' β' env σ'→De.nx σ' H'
 | .bk env st=>∀ β' H' σ',Ext β H β' H'→Sim K mg β' st H'→EnvR K H' β' env σ'→De.bk σ' H'
 | .ct env st=>∀ β' H' σ',Ext β H β' H'→Sim K mg β' st H'→EnvR K H' β' env σ'→De.ct σ' H'
 | .rt d st=>∀ β' H' u,Ext β H β' H'→Sim K mg β' st H'→Rep K H' β' d u→De.rt u H'
 | .exc c fs st=>∀ β' H' cls d,Ext β H β' H'→Sim K mg β' st H'→XRep K mg H' β' c fs cls d→E cls d H'
 | .bad=>False
def tVS (K:PySem.W.Frag) (mg:MG) (E:XK) (f:En→AS→Fl):TS:=fun De σ H=>∃ (β:Bt) (env:En) (st:AS),EnvR K H β env σ∧Sim K mg β st H∧PostS K mg E β H De (f env st)
abbrev VS (X:Cx) (E:XK) (s:Stmt) (f:En→AS→Fl):Prop:=PS X s (tVS X.K X.mgw E f)
abbrev VSs (X:Cx) (E:XK) (s:List Stmt) (f:En→AS→Fl):Prop:=PSs X s (tVS X.K X.mgw E f)
def Out.fl {α:Type} (o:Out α) (k:α→AS→Fl):Fl:=match o with
 | .ok a s=>k a s
 | .exc c fs s=>.exc c fs s
 | .bad=>.bad
@[simp] theorem Out.fl_ok {α:Type} (a:α) (s:AS) (k:α→AS→Fl):(Out.ok a s).fl k=k a s:=rfl
@[simp] theorem Out.fl_exc {α:Type} (c:Str) (fs:List (Str × D)) (s:AS) (k:α→AS→Fl):(Out.exc c fs s:Out α).fl k = .exc c fs s:=rfl
@[simp] theorem Out.fl_bad {α:Type} (k:α→AS→Fl):(Out.bad:Out α).fl k = .bad:=rfl
section
variable {K:PySem.W.Frag} {mg:MG} {E:XK} {β β':Bt} {H H':Hp} {De:Ends}
theorem PostS.ext {f:Fl} (x:Ext β H β' H') (h:PostS K mg E β H De f):PostS K mg E β' H' De f:=by
 cases f with
 | nx env st=>exact fun β2 H2 u x2 s r=>h β2 H2 u (x.trans x2) s r
 | rt d st=>exact fun β2 H2 u x2 s r=>h β2 H2 u (x.trans x2) s r
 | bk env st=>exact fun β2 H2 u x2 s r=>h β2 H2 u (x.trans x2) s r
 | ct env st=>exact fun β2 H2 u x2 s r=>h β2 H2 u (x.trans x2) s r
 | exc c fs st=>exact fun β2 H2 cls d x2 s r=>h β2 H2 cls d (x.trans x2) s r
 | bad=>exact h
theorem fl_post {α ρ : Type} {R : Hp → Bt → α → ρ → Prop} {Q' : ρ → Hp → Prop} {o : Out α} {k : α → AS → Fl} (h : PostS K mg E β H De (o.fl k))
   (hk:∀ a st1 β1 H1 u,Ext β H β1 H1→Sim K mg β1 st1 H1→R H1 β1 a u→PostS K mg E β1 H1 De (k a st1)→Q' u H1):Post K mg R E β H Q' o:=by
 cases o with
 | ok a st=>exact fun β1 H1 u x s r=>hk a st β1 H1 u x s r (PostS.ext x h)
 | exc c fs st=>exact h
 | bad=>exact h
theorem fl_bind {α ρ : Type} {R : Hp → Bt → α → ρ → Prop} {Q' : ρ → Hp → Prop} {f : En → AS → Out α} {k : α → AS → Fl} {env : En} {st : AS} {σ : L2.St} (he : EnvR K H β env σ) (hs : Sim K mg β st H) (h : PostS K mg E β H De ((f env st).fl k))
   (hk:∀ a st1 β1 H1 u,Ext β H β1 H1→Sim K mg β1 st1 H1→EnvR K H1 β1 env σ→R H1 β1 a u→PostS K mg E β1 H1 De (k a st1)→Q' u H1):tG K mg R E f σ H Q' :=
 ⟨β,env,st,he,hs,fl_post h fun a st1 β1 H1 u x s r q=>hk a st1 β1 H1 u x s (he.ext x) r q⟩
end
@[simp] def sNext (env:En) (st:AS):Fl:=.nx env st
def Fl.seq (o:Fl) (g:En→AS→Fl):Fl:=match o with
 | .nx env st=>g env st
 | .rt d st=>.rt d st
 | .bk env st=>.bk env st
 | .ct env st=>.ct env st
 | .exc c fs st=>.exc c fs st
 | .bad=>.bad
@[simp] theorem Fl.seq_nx (env:En) (st:AS) (g:En→AS→Fl):(Fl.nx env st).seq g=g env st:=rfl
@[simp] theorem Fl.seq_rt (d:D) (st:AS) (g:En→AS→Fl):(Fl.rt d st).seq g = .rt d st:=rfl
@[simp] theorem Fl.seq_bk (env:En) (st:AS) (g:En→AS→Fl):(Fl.bk env st).seq g = .bk env st:=rfl
@[simp] theorem Fl.seq_ct (env:En) (st:AS) (g:En→AS→Fl):(Fl.ct env st).seq g = .ct env st:=rfl
@[simp] theorem Fl.seq_exc (c:Str) (fs:List (Str × D)) (st:AS) (g:En→AS→Fl):(Fl.exc c fs st).seq g = .exc c fs st:=rfl
@[simp] theorem Fl.seq_bad (g:En→AS→Fl):(Fl.bad).seq g = .bad:=rfl
@[simp] def sSeq (f g:En→AS→Fl) (env:En) (st:AS):Fl:=(f env st).seq g
@[simp] def sBreak (env:En) (st:AS):Fl:=.bk env st
@[simp] def sCont (env:En) (st:AS):Fl:=.ct env st
@[simp] def sBad:En→AS→Fl:=fun _ _=>.bad
@[simp] def sExpr (f:En→AS→Out D) (env:En) (st:AS):Fl:=(f env st).fl fun _ st=>.nx env st
@[simp] def sRet (f:En→AS→Out D) (env:En) (st:AS):Fl:=(f env st).fl fun d st=>.rt d st
@[simp] def sIf (c:En→AS→Out Bool) (f g:En→AS→Fl) (env:En) (st:AS):Fl:=(c env st).fl fun b st=>if b=true then f env st else g env st
@[simp] def sSet (i:Nat) (f:En→AS→Out D) (env:En) (st:AS):Fl:=(f env st).fl fun d st=>.nx (env.set i (some d)) st
@[simp] def sAsg (f:En→AS→Out D) (g:D→En→AS→Out En) (env:En) (st:AS):Fl:=(f env st).fl fun d st=>(g d env st).fl fun env st=>.nx env st
@[simp] def sPar (i j:Nat) (f:En→AS→Out (List D)) (env:En) (st:AS):Fl:=(f env st).fl fun ds st=>match ds with
 | [a,b]=>.nx ((env.set i (some a)).set j (some b)) st
 | _=>.bad
@[simp] def sPar3 (i j l:Nat) (f:En→AS→Out (List D)) (env:En) (st:AS):Fl:=(f env st).fl fun ds st=>match ds with
 | [a,b,c]=>.nx (((env.set i (some a)).set j (some b)).set l (some c)) st
 | _=>.bad
section
variable {X:Cx} {E:XK} {s:Stmt} {ss:List Stmt} {f g:En→AS→Fl} {e:Expr} {fe:En→AS→Out D} {pos:Pos}
theorem vss_nil:VSs X E [] sNext:=weakSs pss_nil fun De σ H ⟨β,env,st,he,hs,h⟩=>h β H σ (Ext.refl _ _) hs he
theorem vss_one (h:VS X E s f):VSs X E [s] f:=pss_one h
theorem vss_cons (h1:VS X E s f) (h2:VSs X E ss g):VSs X E (s::ss) (sSeq f g):=by
 refine weakSs (pss_cons h1 h2) fun De σ H ⟨β,env,st,he,hs,h⟩=>⟨β,env,st,he,hs,?_⟩
 unfold sSeq Fl.seq at h
 cases e:f env st with
 | nx env1 st1 =>
   rw[e] at h
   exact fun β1 H1 σ1 x s1 e1=>⟨β1,env1,st1,e1,s1,PostS.ext x h⟩
 | rt d st1=>rw[e] at h; exact h
 | bk d st1=>rw[e] at h; exact h
 | ct d st1=>rw[e] at h; exact h
 | exc c fs st1=>rw[e] at h; exact h
 | bad=>rw[e] at h; exact h
theorem vs_expr (he:VE X E e fe) (hs:swapsWith e none pos.line X.env=pure false:=by rfl):VS X E (.Expr e pos) (sExpr fe) :=
 weakS (ps_expr he hs) fun De σ H ⟨β,env,st,he,hs,h⟩=>fl_bind he hs h fun a st1 β1 H1 u x s1 e1 r1 h1=>h1 β1 H1 σ (Ext.refl _ _) s1 e1
theorem vs_ret (he:VE X E e fe):VS X E (.Return (some e) pos) (sRet fe) :=
 weakS (ps_ret he) fun De σ H ⟨β,env,st,he,hs,h⟩=>fl_bind he hs h fun a st1 β1 H1 u x s1 e1 r1 h1=>h1 β1 H1 u (Ext.refl _ _) s1 r1
theorem vs_if {c:Expr} {a b:List Stmt} {fc:En→AS→Out Bool} (hc:VT X E c fc) (ha:VSs X E a f) (hb:VSs X E b g):VS X E (.If c a b pos) (sIf fc f g) :=
 weakS (ps_if hc ha hb) fun De σ H ⟨β,env,st,he,hs,h⟩=>fl_bind he hs h fun k st1 β1 H1 u x s1 e1 r1 h1=>by
   obtain rfl:k=u:=r1
   cases k with
   | true=>exact⟨β1,env,st1,e1,s1,h1⟩
   | false=>exact⟨β1,env,st1,e1,s1,h1⟩
theorem vs_set {i : Nat} {x : Str} {pos' : Pos} (hN : X.N.Nodup) (hi : X.N[i]? = some x) (hx : Loc X.env.scope x) (he : VE X E e fe) (hs : swapsWith e (some (.Name x pos')) pos.line X.env = pure false := by rfl) (hf : X.fn x = true ∨ X.env.scope.names.lookup x = some .local := by first | exact .inl rfl | exact .inr rfl | assumption) :
   VS X E (.Assign [.Name x pos'] e pos) (sSet i fe) :=
 weakS (ps_set hN hi hx he hs hf) fun De σ H ⟨β,env,st,he,hs,h⟩=>fl_bind he hs h fun a st1 β1 H1 u x s1 e1 r1 h1=>h1 β1 H1 _ (Ext.refl _ _) s1 (e1.set r1 i)
theorem vs_asg {tg : Expr} {gt : D → En → AS → Out En} {ws : List Nat} (he : VE X E e fe) (hg : VG X E tg ws gt) (hs : swapsWithSole [tg] e pos.line X.env = pure false := by rfl) (hw : swappedStores [tg] e X.env = pure none := by rfl)
   (h1:(assignEach [tg] X.env).map (·.2)=[assign tg X.env]:=by rfl):VS X E (.Assign [tg] e pos) (sAsg fe gt) :=
 weakS (ps_asg he hg hs hw h1) fun De σ H ⟨β,env,st,he,hs,h⟩=>fl_bind he hs h fun a st1 β1 H1 u x s1 e1 r1 h1 =>
   ⟨β1,env,st1,a,e1,s1,r1,fl_post h1 fun env2 st2 β2 H2 σ2 x2 s2 e2 h2=>h2 β2 H2 σ2 (Ext.refl _ _) s2 e2.1⟩
end
end VL
namespace VL
open PySem PySem.Spec PyProof.Rows L2 TB
section
variable {X:Cx} {E:XK} {s:Stmt} {ss:List Stmt} {f g:En→AS→Fl} {e:Expr} {fe:En→AS→Out D} {pos:Pos}
theorem vs_par {i j : Nat} {x y : Str} {a b : Expr} {fs : En → AS → Out (List D)} {px py pt : Pos} {kt k2 pt2} (hc : X.calm = true) (hN : X.N.Nodup) (hi : X.N[i]? = some x) (hj : X.N[j]? = some y) (hij : i ≠ j)
   (hx:X.env.scope.names.lookup x=some .local) (hy:X.env.scope.names.lookup y=some .local) (ha:VA X E [a,b] fs)
   (hw:swappedStores [.Tuple [.Name x px,.Name y py] kt pt] (.Tuple [a,b] k2 pt2) X.env=pure (some [x,y]))
   (hs:swapsWithSole [.Tuple [.Name x px,.Name y py] kt pt] (.Tuple [a,b] k2 pt2) pos.line X.env=pure false:=by rfl) :
   VS X E (.Assign [.Tuple [.Name x px,.Name y py] kt pt] (.Tuple [a,b] k2 pt2) pos) (sPar i j fs) :=
 weakS (ps_par hc hN hi hj hij hx hy ha hw hs) fun De σ H ⟨β,env,st,he,hs,h⟩=>fl_bind he hs h fun ds st1 β1 H1 us x s1 e1 r1 h1=>by
   cases r1 with
   | nil=>exact h1.elim
   | cons a t =>
     cases t with
     | nil=>exact h1.elim
     | cons b t =>
       cases t with
       | nil=>exact⟨_,_,rfl,h1 β1 H1 _ (Ext.refl _ _) s1 ((e1.set a i).set b j)⟩
       | cons _ _=>exact h1.elim
@[simp] def sAug (i:Nat) (op:D→D→AS→Out D) (fe:En→AS→Out D) (env:En) (st:AS):Fl:=(vVar i env st).fl fun x st=>(fe env st).fl fun y st=>(op x y st).fl fun z st=>.nx (env.set i (some z)) st
def OkI (X:Cx) (E:XK) (op:Operator) (g:D→D→AS→Out D):Prop:=∃ r,PIp X op r∧Ok2 X.K X.mgw E r g
theorem vs_aug {i : Nat} {x : Str} {op : Operator} {gi : D → D → AS → Out D} {pos' : Pos} (hN : X.N.Nodup) (hi : X.N[i]? = some x) (hx : Loc X.env.scope x) (he : VE X E e fe) (ho : OkI X E op gi) (hf : X.fn x = true ∨ X.env.scope.names.lookup x = some .local := by first | exact .inl rfl | exact .inr rfl | assumption) :
   VS X E (.AugAssign (.Name x pos') op e pos) (sAug i gi fe):=by
 obtain⟨r,h1,h2⟩:=ho
 refine weakS (ps_aug hN hi hx he h1 hf) fun De σ H ⟨β,env,st,he,hs,h⟩=>?_
 unfold sAug at h
 cases ev:vVar i env st with
 | bad=>rw[ev] at h; exact h.elim
 | exc c fs st1 =>
   unfold vVar at ev
   split at ev <;> cases ev
 | ok d st1 =>
   rw[ev] at h
   unfold vVar at ev
   split at ev
   · rename_i d' e'
     cases ev
     obtain⟨u,e2,r2⟩:=he.get i d e'
     refine⟨u,e2,fl_bind he hs h fun y st2 β2 H2 v x2 s2 e2 r3 h3=>?_⟩
     refine h2 β2 H2 st2 d y u v _ s2 (r2.ext x2) r3 (fl_post h3 fun z st4 β4 H4 w x4 s4 r4 h4=>?_)
     exact h4 β4 H4 _ (Ext.refl _ _) s4 ((e2.ext x4).set r4 i)
   · cases ev
theorem oi_sub:OkI X E .Sub (iiD fun a b=>.int (a-b)):=⟨_,ip_sub,fun β H st x y u v Q S rx ry h=>by
 obtain⟨i,j,rfl,rfl,h⟩:=ii_ok rx ry h
 exact⟨i,j,rfl,rfl,h.here S (.int _)⟩⟩
end
abbrev Gd:=List (Nat × C)
/-- the things that are walked stand as they stood -/
def Gd.ok (gs:Gd) (st:AS):Prop:=∀ p∈gs,st[p.1]? = some p.2
structure WalkD (K:PySem.W.Frag) (mg:MG) (β:Bt) (H:Hp) (J:It) (items:List D) (gs:Gd):Prop where
 go:∀ i β' H' st,ExtF β H β' H'→Sim K mg β' st H'→gs.ok st→i<items.length→J.go i H'
 stop:∀ β' H' st,ExtF β H β' H'→Sim K mg β' st H'→gs.ok st→J.stop items.length H'
 yld:∀ i β' H' st x H2,ExtF β H β' H'→Sim K mg β' st H'→gs.ok st→i<items.length→J.yld i H' x H2→Same H' H2 ∧ ∃ d,items[i]? = some d∧Rep K H2 β' d x
abbrev rI (K:PySem.W.Frag) (mg:MG):Hp→Bt→(List D × Gd)→It→Prop:=fun H β p J=>WalkD K mg β H J p.1 p.2
abbrev VI (X:Cx) (E:XK) (tg iter:Expr) (f:En→AS→Out (List D × Gd)):Prop:=PI X tg iter (tG X.K X.mgw (rI X.K X.mgw) E f)
theorem weakI {X:Cx} {tg e:Expr} {t t':TI} (h:PI X tg e t) (w:∀ σ H Q,t' σ H Q→t σ H Q):PI X tg e t':=⟨fun pins s σ H Q I q=>h.run pins s σ H Q I (w σ H Q q)⟩
theorem orI {X:Cx} {tg e:Expr} {t t':TI} (h:PI X tg e t) (h':PI X tg e t'):PI X tg e (fun σ H Q=>t σ H Q∨t' σ H Q):=⟨fun pins s σ H Q I q=>q.elim (h.run pins s σ H Q I) (h'.run pins s σ H Q I)⟩
section
variable {K:PySem.W.Frag} {mg:MG} {β β':Bt} {H H':Hp} {st:AS}
/-- a plain walk over values that stand for the data ds -/
theorem walk_at {J : It} {G : List V → Hp → Prop} {ds : List D} {gs : Gd} (hW : ∀ us : List V, us.length = ds.length → Walk J ds.length (G us) (YAt us))
   (hG:∀ β' H' st,ExtF β H β' H'→Sim K mg β' st H'→gs.ok st → ∃ us,G us H'∧Reps K H' β' ds us):WalkD K mg β H J ds gs:=by
 refine⟨fun i β' H' st x S g hi=>?_,fun β' H' st x S g=>?_,fun i β' H' st v H2 x S g hi y=>?_⟩
 · obtain⟨us,q,r⟩:=hG β' H' st x S g
   exact (hW us r.length).goes i H' hi q
 · obtain⟨us,q,r⟩:=hG β' H' st x S g
   exact (hW us r.length).stops H' q
 · obtain⟨us,q,r⟩:=hG β' H' st x S g
   obtain⟨rfl,e⟩:=(hW us r.length).yields i H' v H2 hi q y
   obtain⟨d,e2,r2⟩:=r.get' e
   exact⟨Same.refl _,d,e2,r2⟩
theorem zip_at {ds es:List D} {i:Nat} {d e:D} (h1:ds[i]? = some d) (h2:es[i]? = some e):((ds.zip es).map fun p=>D.tup [p.1,p.2])[i]? = some (.tup [d,e]):=by
 rw[List.getElem?_map,List.getElem?_zip_eq_some (z:=(d,e)) |>.mpr ⟨h1,h2⟩]
 rfl
/-- pairs -/
theorem walk_pair {J : It} {G : List V → List V → Hp → Prop} {ds es : List D} {gs : Gd} {n : Nat} (hn : n = min ds.length es.length)
   (hW:∀ us ws:List V,us.length=ds.length→ws.length=es.length→Walk J n (G us ws) (YPair (fun i=>us[i]?) (fun i=>ws[i]?)))
   (hG:∀ β' H' st,ExtF β H β' H'→Sim K mg β' st H'→gs.ok st → ∃ us ws,G us ws H'∧Reps K H' β' ds us∧Reps K H' β' es ws) :
   WalkD K mg β H J ((ds.zip es).map fun p=>.tup [p.1,p.2]) gs:=by
 have hl:((ds.zip es).map fun p=>D.tup [p.1,p.2]).length=n:=by rw[List.length_map,List.length_zip]; exact hn.symm
 refine⟨fun i β' H' st x S g hi=>?_,fun β' H' st x S g=>?_,fun i β' H' st v H2 x S g hi y=>?_⟩
 · obtain⟨us,ws,q,r,r'⟩:=hG β' H' st x S g
   exact (hW us ws r.length r'.length).goes i H' (by omega) q
 · obtain⟨us,ws,q,r,r'⟩:=hG β' H' st x S g
   rw[hl]
   exact (hW us ws r.length r'.length).stops H' q
 · obtain⟨us,ws,q,r,r'⟩:=hG β' H' st x S g
   obtain⟨T,a,b,rfl,nT,rfl,ea,eb⟩:=(hW us ws r.length r'.length).yields i H' v H2 (by omega) q y
   obtain⟨d1,f1,r1⟩:=r.get' ea
   obtain⟨d2,f2,r2⟩:=r'.get' eb
   have sm:Same H' (upd H' T (.tup [a,b])):=same_upd nT
   exact⟨sm,.tup [d1,d2],zip_at f1 f2,.tup (S.fresh nT) upd_same (.cons (r1.ext (Ext.same sm)) (.cons (r2.ext (Ext.same sm)) .nil))⟩
/-- numbered -/
theorem walk_num {J : It} {G : List V → Hp → Prop} {ds : List D} {gs : Gd} (hW : ∀ us : List V, us.length = ds.length → Walk J ds.length (G us) (YPair (fun i => some (.int (i : Nat))) (fun i => us[i]?)))
   (hG:∀ β' H' st,ExtF β H β' H'→Sim K mg β' st H'→gs.ok st → ∃ us,G us H'∧Reps K H' β' ds us) :
   WalkD K mg β H J (ds.zipIdx.map fun p=>.tup [.int (p.2:Nat),p.1]) gs:=by
 have hl:(ds.zipIdx.map fun p=>D.tup [.int (p.2:Nat),p.1]).length=ds.length:=by rw[List.length_map,List.length_zipIdx]
 refine⟨fun i β' H' st x S g hi=>?_,fun β' H' st x S g=>?_,fun i β' H' st v H2 x S g hi y=>?_⟩
 · obtain⟨us,q,r⟩:=hG β' H' st x S g
   exact (hW us r.length).goes i H' (by omega) q
 · obtain⟨us,q,r⟩:=hG β' H' st x S g
   rw[hl]
   exact (hW us r.length).stops H' q
 · obtain⟨us,q,r⟩:=hG β' H' st x S g
   obtain⟨T,a,b,rfl,nT,rfl,ea,eb⟩:=(hW us r.length).yields i H' v H2 (by omega) q y
   cases ea
   obtain⟨d2,f2,r2⟩:=r.get' eb
   have sm:Same H' (upd H' T (.tup [.int (i:Nat),b])):=same_upd nT
   refine⟨sm,.tup [.int (i:Nat),d2],?_,.tup (S.fresh nT) upd_same (.cons (.int _) (.cons (r2.ext (Ext.same sm)) .nil))⟩
   rw[List.getElem?_map,List.getElem?_zipIdx,f2]
   simp
theorem gd_nil {gs:Gd} (h:gs=[]) {st:AS}:gs.ok st:=by
 subst h
 exact fun p hp=>nomatch hp
theorem walk_strD {z:Str}:WalkD K mg β H (Its z) (z.cps.toList.map fun c=>.str ⟨#[c]⟩) []:=by
 have hl:(z.cps.toList.map fun c=>D.str ⟨#[c]⟩).length=z.cps.size:=by simp
 refine⟨fun i β' H' st x S g hi=>(walk_str (z:=z)).goes i H' (by omega) trivial,fun β' H' st x S g=>by rw[hl]; exact (walk_str (z:=z)).stops H' trivial,fun i β' H' st v H2 x S g hi y=>?_⟩
 obtain⟨rfl,c,ec,rfl⟩:=(walk_str (z:=z)).yields i H' v H2 (by omega) trivial y
 refine⟨Same.refl _,.str ⟨#[c]⟩,?_,.str _⟩
 rw[List.getElem?_map,Array.getElem?_toList,ec]
 rfl
/-- the list that d is,later too -/
def gdOf (d:D) (ds:List D):Gd:=match d with
 | .ref i=>[(i,.lst ds)]
 | _=>[]
def isTupD:D→Bool
 | .tup _=>true
 | .ctp _=>true
 | _=>false
def SqB (t:Bool) (K:PySem.W.Frag) (H:Hp) (a:Addr) (us:List V):Prop:=match t with
 | true=>SqT K H a us
 | false=>SqL K H a us
theorem later {d : D} {u : V} {ds : List D} (S : Sim K mg β st H) (r : Rep K H β d u) (h : seqOf st d = some ds) :
   ∃ a,u = .ref a ∧ ∀ β' H' st',ExtF β H β' H'→Sim K mg β' st' H'→(gdOf d ds).ok st' → ∃ us',SqB (isTupD d) K H' a us'∧Reps K H' β' ds us':=by
 cases r with
 | tup n e q =>
   cases h
   exact⟨_,rfl,fun β' H' st' x _ _=>⟨_,.inl (.inl (x.kept _ _ e n).1),q.extW x.toExtW⟩⟩
 | ctp e q =>
   cases h
   exact⟨_,rfl,fun β' H' st' x _ _=>⟨_,(e.imp fun o z n=>x.kept _ _ z n).sq,q.extW x.toExtW⟩⟩
 | lst n e q =>
   cases h
   exact⟨_,rfl,fun β' H' st' x _ _=>⟨_,.inl (.inl (x.kept _ _ e n).1),q.extW x.toExtW⟩⟩
 | fzl e q =>
   cases h
   exact⟨_,rfl,fun β' H' st' x _ _=>⟨_,SqL.fz (e.imp (fun z=>x.rd z.1 z.2) id),q.extW x.toExtW⟩⟩
 | ref e =>
   rename_i i a
   refine⟨a,rfl,fun β' H' st' x S' g=>?_⟩
   have e2:=g (i,.lst ds) (by simp[gdOf])
   obtain⟨us,e3,q⟩:=S'.cell i a _ (x.at e) e2
   exact⟨us,.inl (.inl e3),q⟩
 | non=>cases h
 | bl b=>cases h
 | int b=>cases h
 | str b=>cases h
 | cv=>cases h
end
section
variable {X:Cx} {E:XK} {tg e e2:Expr} {es:List Expr} {fe:En→AS→Out D} {fs:En→AS→Out (List D)} {pos p:Pos}
@[simp] def itD (d:D) (st:AS):Out (List D × Gd):=match seqOf st d with
 | some ds=>.ok (ds,gdOf d ds) st
 | none=>match d with
   | .str z=>.ok (z.cps.toList.map fun c=>.str ⟨#[c]⟩,[]) st
   | _=>.bad
theorem vi_seq (he:VE X E e fe):VI X E tg e (v1 itD fe):=by
 refine weakI (orI (pi_list he) (orI (pi_tup he) (pi_str he))) fun σ H Q h=>?_
 obtain⟨β,env,st,hE,hS,h⟩:=h
 cases ev:fe env st with
 | bad =>
   unfold v1 at h
   rw[ev] at h
   exact h.elim
 | exc c fs st1 =>
   unfold v1 at h
   rw[ev] at h
   refine .inl ⟨β,env,st,hE,hS,?_⟩
   rw[ev]
   exact h
 | ok d st1 =>
   unfold v1 at h
   rw[ev] at h
   change Post X.K X.mgw (rI X.K X.mgw) E β H Q (itD d st1) at h
   unfold itD at h
   split at h
   · rename_i ds eq
     by_cases ht:isTupD d=true
     · refine .inr (.inl ⟨β,env,st,hE,hS,?_⟩)
       rw[ev]
       intro β1 H1 u x1 s1 r1
       obtain⟨a,rfl,hl⟩:=later s1 r1 eq
       rw[ht] at hl
       have hg:∀ st',(gdOf d ds).ok st':=fun st'=>gd_nil (by cases d <;> first | rfl | cases ht)
       refine⟨a,rfl,?_,h β1 H1 (Itt X.K a) x1 s1 ?_⟩
       · obtain⟨us,q,_⟩:=hl β1 H1 st1 (ExtF.refl _ _) s1 (hg st1)
         exact⟨us,q⟩
       · exact walk_at (G:=fun us H=>SqT X.K H a us) (fun us hu=>hu ▸ walk_tup) hl
     · refine .inl ⟨β,env,st,hE,hS,?_⟩
       rw[ev]
       intro β1 H1 u x1 s1 r1
       obtain⟨a,rfl,hl⟩:=later s1 r1 eq
       rw[Bool.not_eq_true] at ht
       rw[ht] at hl
       have hg:(gdOf d ds).ok st1:=by
         cases d with
         | ref i =>
           intro p hp
           cases List.mem_singleton.mp hp
           unfold seqOf listOf at eq
           dsimp only at eq
           split at eq
           · rename_i z
             cases eq
             exact z
           · cases eq
         | _=>exact gd_nil rfl
       refine⟨a,rfl,?_,h β1 H1 (Itl X.K a) x1 s1 ?_⟩
       · obtain⟨us,q,_⟩:=hl β1 H1 st1 (ExtF.refl _ _) s1 hg
         exact⟨us,q⟩
       · exact walk_at (G:=fun us H=>SqL X.K H a us) (fun us hu=>hu ▸ walk_list) hl
   · split at h
     · rename_i z _
       refine .inr (.inr ⟨β,env,st,hE,hS,?_⟩)
       rw[ev]
       intro β1 H1 u x1 s1 r1
       cases r1 with
       | str z =>
         exact⟨z,rfl,h β1 H1 (Its z) x1 s1 walk_strD⟩
     · exact h.elim
/-- range -/
def rngL (lo:Int) (n:Nat):List D:=(List.range n).map fun k=>.int (lo+(k:Nat))
def rng1 (xs:List D) (st:AS):Out (List D × Gd):=match xs with
 | [.int j]=>if -(2^62)≤j∧j<2^62 then .ok (rngL 0 j.toNat,[]) st else .bad
 | _=>.bad
def rng2 (xs:List D) (st:AS):Out (List D × Gd):=match xs with
 | [.int i,.int j]=>if -(2^62)≤i∧i<2^62 ∧ -(2^62)≤j∧j<2^62 then .ok (rngL i (j-i).toNat,[]) st else .bad
 | _=>.bad
theorem walk_rng {K:PySem.W.Frag} {mg:MG} {β:Bt} {H:Hp} {lo:Int} {n:Nat}:WalkD K mg β H (Itr lo n) (rngL lo n) []:=by
 have hl:(rngL lo n).length=n:=by simp[rngL]
 refine⟨fun i β' H' st x S g hi=>(walk_range (lo:=lo) (n:=n)).goes i H' (by omega) trivial,fun β' H' st x S g=>by rw[hl]; exact (walk_range (lo:=lo) (n:=n)).stops H' trivial,fun i β' H' st v H2 x S g hi y=>?_⟩
 obtain⟨rfl,rfl⟩:=(walk_range (lo:=lo) (n:=n)).yields i H' v H2 (by omega) trivial y
 refine⟨Same.refl _,.int (lo+(i:Nat)),?_,.int _⟩
 unfold rngL
 rw[List.getElem?_map,List.getElem?_range (by omega)]
 rfl
theorem vi_range1 {a:Expr} (hg:Gl X "range") (hm:X.mg "range" = none) (ha:VA X E [a] fs) (hs:starEach [a] X.env=[(false,eval a X.env)]:=by rfl):VI X E tg (.Call (.Name "range" p) [a] [] pos) (vA rng1 fs) :=
 weakI (pi_range1 hg hm ha hs) fun σ H Q ⟨β,env,st,he,hs,h⟩=>tG_bind he hs h fun ds st1 β1 H1 us x1 s1 e1 r1 h1=>by
   unfold rng1 at h1
   split at h1
   · rename_i j
     obtain⟨v,rfl,rv⟩:=one_ok r1
     cases rv
     obtain⟨⟨b1,b2⟩,h1⟩:=h1.ite
     exact⟨j,rfl,b1,b2,h1.here s1 walk_rng⟩
   · exact h1.elim
theorem two_ok {K:PySem.W.Frag} {H:Hp} {β:Bt} {x y:D} {us:List V} (r:Reps K H β [x,y] us):∃ u v,us=[u,v]∧Rep K H β x u∧Rep K H β y v:=by
 cases r with
 | cons a t =>
   obtain⟨v,rfl,rv⟩:=one_ok t
   exact⟨_,v,rfl,a,rv⟩
theorem vi_range2 {a b:Expr} (hg:Gl X "range") (hm:X.mg "range" = none) (ha:VA X E [a,b] fs) (hs:starEach [a,b] X.env=[(false,eval a X.env),(false,eval b X.env)]:=by rfl) (hs2:starEach [b] X.env=[(false,eval b X.env)]:=by rfl):VI X E tg (.Call (.Name "range" p) [a,b] [] pos) (vA rng2 fs) :=
 weakI (pi_range2 hg hm ha hs hs2) fun σ H Q ⟨β,env,st,he,hs,h⟩=>tG_bind he hs h fun ds st1 β1 H1 us x1 s1 e1 r1 h1=>by
   unfold rng2 at h1
   split at h1
   · rename_i i j
     obtain⟨u,v,rfl,ru,rv⟩:=two_ok r1
     cases ru
     cases rv
     obtain⟨b1,h1⟩:=h1.ite
     exact⟨i,j,rfl,b1,h1.here s1 walk_rng⟩
   · exact h1.elim
/-- the walk is over what was evaluated,or an error comes -/
theorem pickA {f : List D → AS → Out (List D × Gd)} {σ : L2.St} {H : Hp} {Q : It → Hp → Prop} (h : tG X.K X.mgw (rI X.K X.mgw) E (vA f fs) σ H Q) :
   (∃ β env st ds st1,EnvR X.K H β env σ∧Sim X.K X.mgw β st H∧fs env st = .ok ds st1∧Post X.K X.mgw (rI X.K X.mgw) E β H Q (f ds st1)) ∨ ∀ R,tVA X.K X.mgw E fs σ H R:=by
 obtain⟨β,env,st,hE,hS,h⟩:=h
 unfold vA at h
 cases ev:fs env st with
 | bad=>rw[ev] at h; exact h.elim
 | exc c xs st1 =>
   rw[ev] at h
   exact .inr fun R=>⟨β,env,st,hE,hS,by rw[ev]; exact h⟩
 | ok ds st1 =>
   rw[ev] at h
   exact .inl ⟨β,env,st,ds,st1,hE,hS,ev,h⟩
theorem goA {σ : L2.St} {H : Hp} {R : List V → Hp → Prop} {β : Bt} {env : En} {st st1 : AS} {ds : List D} (hE : EnvR X.K H β env σ) (hS : Sim X.K X.mgw β st H) (ev : fs env st = .ok ds st1)
   (h:∀ β1 H1 us,Ext β H β1 H1→Sim X.K X.mgw β1 st1 H1→Reps X.K H1 β1 ds us→R us H1):tVA X.K X.mgw E fs σ H R:=⟨β,env,st,hE,hS,by rw[ev]; exact h⟩
theorem gd_now {st:AS} {d:D} {ds:List D} (h:seqOf st d=some ds):(gdOf d ds).ok st:=by
 cases d with
 | ref i =>
   intro p hp
   cases List.mem_singleton.mp hp
   unfold seqOf listOf at h
   dsimp only at h
   split at h
   · rename_i z
     cases h
     exact z
   · cases h
 | _=>exact gd_nil rfl
theorem gd_app {a b:Gd} {st:AS}:Gd.ok (a++b) st↔a.ok st∧b.ok st :=
 ⟨fun h=>⟨fun p hp=>h p (List.mem_append_left _ hp),fun p hp=>h p (List.mem_append_right _ hp)⟩,fun h p hp=>(List.mem_append.mp hp).elim (h.1 p) (h.2 p)⟩
@[simp] def enumD (xs:List D) (st:AS):Out (List D × Gd):=match xs with
 | [d]=>(match seqOf st d with
   | some ds=>.ok (ds.zipIdx.map fun p=>.tup [.int (p.2:Nat),p.1],gdOf d ds) st
   | none=>.bad)
 | _=>.bad
theorem vi_enum {tpos:Pos} {elts:List Expr} {kk:Nat} (hg:Gl X "enumerate") (hm:X.mg "enumerate" = none) (ha:VA X E [e] fs) (hs:starEach [e] X.env=[(false,eval e X.env)]:=by rfl):VI X E (.Tuple elts kk tpos) (.Call (.Name "enumerate" p) [e] [] pos) (vA enumD fs):=by
 refine weakI (orI (pi_enum hg hm ha hs) (pi_enumT hg hm ha hs)) fun σ H Q h=>?_
 rcases pickA h with⟨β,env,st,ds,st1,hE,hS,ev,h⟩ | h
 · unfold enumD at h
   split at h
   · rename_i d
     split at h
     · rename_i xs ed
       by_cases ht:isTupD d=true
       · refine .inr (goA hE hS ev fun β1 H1 us x1 s1 r1=>?_)
         obtain⟨v,rfl,rv⟩:=one_ok r1
         obtain⟨a,rfl,hl⟩:=later s1 rv ed
         rw[ht] at hl
         obtain⟨us,q,_⟩:=hl β1 H1 st1 (ExtF.refl _ _) s1 (gd_now ed)
         exact⟨a,us,rfl,q,h β1 H1 _ x1 s1 (walk_num (G:=fun us H=>SqT X.K H a us) (fun us hu=>hu ▸ walk_ET) hl)⟩
       · rw[Bool.not_eq_true] at ht
         refine .inl (goA hE hS ev fun β1 H1 us x1 s1 r1=>?_)
         obtain⟨v,rfl,rv⟩:=one_ok r1
         obtain⟨a,rfl,hl⟩:=later s1 rv ed
         rw[ht] at hl
         obtain⟨us,q,_⟩:=hl β1 H1 st1 (ExtF.refl _ _) s1 (gd_now ed)
         exact⟨a,us,rfl,q,h β1 H1 _ x1 s1 (walk_num (G:=fun us H=>SqL X.K H a us) (fun us hu=>hu ▸ walk_enum) hl)⟩
     · exact h.elim
   · exact h.elim
 · exact .inl (h _)
@[simp] def zipD (xs:List D) (st:AS):Out (List D × Gd):=match xs with
 | [d,e]=>(match seqOf st d,seqOf st e with
   | some ds,some es=>.ok ((ds.zip es).map fun p=>.tup [p.1,p.2],gdOf d ds++gdOf e es) st
   | _,_=>.bad)
 | _=>.bad
theorem vi_zip {tpos : Pos} {elts : List Expr} {kk : Nat} (hg : Gl X "zip") (hm : X.mg "zip" = none) (ha : VA X E [e, e2] fs) (hs : starEach [e, e2] X.env = (false, eval e X.env) :: starEach [e2] X.env := by rfl) (hpl : (backTo pos (starEach [e2] X.env)).any (·.1) = false := by rfl) :
   VI X E (.Tuple elts kk tpos) (.Call (.Name "zip" p) [e,e2] [] pos) (vA zipD fs):=by
 refine weakI (orI (RZ.pi_zipA hg hm ha hs hpl) (orI (pi_zipTL hg hm ha hs hpl) (pi_zipLT hg hm ha hs hpl))) fun σ H Q h=>?_
 rcases pickA h with⟨β,env,st,ds,st1,hE,hS,ev,h⟩ | h
 · unfold zipD at h
   split at h
   · rename_i d e'
     split at h
     · rename_i xs ys ed ee
       have both : ∀ {β1 : Bt} {H1 : Hp} {us : List V}, Sim X.K X.mgw β1 st1 H1 → Reps X.K H1 β1 [d, e'] us → ∃ a b, us = [.ref a, .ref b] ∧
           (∀ β' H' st',ExtF β1 H1 β' H'→Sim X.K X.mgw β' st' H'→Gd.ok (gdOf d xs++gdOf e' ys) st' → ∃ us' ws',(SqB (isTupD d) X.K H' a us'∧SqB (isTupD e') X.K H' b ws')∧Reps X.K H' β' xs us'∧Reps X.K H' β' ys ws')∧(∃ us' ws',SqB (isTupD d) X.K H1 a us'∧SqB (isTupD e') X.K H1 b ws'):=by
         intro β1 H1 us s1 r1
         obtain⟨u,v,rfl,ru,rv⟩:=two_ok r1
         obtain⟨a,rfl,hl⟩:=later s1 ru ed
         obtain⟨b,rfl,hl'⟩:=later s1 rv ee
         refine⟨a,b,rfl,fun β' H' st' x' s' g=>?_,?_⟩
         · obtain⟨us',q,r⟩:=hl β' H' st' x' s' (gd_app.mp g).1
           obtain⟨ws',q',r'⟩:=hl' β' H' st' x' s' (gd_app.mp g).2
           exact⟨us',ws',⟨q,q'⟩,r,r'⟩
         · obtain⟨us',q,_⟩:=hl β1 H1 st1 (ExtF.refl _ _) s1 (gd_now ed)
           obtain⟨ws',q',_⟩:=hl' β1 H1 st1 (ExtF.refl _ _) s1 (gd_now ee)
           exact⟨us',ws',q,q'⟩
       cases td:isTupD d with
       | true =>
         cases te:isTupD e' with
         | true =>
           refine .inl (goA hE hS ev fun β1 H1 us x1 s1 r1=>?_)
           obtain⟨a,b,rfl,hl,us',ws',q,q'⟩:=both s1 r1
           rw[td,te] at hl
           rw[td] at q
           rw[te] at q'
           exact⟨a,b,us',ws',rfl,.inr ⟨q,q',h β1 H1 _ x1 s1 (walk_pair (G:=fun us ws H=>SqT X.K H a us∧SqT X.K H b ws) rfl (fun us ws hu hw=>walk_zT (by rw[hu,hw])) hl)⟩⟩
         | false =>
           refine .inr (.inl (goA hE hS ev fun β1 H1 us x1 s1 r1=>?_))
           obtain⟨a,b,rfl,hl,us',ws',q,q'⟩:=both s1 r1
           rw[td,te] at hl
           rw[td] at q
           rw[te] at q'
           exact⟨a,b,us',ws',rfl,q,q',h β1 H1 _ x1 s1 (walk_pair (G:=fun us ws H=>SqT X.K H a us∧SqL X.K H b ws) rfl (fun us ws hu hw=>walk_TL (by rw[hu,hw])) hl)⟩
       | false =>
         cases te:isTupD e' with
         | true =>
           refine .inr (.inr (goA hE hS ev fun β1 H1 us x1 s1 r1=>?_))
           obtain⟨a,b,rfl,hl,us',ws',q,q'⟩:=both s1 r1
           rw[td,te] at hl
           rw[td] at q
           rw[te] at q'
           exact⟨a,b,us',ws',rfl,q,q',h β1 H1 _ x1 s1 (walk_pair (G:=fun us ws H=>SqL X.K H a us∧SqT X.K H b ws) rfl (fun us ws hu hw=>walk_LT (by rw[hu,hw])) hl)⟩
         | false =>
           refine .inl (goA hE hS ev fun β1 H1 us x1 s1 r1=>?_)
           obtain⟨a,b,rfl,hl,us',ws',q,q'⟩:=both s1 r1
           rw[td,te] at hl
           rw[td] at q
           rw[te] at q'
           exact⟨a,b,us',ws',rfl,.inl ⟨q,q',h β1 H1 _ x1 s1 (walk_pair (G:=fun us ws H=>SqL X.K H a us∧SqL X.K H b ws) rfl (fun us ws hu hw=>walk_zip (by rw[hu,hw])) hl)⟩⟩
     · exact h.elim
   · exact h.elim
 · exact .inl (h _)
end
@[simp] theorem gd_ok_nil (st:AS):Gd.ok [] st=True:=eq_true (gd_nil rfl)
/-- a turn of a loop's body,then the rest -/
def Fl.turn (o:Fl) (k:En→AS→Fl):Fl:=match o with
 | .nx env st=>k env st
 | .ct env st=>k env st
 | .bk env st=>.nx env st
 | .rt d st=>.rt d st
 | .exc c fs st=>.exc c fs st
 | .bad=>.bad
@[simp] theorem Fl.turn_nx (env:En) (st:AS) (g:En→AS→Fl):(Fl.nx env st).turn g=g env st:=rfl
@[simp] theorem Fl.turn_rt (d:D) (st:AS) (g:En→AS→Fl):(Fl.rt d st).turn g = .rt d st:=rfl
@[simp] theorem Fl.turn_bk (env:En) (st:AS) (g:En→AS→Fl):(Fl.bk env st).turn g = .nx env st:=rfl
@[simp] theorem Fl.turn_ct (env:En) (st:AS) (g:En→AS→Fl):(Fl.ct env st).turn g=g env st:=rfl
@[simp] theorem Fl.turn_exc (c:Str) (fs:List (Str × D)) (st:AS) (g:En→AS→Fl):(Fl.exc c fs st).turn g = .exc c fs st:=rfl
@[simp] theorem Fl.turn_bad (g:En→AS→Fl):(Fl.bad).turn g = .bad:=rfl
noncomputable instance (gs:Gd) (st:AS):Decidable (Gd.ok gs st):=Classical.propDecidable _
noncomputable def forL (g:D→En→AS→Out En) (body:En→AS→Fl) (gs:Gd):List D→En→AS→Fl
 | [],env,st=>if gs.ok st then .nx env st else .bad
 | d::ds,env,st=>if gs.ok st then (g d env st).fl fun env st=>(body env st).turn (forL g body gs ds)
   else .bad
@[simp] noncomputable def sFor (fi:En→AS→Out (List D × Gd)) (g:D→En→AS→Out En) (body:En→AS→Fl) (env:En) (st:AS):Fl:=(fi env st).fl fun p st=>forL g body p.2 p.1 env st
theorem PostS.ite {K:PySem.W.Frag} {mg:MG} {E:XK} {β:Bt} {H:Hp} {De:Ends} {p:Prop} [Decidable p] {o:Fl} (h:PostS K mg E β H De (if p then o else .bad)):p∧PostS K mg E β H De o:=by
 by_cases hp:p
 · rw[if_pos hp] at h
   exact⟨hp,h⟩
 · rw[if_neg hp] at h
   exact h.elim
section
variable {X:Cx} {E:XK} {tg it:Expr} {body:List Stmt} {fi:En→AS→Out (List D × Gd)} {g:D→En→AS→Out En} {fb:En→AS→Fl} {pos:Pos}
theorem vs_for {ws : List Nat} (hp : PassesOwn (model X.prog X.w) X.A X.env X.xe) (hc : X.calm = true) (hi : VI X E tg it fi) (hg : VG X E tg ws g) (hb : VSs X E body fb)
   (hs:∀ x,foldedSetIterable it X.env x=pure x:=by intro _; rfl):VS X E (.For tg it body [] pos) (sFor fi g fb):=by
 refine weakS (ps_for hp hc hi hg hb hs) fun De σ H ⟨β,env,st,he,hs,h⟩=>?_
 refine fl_bind he hs h fun pr st1 β1 H1 J x1 s1 e1 w h1=>?_
 obtain⟨items,gs⟩:=pr
 refine⟨fun i m σ H=>m=items.length-i∧i≤items.length ∧ ∃ β' env st,EnvR X.K H β' env σ∧Sim X.K X.mgw β' st H∧Ext β1 H1 β' H∧PostS X.K X.mgw E β' H De (forL g fb gs (items.drop i) env st),⟨_,rfl,Nat.zero_le _,β1,env,st1,e1,s1,Ext.refl _ _,h1⟩,?_⟩
 rintro i m σ H ⟨rfl,hi,β2,env,st,he,hs,x,h⟩
 by_cases hlt:i<items.length
 · have ed:items.drop i=items[i]::items.drop (i+1):=List.drop_eq_getElem_cons hlt
   rw[ed,forL] at h
   obtain⟨gk,h⟩:=h.ite
   refine .inr ⟨w.go i β2 H st x.weakF hs gk hlt,fun σ' H'=>∃ β' env st,EnvR X.K H' β' env σ'∧Sim X.K X.mgw β' st H'∧Ext β1 H1 β' H'∧PostS X.K X.mgw E β' H' De (forL g fb gs (items.drop (i+1)) env st),?_,fun v H' y=>?_⟩
   · rintro σ' H' ⟨β',env',st',a,b,c,d⟩
     exact⟨items.length-(i+1),by omega,rfl,hlt,β',env',st',a,b,c,d⟩
   · obtain⟨sm,d,e2,r⟩:=w.yld i β2 H st v H' x.weakF hs gk hlt y
     have e3:d=items[i]:=by
       rw[List.getElem?_eq_getElem hlt] at e2
       exact (Option.some.inj e2).symm
     have x2:Ext β2 H β2 H':=Ext.same sm
     rw[← e3] at h
     refine⟨β2,env,st,d,he.ext x2,hs.same sm,r,fl_post (PostS.ext x2 h) fun env1 st2 β3 H3 σ3 x3 s3 e3 h3=>?_⟩
     refine⟨β3,env1,st2,e3.1,s3,?_⟩
     cases o:fb env1 st2 with
     | nx env2 st3 =>
       simp only[o,Fl.turn] at h3
       exact fun β4 H4 σ4 x4 s4 e4=>⟨β4,env2,st3,e4,s4,((x.trans x2).trans x3).trans x4,PostS.ext x4 h3⟩
     | ct env2 st3 =>
       simp only[o,Fl.turn] at h3
       exact fun β4 H4 σ4 x4 s4 e4=>⟨β4,env2,st3,e4,s4,((x.trans x2).trans x3).trans x4,PostS.ext x4 h3⟩
     | bk env2 st3=>simp only[o,Fl.turn] at h3; exact h3
     | rt d2 st3=>simp only[o,Fl.turn] at h3; exact h3
     | exc c fs st3=>simp only[o,Fl.turn] at h3; exact h3
     | bad=>simp only[o,Fl.turn] at h3; exact h3
 · have e:i=items.length:=by omega
   subst e
   rw[List.drop_length,forL] at h
   obtain⟨gk,h⟩:=h.ite
   exact .inl ⟨w.stop β2 H st x.weakF hs gk,h β2 H σ (Ext.refl _ _) hs he⟩
def whL (c:En→AS→Out Bool) (body:En→AS→Fl):Nat→En→AS→Fl
 | 0,_,_=>.bad
 | n+1,env,st=>(c env st).fl fun b st=>if b=true then (body env st).turn (whL c body n) else .nx env st
theorem whL_more {c:En→AS→Out Bool} {body:En→AS→Fl}:∀ {n:Nat} {env:En} {st:AS},whL c body n env st ≠ .bad → ∀ m,n≤m→whL c body m env st=whL c body n env st
 | 0,env,st,h,m,hm=>absurd rfl h
 | n+1,env,st,h,0,hm=>by omega
 | n+1,env,st,h,m+1,hm=>by
   rw[whL] at h
   rw[whL,whL]
   cases e:c env st with
   | bad=>rfl
   | exc x fs s=>rfl
   | ok b s =>
     rw[e] at h
     simp only[Out.fl_ok] at h ⊢
     cases b with
     | false=>rfl
     | true =>
       simp only[if_true] at h ⊢
       cases o:body env s with
       | nx env2 s2 =>
         simp only[o,Fl.turn] at h ⊢
         exact whL_more h m (by omega)
       | ct env2 s2 =>
         simp only[o,Fl.turn] at h ⊢
         exact whL_more h m (by omega)
       | _=>simp only[Fl.turn]
open Classical in
noncomputable def sWhile (c:En→AS→Out Bool) (body:En→AS→Fl) (env:En) (st:AS):Fl:=if h:∃ n,whL c body n env st ≠ .bad then whL c body h.choose env st else .bad
theorem sWhile_eq {c:En→AS→Out Bool} {body:En→AS→Fl} {env:En} {st:AS} {n:Nat} {r:Fl} (h:whL c body n env st=r) (hr:r ≠ .bad):sWhile c body env st=r:=by
 have ex:∃ n,whL c body n env st ≠ .bad:=⟨n,by rw[h]; exact hr⟩
 unfold sWhile
 rw[dif_pos ex]
 have h2:=ex.choose_spec
 rcases Nat.le_total n ex.choose with z | z
 · rw[whL_more (by rw[h]; exact hr) _ z,h]
 · rw[← whL_more h2 _ z,h]
theorem vs_while {c:Expr} {fc:En→AS→Out Bool} (hp:PassesOwn (model X.prog X.w) X.A X.env X.xe) (hc:VT X E c fc) (hb:VSs X E body fb):VS X E (.While c body [] pos) (sWhile fc fb):=by
 refine weakS (ps_while hp hc hb) fun De σ H ⟨β,env,st,he,hs,h⟩=>?_
 unfold sWhile at h
 split at h
 · rename_i ex
   generalize ex.choose=n at h
   refine⟨fun m σ H=>∃ β env st,EnvR X.K H β env σ∧Sim X.K X.mgw β st H∧PostS X.K X.mgw E β H De (whL fc fb m env st),⟨n,β,env,st,he,hs,h⟩,?_⟩
   rintro m σ H ⟨β,env,st,he,hs,h⟩
   cases m with
   | zero=>exact h.elim
   | succ m =>
     rw[whL] at h
     refine fl_bind he hs h fun b st1 β1 H1 b' x s1 e1 r1 h1=>?_
     obtain rfl:b=b':=r1
     cases b with
     | false=>exact h1 β1 H1 σ (Ext.refl _ _) s1 e1
     | true =>
       simp only[if_true] at h1 ⊢
       refine⟨fun σ' H'=>∃ β env st,EnvR X.K H' β env σ'∧Sim X.K X.mgw β st H'∧PostS X.K X.mgw E β H' De (whL fc fb m env st),fun σ' H' z=>⟨m,Nat.lt_succ_self m,z⟩,β1,env,st1,e1,s1,?_⟩
       cases o:fb env st1 with
       | nx env2 st3 =>
         simp only[o,Fl.turn] at h1
         exact fun β4 H4 σ4 x4 s4 e4=>⟨β4,env2,st3,e4,s4,PostS.ext x4 h1⟩
       | ct env2 st3 =>
         simp only[o,Fl.turn] at h1
         exact fun β4 H4 σ4 x4 s4 e4=>⟨β4,env2,st3,e4,s4,PostS.ext x4 h1⟩
       | bk env2 st3=>simp only[o,Fl.turn] at h1; exact h1
       | rt d2 st3=>simp only[o,Fl.turn] at h1; exact h1
       | exc c fs st3=>simp only[o,Fl.turn] at h1; exact h1
       | bad=>simp only[o,Fl.turn] at h1; exact h1
 · exact h.elim
end
/-- an error within counts as no answer -/
def Out.ne {α:Type} (o:Out α):Out α:=match o with
 | .ok a s=>.ok a s
 | _=>.bad
@[simp] theorem Out.ne_ok {α:Type} (a:α) (s:AS):(Out.ok a s).ne = .ok a s:=rfl
noncomputable def compL (g:D→En→AS→Out En) (t:En→AS→Out Bool) (f:En→AS→Out D) (env:En) (gs:Gd):List D→AS→Out (List D)
 | [],st=>if gs.ok st then .ok [] st else .bad
 | d :: ds, st => if gs.ok st then (g d env st).ne.bind fun env1 st => (t env1 st).ne.bind fun b st =>
     if b=true then (f env1 st).ne.bind fun y st=>(compL g t f env gs ds st).bind fun ys st=>.ok (y::ys) st else compL g t f env gs ds st
   else .bad
@[simp] def wipeD (env:En):List Nat→En
 | []=>env
 | v::vs=>(wipeD env vs).set v none
@[simp] noncomputable def vLc (c:Bool) (vs:List Nat) (fi:En→AS→Out (List D × Gd)) (g:D→En→AS→Out En) (t:En→AS→Out Bool) (f:En→AS→Out D) (env:En) (st:AS):Out D:=(fi env st).bind fun p st =>
 if p.1.length≤sizeLine then (compL g t f (wipeD env vs) p.2 p.1 st).bind fun ys st=>mk c ys st else .bad
section
variable {K:PySem.W.Frag} {mg:MG} {β β':Bt} {H H':Hp} {st:AS} {p:Addr}
mutual
theorem Rep.hide {o:HO} (hp:H p=none):∀ {d:D} {u:V},Rep K H β d u→Rep K (upd H p o) (β.hide p) d u
 | _,_,.non=>.non
 | _,_,.bl b=>.bl b
 | _,_,.int i=>.int i
 | _,_,.str s=>.str s
 | _,_,.cv v=>.cv v
 | _,_,.ref h=>.ref h
 | _,_,.tup n h r=>.tup ⟨n.1,fun z=>(List.mem_cons.mp z).elim (ne_of_none h hp) n.2⟩ ((upd_ne (ne_of_none h hp)).trans h) (Reps.hide hp r)
 | _,_,.ctp h r=>.ctp (h.imp fun o h n=>⟨(upd_ne (ne_of_none h hp)).trans h,n.1,fun z=>(List.mem_cons.mp z).elim (ne_of_none h hp) n.2⟩) (Reps.hide hp r)
 | _,_,.lst n h r=>.lst ⟨n.1,fun z=>(List.mem_cons.mp z).elim (ne_of_none h hp) n.2⟩ ((upd_ne (ne_of_none h hp)).trans h) (Reps.hide hp r)
 | _, _, .fzl h r => .fzl (h.imp (fun z => by
     obtain⟨n,z⟩:=z
     rcases z with h | ⟨w,h⟩
     · exact⟨⟨n.1,fun z=>(List.mem_cons.mp z).elim (ne_of_none h hp) n.2⟩,.inl ((upd_ne (ne_of_none h hp)).trans h)⟩
     · exact⟨⟨n.1,fun z=>(List.mem_cons.mp z).elim (ne_of_none h hp) n.2⟩,.inr ⟨w,(upd_ne (ne_of_none h hp)).trans h⟩⟩) id) (Reps.hide hp r)
theorem Reps.hide {o:HO} (hp:H p=none):∀ {ds:List D} {us:List V},Reps K H β ds us→Reps K (upd H p o) (β.hide p) ds us
 | _,_,.nil=>.nil
 | _,_,.cons r t=>.cons (Rep.hide hp r) (Reps.hide hp t)
end
mutual
/-- what is hidden may change -/
theorem Rep.hid {o:HO} (hp:p∈β.h):∀ {d:D} {u:V},Rep K H β d u→Rep K (upd H p o) β d u
 | _,_,.non=>.non
 | _,_,.bl b=>.bl b
 | _,_,.int i=>.int i
 | _,_,.str s=>.str s
 | _,_,.cv v=>.cv v
 | _,_,.ref h=>.ref h
 | _,_,.tup n h r=>.tup n ((upd_ne (fun z=>n.2 (by rw[z]; exact hp))).trans h) (Reps.hid hp r)
 | _,_,.ctp h r=>.ctp (h.imp fun o h n=>⟨(upd_ne (fun z=>n.2 (by rw[z]; exact hp))).trans h,n⟩) (Reps.hid hp r)
 | _,_,.lst n h r=>.lst n ((upd_ne (fun z=>n.2 (by rw[z]; exact hp))).trans h) (Reps.hid hp r)
 | _, _, .fzl h r => .fzl (h.imp (fun z => by
     obtain⟨n,z⟩:=z
     rcases z with h | ⟨w,h⟩
     · exact⟨n,.inl ((upd_ne (fun z=>n.2 (by rw[z]; exact hp))).trans h)⟩
     · exact⟨n,.inr ⟨w,(upd_ne (fun z=>n.2 (by rw[z]; exact hp))).trans h⟩⟩) id) (Reps.hid hp r)
theorem Reps.hid {o:HO} (hp:p∈β.h):∀ {ds:List D} {us:List V},Reps K H β ds us→Reps K (upd H p o) β ds us
 | _,_,.nil=>.nil
 | _,_,.cons r t=>.cons (Rep.hid hp r) (Reps.hid hp t)
end
mutual
/-- fewer things hidden,more things numbered -/
theorem Rep.weak (hl:∀ (i:Nat) a,β.l[i]? = some a→β'.l[i]? = some a) (ho:∀ a o,H a=some o→β.out a→β'.out a):∀ {d:D} {u:V},Rep K H β d u→Rep K H β' d u
 | _,_,.non=>.non
 | _,_,.bl b=>.bl b
 | _,_,.int i=>.int i
 | _,_,.str s=>.str s
 | _,_,.cv v=>.cv v
 | _,_,.ref h=>.ref (hl _ _ h)
 | _,_,.tup n h r=>.tup (ho _ _ h n) h (Reps.weak hl ho r)
 | _,_,.ctp h r=>.ctp (h.imp fun o h n=>⟨h,ho _ _ h n⟩) (Reps.weak hl ho r)
 | _,_,.lst n h r=>.lst (ho _ _ h n) h (Reps.weak hl ho r)
 | _, _, .fzl h r => .fzl (h.imp (fun z => by
     obtain⟨n,z⟩:=z
     rcases z with h | ⟨w,h⟩
     · exact⟨ho _ _ h n,.inl h⟩
     · exact⟨ho _ _ h n,.inr ⟨w,h⟩⟩) id) (Reps.weak hl ho r)
theorem Reps.weak (hl:∀ (i:Nat) a,β.l[i]? = some a→β'.l[i]? = some a) (ho:∀ a o,H a=some o→β.out a→β'.out a):∀ {ds:List D} {us:List V},Reps K H β ds us→Reps K H β' ds us
 | _,_,.nil=>.nil
 | _,_,.cons r t=>.cons (Rep.weak hl ho r) (Reps.weak hl ho t)
end
theorem CellOk.map {H':Hp} {β':Bt} {a:Addr} {c:C} (f:∀ {ds us},Reps K H β ds us→Reps K H' β' ds us) (e:H' a=H a) (h:CellOk K mg H β a c):CellOk K mg H' β' a c:=by
 cases c with
 | lst ds=>obtain⟨us,q,r⟩:=h; exact⟨us,e.trans q,f r⟩
 | dct kvs=>obtain⟨us,q,r⟩:=h; exact⟨us,e.trans q,r.1,f r.2⟩
 | dtt kvs=>obtain⟨us,q,r⟩:=h; exact⟨us,e.trans q,r.1,f r.2⟩
 | dtf kvs=>obtain⟨us,bs,q,r,t⟩:=h; exact⟨us,bs,e.trans q,⟨r.1,f r.2⟩,f t⟩
 | lck kvs=>obtain⟨z,us,q,r⟩:=h; exact⟨z,us,e.trans q,r.1,f r.2⟩
 | lct kvs=>obtain⟨z,us,q,r⟩:=h; exact⟨z,us,e.trans q,r.1,f r.2⟩
 | lcf kvs=>obtain⟨z,us,bs,q,r,t⟩:=h; exact⟨z,us,bs,e.trans q,⟨r.1,f r.2⟩,f t⟩
 | obj c fs=>obtain⟨Ca,dx,us,m,q,r⟩:=h; exact⟨Ca,dx,us,m,e.trans q,r.1,f r.2⟩
theorem Sim.hide {o:HO} (S:Sim K mg β st H) (hp:H p=none) (ho:∀ us,o ≠ .tup us:=by intro _ z; cases z) (ht:∀ ps,o ≠ .tbl ps:=by intro _ z; cases z) (hco:∀ c q,o≠LamX.CodeO c q:=by intro c q z; unfold LamX.CodeO at z; cases z):Sim K mg (β.hide p) st (upd H p o):=by
 refine⟨S.len,S.nd,fun a ha=>?_,fun i a c h1 h2=>?_,fun q hq=>(S.tab q hq).imp fun a u e n=>⟨(upd_ne (ne_of_none e hp)).trans e,n.1,fun z=>(List.mem_cons.mp z).elim (ne_of_none e hp) n.2⟩⟩
 · rcases List.mem_cons.mp ha with z | z
   · subst z
     exact⟨(S.fresh hp).1,o,upd_same,ho,ht,hco⟩
   · obtain⟨n,u,e,t⟩:=S.hid a z
     exact⟨n,u,(upd_ne (ne_of_none e hp)).trans e,t⟩
 · have q:=S.cell i a c h1 h2
   obtain⟨u,e,_⟩:=q.there
   exact q.map (fun r=>Reps.hide hp r) (upd_ne (ne_of_none e hp))
theorem Sim.hidden {o:HO} (S:Sim K mg β st H) (hp:p∈β.h) (ho:∀ us,o ≠ .tup us:=by intro _ z; cases z) (ht:∀ ps,o ≠ .tbl ps:=by intro _ z; cases z) (hco:∀ c q,o≠LamX.CodeO c q:=by intro c q z; unfold LamX.CodeO at z; cases z):Sim K mg β st (upd H p o):=by
 refine⟨S.len,S.nd,fun a ha=>?_,fun i a c h1 h2=>?_,fun q hq=>(S.tab q hq).imp fun a u e n=>⟨(upd_ne fun z=>n.2 (by rw[z]; exact hp)).trans e,n⟩⟩
 · obtain⟨n,u,e,t⟩:=S.hid a ha
   by_cases z:a=p
   · subst z
     exact⟨n,o,upd_same,ho,ht,hco⟩
   · exact⟨n,u,(upd_ne z).trans e,t⟩
 · have ne:a≠p:=fun z=>(S.hid p hp).1 (by rw[← z]; exact List.mem_of_getElem? h1)
   exact (S.cell i a c h1 h2).map (fun r=>Reps.hid hp r) (upd_ne ne)
theorem Bt.hide_out {a:Addr} (h:(β.hide p).out a):β.out a:=⟨h.1,fun z=>h.2 (List.mem_cons_of_mem _ z)⟩
theorem Sim.unhide (S:Sim K mg (β.hide p) st H):Sim K mg β st H :=
 ⟨S.len,S.nd,fun a ha=>S.hid a (List.mem_cons_of_mem _ ha),fun i a c h1 h2=>CellOk.map (β:=β.hide p) (β':=β) (fun r=>Reps.weak (β:=β.hide p) (β':=β) (fun _ _ z=>z) (fun _ _ _ z=>Bt.hide_out (β:=β) z) r) rfl (S.cell i a c h1 h2),fun q hq=>(S.tab q hq).imp fun a u e n=>⟨e,Bt.hide_out (β:=β) n⟩⟩
end
theorem wipe_eq {σ σ':L2.St} {vs:List Nat} (hl:σ'.length=σ.length) (h:∀ j,j∉vs→σ'[j]? = σ[j]?):wipe σ' vs=wipe σ vs:=by
 have at_:∀ (σ:L2.St) (vs:List Nat) (j:Nat),j∈vs→j<σ.length→(wipe σ vs)[j]? = some none:=by
   intro σ vs
   induction vs with
   | nil=>intro j hj; cases hj
   | cons v vs ih =>
     intro j hj hlt
     unfold wipe
     by_cases z:v=j
     · subst z
       exact List.getElem?_set_self (by rw[wipe_length]; exact hlt)
     · rw[List.getElem?_set_ne z]
       exact ih j ((List.mem_cons.mp hj).elim (fun w=>absurd w.symm z) id) hlt
 apply List.ext_getElem?
 intro j
 by_cases hj:j∈vs
 · by_cases hlt:j<σ.length
   · rw[at_ σ vs j hj hlt,at_ σ' vs j hj (by omega)]
   · rw[List.getElem?_eq_none (by rw[wipe_length]; omega),List.getElem?_eq_none (by rw[wipe_length]; omega)]
 · rw[wipe_out hj,wipe_out hj,h j hj]
theorem EnvR.wipe {K:PySem.W.Frag} {H:Hp} {β:Bt} {env:En} {σ:L2.St} (e:EnvR K H β env σ):∀ vs:List Nat,EnvR K H β (wipeD env vs) (L2.wipe σ vs)
 | []=>e
 | v::vs=>by
   have ih:=EnvR.wipe e vs
   refine⟨by unfold wipeD L2.wipe; rw[List.length_set,List.length_set,ih.len],fun i d h=>?_⟩
   unfold wipeD at h
   unfold L2.wipe
   by_cases z:v=i
   · subst z
     by_cases hlt:v<(wipeD env vs).length
     · rw[List.getElem?_set_self hlt] at h
       cases h
     · rw[List.getElem?_eq_none (by simpa using hlt)] at h
       cases h
   · rw[List.getElem?_set_ne z] at h ⊢
     exact ih.get i d h
end VL
namespace VL
open PySem PySem.Spec PyProof.Rows L2 TB
theorem post_ne {α ρ γ τ : Type} {K : PySem.W.Frag} {mg : MG} {E : XK} {R : Hp → Bt → α → ρ → Prop} {R' : Hp → Bt → γ → τ → Prop} {β0 β : Bt} {H0 H : Hp} {Q : τ → Hp → Prop} {Q' : ρ → Hp → Prop} {o : Out α} {k : α → AS → Out γ}
   (h:Post K mg R' E β0 H0 Q (o.ne.bind k)) (hk:∀ a st1 β1 H1 u,Ext β H β1 H1→Sim K mg β1 st1 H1→R H1 β1 a u→Post K mg R' E β0 H0 Q (k a st1)→Q' u H1):Post K mg R E0 β H Q' o:=by
 cases o with
 | ok a st=>exact fun β1 H1 u x s r=>hk a st β1 H1 u x s r h
 | exc c fs st=>exact h.elim
 | bad=>exact h.elim
section
variable {X:Cx} {E:XK} {tg it elt:Expr} {ifs:List Expr} {fi:En→AS→Out (List D × Gd)} {g:D→En→AS→Out En} {t:En→AS→Out Bool} {f:En→AS→Out D} {pos:Pos} {ws vs:List Nat}
theorem use_lc (c : Bool) (hw : ∀ j ∈ ws, j ∈ vs) {σ : L2.St} {H : Hp} {Q : VK} (h : tV X.K X.mgw E (vLc c vs fi g t f) σ H Q) :
   tLc (tG X.K X.mgw (rI X.K X.mgw) E fi) (tVG X.K X.mgw E0 ws g) (tVT X.K X.mgw E0 t) (tV X.K X.mgw E0 f) vs σ H Q:=by
 obtain⟨β,env,st,he,hs,h⟩:=h
 refine tG_bind he hs h fun pr st1 β1 H1 J x1 s1 e1 w h1 Da nD=>?_
 obtain⟨items,gs⟩:=pr
 obtain⟨hsz,h1⟩:=h1.ite
 have hsz:items.length≤sizeLine:=hsz
 refine⟨fun i m H=>m=items.length-i∧i≤items.length ∧ ∃ β' st acc ys,Ext (β1.hide Da) (upd H1 Da (.lst [])) (β'.hide Da) (upd H Da (.lst []))∧Sim X.K X.mgw (β'.hide Da) st H∧EnvR X.K H (β'.hide Da) env σ∧H Da=some (.lst acc)∧Reps X.K H (β'.hide Da) ys acc∧ys.length≤i ∧
   Post X.K X.mgw (rD X.K) E β1 H1 Q ((compL g t f (wipeD env vs) gs (items.drop i) st).bind fun zs st=>mk c (ys++zs) st),
   ⟨_,rfl,Nat.zero_le _,β1,st1,[],[],by rw[upd_upd]; exact Ext.refl _ _,s1.hide nD,⟨e1.len,fun i d q=>?_⟩,upd_same,.nil,Nat.le_refl _,h1⟩,?_⟩
 · obtain⟨u,h1,h2⟩:=e1.get i d q
   exact⟨u,h1,h2.hide nD⟩
 rintro i m H ⟨rfl,hi,β2,st2,acc,ys,x,s2,e2,hD,rys,hly,hq⟩
 -- how the heap has come from the start,as far as anybody knows
 have xw:ExtF β1 H1 (β2.hide Da) H:=by
   obtain⟨gx,eg⟩:=x.pre
   refine⟨⟨⟨gx,eg⟩,fun a o ha na nt=>?_⟩,fun a z u e=>?_⟩
   · have ne:a≠Da:=ne_of_none ha nD
     obtain⟨q1,q2⟩:=x.kept a o ((upd_ne ne).trans ha) ⟨na.1,fun z=>(List.mem_cons.mp z).elim ne na.2⟩ nt
     exact⟨(upd_ne ne).symm.trans q1,q2⟩
   · have ne:a≠Da:=ne_of_none e nD
     exact (upd_ne ne).symm.trans (x.frz a z u ((upd_ne ne).trans e))
 have xs:Ext β1 H1 β2 H:=by
   obtain⟨gx,eg⟩:=x.pre
   refine⟨⟨gx,eg⟩,List.cons.inj x.hid |>.2,fun a o ha na nt=>?_,fun a z u e=>?_⟩
   · have ne:a≠Da:=ne_of_none ha nD
     obtain⟨q1,q2⟩:=x.kept0 a o ((upd_ne ne).trans ha) na nt
     exact⟨(upd_ne ne).symm.trans q1,q2⟩
   · have ne:a≠Da:=ne_of_none e nD
     exact (upd_ne ne).symm.trans (x.frz a z u ((upd_ne ne).trans e))
 by_cases hlt:i<items.length
 · have ed:items.drop i=items[i]::items.drop (i+1):=List.drop_eq_getElem_cons hlt
   rw[ed,compL] at hq
   by_cases gk:gs.ok st2
   · rw[if_pos gk] at hq
     refine .inr ⟨w.go i (β2.hide Da) H st2 xw s2 gk hlt,fun H'=>∃ (β':Bt) (st:AS) (acc:List V) (ys:List D),Ext (β1.hide Da) (upd H1 Da (.lst [])) (β'.hide Da) (upd H' Da (.lst []))∧Sim X.K X.mgw (β'.hide Da) st H'∧EnvR X.K H' (β'.hide Da) env σ∧H' Da=some (.lst acc)∧Reps X.K H' (β'.hide Da) ys acc∧ys.length≤i+1 ∧
       Post X.K X.mgw (rD X.K) E β1 H1 Q ((compL g t f (wipeD env vs) gs (items.drop (i+1)) st).bind fun zs st=>mk c (ys++zs) st),?_,fun v H' y=>?_⟩
     · rintro H' z
       exact⟨items.length-(i+1),by omega,rfl,hlt,z⟩
     · obtain⟨sm,d,e3,r⟩:=w.yld i (β2.hide Da) H st2 v H' xw s2 gk hlt y
       have e4:d=items[i]:=by
         rw[List.getElem?_eq_getElem hlt] at e3
         exact (Option.some.inj e3).symm
       rw[← e4] at hq
       have x2:Ext (β2.hide Da) H (β2.hide Da) H':=Ext.same sm
       have a2:EnvR X.K H' (β2.hide Da) env σ:=e2.ext x2
       -- a step within keeps Da and what is known
       have keep:∀ {β3:Bt} {H3:Hp},Ext (β2.hide Da) H β3 H3 → ∃ β3':Bt,β3=β3'.hide Da∧H3 Da=some (.lst acc)∧Ext (β1.hide Da) (upd H1 Da (.lst [])) (β3'.hide Da) (upd H3 Da (.lst [])):=by
         intro β3 H3 x3
         have hh:=x3.hid
         obtain⟨l3,h3⟩:=β3
         change h3=Da::β2.h at hh
         subst hh
         have nl:Da∉(β2.hide Da).l:=(s2.hid Da List.mem_cons_self).1
         obtain⟨q1,q2⟩:=x3.kept0 Da _ hD nl (fun _ z=>nomatch z)
         refine⟨⟨l3,β2.h⟩,rfl,q1,x.trans ⟨x3.pre,rfl,fun a o ha na nt=>?_,fun a w u e=>?_⟩⟩
         · by_cases z:a=Da
           · subst z
             rw[upd_same] at ha ⊢
             exact⟨ha,q2⟩
           · rw[upd_ne z] at ha ⊢
             exact x3.kept0 a o ha na nt
         · by_cases z:a=Da
           · subst z
             rw[upd_same] at e
             cases e
           · rw[upd_ne z] at e ⊢
             exact x3.frz a w u e
       refine⟨β2.hide Da,wipeD env vs,st2,d,a2.wipe vs,s2.same sm,r,?_⟩
       have hq2:Post X.K X.mgw (rD X.K) E β1 H1 Q ((g d (wipeD env vs) st2).ne.bind fun env1 st=>(((t env1 st).ne.bind fun b st=>if b=true then (f env1 st).ne.bind fun y st=>(compL g t f (wipeD env vs) gs (items.drop (i+1)) st).bind fun ys st=>.ok (y::ys) st else compL g t f (wipeD env vs) gs (items.drop (i+1)) st)).bind fun zs st=>mk c (ys++zs) st):=by
         cases o:g d (wipeD env vs) st2 with
         | ok a s=>rw[o] at hq; exact hq
         | exc x y z=>rw[o] at hq; exact hq
         | bad=>rw[o] at hq; exact hq
       refine post_ne hq2 fun env1 st3 β3 H3 σ3 x3 s3 e3 h3=>⟨?_,?_⟩
       · have w1:L2.wipe σ3 vs=L2.wipe (L2.wipe σ vs) vs:=wipe_eq e3.2.1 fun j hj=>e3.2.2 j fun z=>hj (hw j z)
         have w2:L2.wipe (L2.wipe σ vs) vs=L2.wipe σ vs:=wipe_eq (wipe_length σ vs) fun j hj=>wipe_out hj
         exact w1.trans w2
       · refine⟨β3,env1,st3,e3.1,s3,?_⟩
         have h3':Post X.K X.mgw (rD X.K) E β1 H1 Q ((t env1 st3).ne.bind fun b st=>(if b=true then (f env1 st).ne.bind fun y st=>(compL g t f (wipeD env vs) gs (items.drop (i+1)) st).bind fun ys st=>.ok (y::ys) st else compL g t f (wipeD env vs) gs (items.drop (i+1)) st).bind fun zs st=>mk c (ys++zs) st):=by
           cases o:t env1 st3 with
           | ok a s=>rw[o] at h3; exact h3
           | exc x y z=>rw[o] at h3; exact h3
           | bad=>rw[o] at h3; exact h3
         refine post_ne h3' fun b st4 β4 H4 b' x4 s4 r4 h4=>?_
         obtain rfl:b=b':=r4
         cases b with
         | false =>
           obtain⟨β4',rfl,q1,q2⟩:=keep ((x2.trans x3).trans x4)
           have xx:=(x2.trans x3).trans x4
           exact⟨β4',st4,acc,ys,q2,s4,e2.ext xx,q1,rys.ext xx,by omega,h4⟩
         | true =>
           have h4':Post X.K X.mgw (rD X.K) E β1 H1 Q ((f env1 st4).ne.bind fun y st=>(compL g t f (wipeD env vs) gs (items.drop (i+1)) st).bind fun zs st=>mk c (ys++(y::zs)) st):=by
             cases o:f env1 st4 with
             | ok a s =>
               simp only[if_true,o,Out.ne_ok,Out.bind_ok] at h4 ⊢
               cases o2:compL g t f (wipeD env vs) gs (items.drop (i+1)) s with
               | ok a2 s2=>rw[o2] at h4; exact h4
               | exc x y z=>rw[o2] at h4; exact h4
               | bad=>rw[o2] at h4; exact h4
             | exc x y z=>simp only[if_true,o] at h4; exact h4
             | bad=>simp only[if_true,o] at h4; exact h4
           refine⟨β4,env1,st4,e3.1.ext x4,s4,post_ne h4' fun yv st5 β5 H5 yu x5 s5 r5 h5=>?_⟩
           have xx:=((x2.trans x3).trans x4).trans x5
           obtain⟨β5',rfl,q1,q2⟩:=keep xx
           have hm:Da∈(β5'.hide Da).h:=List.mem_cons_self
           refine⟨acc,q1,by rw[rys.length]; omega,β5',st5,acc++[yu],ys++[yv],by rw[upd_upd]; exact q2,s5.hidden hm,⟨e2.len,fun i d q=>?_⟩,upd_same,?_,by rw[List.length_append,List.length_singleton]; omega,?_⟩
           · obtain⟨u,h1,h2⟩:=e2.get i d q
             exact⟨u,h1,Rep.hid hm (h2.ext xx)⟩
           · exact Reps.hid hm ((rys.ext xx).append (.cons r5 .nil))
           · simpa using h5
   · rw[if_neg gk] at hq
     exact hq.elim
 · have e:i=items.length:=by omega
   subst e
   rw[List.drop_length,compL] at hq
   by_cases gk:gs.ok st2
   · rw[if_pos gk] at hq
     refine .inl ⟨w.stop (β2.hide Da) H st2 xw s2 gk,?_⟩
     have hq:Post X.K X.mgw (rD X.K) E β1 H1 Q (mk c ys st2):=by simpa using hq
     have su:=s2.unhide
     have nl:Da∉β2.l:=(s2.hid Da List.mem_cons_self).1
     have nb:β1.out Da:=s1.fresh nD
     have nh:Da∉β2.h:=by
       have:=List.cons.inj x.hid |>.2
       rw[this]
       exact nb.2
     have ru:Reps X.K H β2 ys acc:=Reps.weak (β:=β2.hide Da) (β':=β2) (fun _ _ z=>z) (fun _ _ _ z=>Bt.hide_out (β:=β2) z) rys
     cases c with
     | false=>exact hq β2 H (.ref Da) xs su (.lst ⟨nl,nh⟩ hD ru)
     | true =>
       have hl:∀ (i:Nat) a,(β2.hide Da).l[i]? = some a→(β2.push Da).l[i]? = some a:=fun i a z=>by
         have hlt:=(List.getElem?_eq_some_iff.mp z).1
         have hlt:i<β2.l.length:=hlt
         exact (List.getElem?_append_left hlt).trans z
       have ho:∀ a o,H a=some o→(β2.hide Da).out a→(β2.push Da).out a:=fun a o _ n=>⟨fun z=>(List.mem_append.mp z).elim n.1 fun z=>n.2 (by rw[List.mem_singleton.mp z]; exact List.mem_cons_self),fun z=>n.2 (List.mem_cons_of_mem _ z)⟩
       have S':Sim X.K X.mgw (β2.push Da) (st2++[.lst ys]) H:=by
         refine⟨by simp[Bt.push,su.len],?_,fun a ha=>?_,fun j a c' h1 h2=>?_,fun q hq=>(s2.tab q hq).imp fun a u e n=>⟨e,ho a u e n⟩⟩
         · show (β2.l++[Da]).Nodup
           rw[List.nodup_append]
           refine⟨su.nd,by simp,fun a ha b hb=>?_⟩
           rw[List.mem_singleton.mp hb]
           rintro rfl
           exact nl ha
         · obtain⟨n,u,e,t⟩:=su.hid a ha
           refine⟨fun z=>?_,u,e,t⟩
           rcases List.mem_append.mp z with z | z
           · exact n z
           · rw[List.mem_singleton.mp z] at ha
             exact nh ha
         · change (β2.l++[Da])[j]? = some a at h1
           by_cases hj:j<st2.length
           · rw[List.getElem?_append_left (by rw[su.len]; exact hj)] at h1
             rw[List.getElem?_append_left hj] at h2
             exact CellOk.map (β:=β2.hide Da) (fun r=>Reps.weak hl ho r) rfl (s2.cell j a c' h1 h2)
           · have h3:j<(st2++[C.lst ys]).length:=(List.getElem?_eq_some_iff.mp h2).1
             have e:j=st2.length:=by simp at h3; omega
             subst e
             rw[List.getElem?_append_right (by omega),Nat.sub_self] at h2
             rw[List.getElem?_append_right (by rw[su.len]; omega),su.len,Nat.sub_self] at h1
             simp at h1 h2
             subst h1
             subst h2
             exact⟨acc,hD,Reps.weak hl ho rys⟩
       refine hq (β2.push Da) H (.ref Da) ?_ S' (.ref (by rw[← su.len]; simp[Bt.push]))
       obtain⟨gx,eg⟩:=xs.pre
       refine⟨⟨gx++[Da],?_⟩,xs.hid,fun a o ha na nt=>?_,xs.frz⟩
       · show β2.l++[Da]=β1.l++(gx++[Da])
         rw[eg,List.append_assoc]
       · obtain⟨q1,q2⟩:=xs.kept0 a o ha na nt
         refine⟨q1,fun z=>?_⟩
         rcases List.mem_append.mp z with z | z
         · exact q2 z
         · rw[List.mem_singleton.mp z,nD] at ha
           cases ha
   · rw[if_neg gk] at hq
     exact hq.elim
theorem ve_lc (k : Bool) {scope : Scope} {own : List (Str × Nat)} (hw : ∀ j ∈ ws, j ∈ own.map (·.2)) (hc : X.calm = true) (hN : X.N.Nodup) (hi : VI X E tg it fi) (ok : BlkOk X.N X.env.scope scope own)
   (hg:∀ (s:Shared) (H:Hp) (C:Addr) (cl:List (Str × Addr)) (fp:List Addr),VG (X.blk s H scope (compEnvC scope cl C X.env) fp) E0 tg ws g) (ht:∀ (s:Shared) (H:Hp) (C:Addr) (cl:List (Str × Addr)) (fp:List Addr),PTs (X.blk s H scope (compEnvC scope cl C X.env) fp) ifs (tVT X.K X.mgw E0 t))
   (he:∀ (s:Shared) (H:Hp) (C:Addr) (cl:List (Str × Addr)) (fp:List Addr),VE (X.blk s H scope (compEnvC scope cl C X.env) fp) E0 elt f) (hs:∀ x,foldedSetIterable it X.env x=pure x:=by intro _; rfl) :
   VE X E (.ListComp elt [⟨tg,it,ifs,0⟩] scope pos) (vLc k (own.map (·.2)) fi g t f) :=
 weakE (pe_lc hc hN hi ok hg ht he hs) fun σ H Q h=>use_lc k hw h
theorem vs_setLc (k : Bool) {i : Nat} {y : Str} {py spos : Pos} {scope : Scope} {own : List (Str × Nat)} (hw : ∀ j ∈ ws, j ∈ own.map (·.2)) (hc : X.calm = true) (hN : X.N.Nodup) (hy : X.N[i]? = some y) (hyl : X.env.scope.names.lookup y = some .local)
   (hsw:swapsWith (.ListComp elt [⟨tg,it,ifs,0⟩] scope pos) (some (.Name y py)) spos.line X.env=pure true) (hi:VI X E tg it fi) (ok:BlkOk X.N X.env.scope scope own)
   (hg:∀ (s:Shared) (H:Hp) (C:Addr) (cl:List (Str × Addr)) (fp:List Addr),VG (X.blk s H scope (compEnvC scope cl C X.env) fp) E0 tg ws g) (ht:∀ (s:Shared) (H:Hp) (C:Addr) (cl:List (Str × Addr)) (fp:List Addr),PTs (X.blk s H scope (compEnvC scope cl C X.env) fp) ifs (tVT X.K X.mgw E0 t))
   (he:∀ (s:Shared) (H:Hp) (C:Addr) (cl:List (Str × Addr)) (fp:List Addr),VE (X.blk s H scope (compEnvC scope cl C X.env) fp) E0 elt f) (hs:∀ x,foldedSetIterable it X.env x=pure x:=by intro _; rfl) :
   VS X E (.Assign [.Name y py] (.ListComp elt [⟨tg,it,ifs,0⟩] scope pos) spos) (sSet i (vLc k (own.map (·.2)) fi g t f)) :=
 weakS (ps_setLc (g:=tVG X.K X.mgw E0 ws g) (te:=tV X.K X.mgw E0 f) hc hN hy hyl hsw hi ok hg ht he hs) fun De σ H ⟨β,env,st,he,hs,h⟩=>by
   refine use_lc (E:=E) (g:=g) (t:=t) (f:=f) k hw ?_
   exact fl_bind he hs h fun a st1 β1 H1 u x s1 e1 r1 h1=>h1 β1 H1 _ (Ext.refl _ _) s1 (e1.set r1 i)
@[simp] def tYesV (_:En) (st:AS):Out Bool:=.ok true st
theorem vts_nil:PTs X [] (tVT X.K X.mgw E tYesV):=⟨fun pins s σ H Q I h=>(pts_nil (X:=X)).run pins s σ H Q I (by
 obtain⟨β,env,st,he,hs,h⟩:=h
 exact h.here hs rfl)⟩
theorem vts_one {c:Expr} (h:VT X E c t):PTs X [c] (tVT X.K X.mgw E t):=pts_one h
end
mutual
def D.low (n:Nat):D→Bool
 | .tup ds=>D.lows n ds
 | .lst ds=>D.lows n ds
 | .ctp ds=>D.lows n ds
 | .fzl ds=>D.lows n ds
 | .ref i=>decide (i<n)
 | _=>true
def D.lows (n:Nat):List D→Bool
 | []=>true
 | d::ds=>d.low n&&D.lows n ds
end
def C.low (n:Nat):C→Bool
 | .lst ds=>D.lows n ds
 | .dct kvs=>D.lows n (kvs.map (·.2))
 | .dtt kvs=>D.lows n (kvs.map (·.2))
 | .dtf kvs=>D.lows n (kvs.map (·.2))
 | .lck kvs=>D.lows n (kvs.map (·.2))
 | .lct kvs=>D.lows n (kvs.map (·.2))
 | .lcf kvs=>D.lows n (kvs.map (·.2))
 | .obj _ fs=>D.lows n (fs.map (·.2))
theorem kDs_low (n:Nat):∀ ks:List Key,D.lows n (ks.map kD)=true
 | []=>by rw[List.map_nil,D.lows]
 | k::ks=>by
   rw[List.map_cons,D.lows,kDs_low n ks,Bool.and_true]
   cases k <;> simp[kD,D.low]
theorem keys_low (n:Nat):∀ kvs:List (List Key × D),D.lows n (kvs.map fun p=>.ctp (p.1.map kD))=true
 | []=>by rw[List.map_nil,D.lows]
 | p::kvs=>by
   rw[List.map_cons,D.lows,keys_low n kvs,D.low,kDs_low]
   rfl
section
variable {K:PySem.W.Frag} {mg:MG} {β β':Bt} {H H':Hp} {st st':AS}
mutual
theorem Rep.low:∀ {d:D} {u:V},Rep K H β d u→d.low β.l.length=true
 | _,_,.non=>by simp[D.low]
 | _,_,.bl b=>by simp[D.low]
 | _,_,.int i=>by simp[D.low]
 | _,_,.str s=>by simp[D.low]
 | _,_,.cv v=>by simp[D.low]
 | _,_,.ref h=>by
   have:=(List.getElem?_eq_some_iff.mp h).1
   simpa [D.low] using this
 | _,_,.tup n h r=>by rw[D.low]; exact Reps.low r
 | _,_,.ctp h r=>by rw[D.low]; exact Reps.low r
 | _,_,.lst n h r=>by rw[D.low]; exact Reps.low r
 | _,_,.fzl h r=>by rw[D.low]; exact Reps.low r
theorem Reps.low:∀ {ds:List D} {us:List V},Reps K H β ds us→D.lows β.l.length ds=true
 | _,_,.nil=>by rw[D.lows]
 | _,_,.cons r t=>by rw[D.lows,Rep.low r,Reps.low t]; rfl
end
mutual
/-- the younger things are dropped -/
theorem Rep.drop {n:Nat} (hl:∀ (i:Nat) a,i<n→β'.l[i]? = some a→β.l[i]? = some a) (ho:∀ a,β'.out a→β.out a):∀ {d:D} {u:V},Rep K H β' d u→d.low n=true→Rep K H β d u
 | _,_,.non,_=>.non
 | _,_,.bl b,_=>.bl b
 | _,_,.int i,_=>.int i
 | _,_,.str s,_=>.str s
 | _,_,.cv v,_=>.cv v
 | _,_,.ref h,b=>.ref (hl _ _ (by simpa [D.low] using b) h)
 | _,_,.tup n h r,b=>.tup (ho _ n) h (Reps.dropped hl ho r (by rw[D.low] at b; exact b))
 | _,_,.ctp h r,b=>.ctp (h.imp fun o h n=>⟨h,ho _ n⟩) (Reps.dropped hl ho r (by rw[D.low] at b; exact b))
 | _,_,.lst n h r,b=>.lst (ho _ n) h (Reps.dropped hl ho r (by rw[D.low] at b; exact b))
 | _,_,.fzl h r,b=>.fzl (h.imp (fun z=>⟨ho _ z.1,z.2⟩) id) (Reps.dropped hl ho r (by rw[D.low] at b; exact b))
theorem Reps.dropped {n:Nat} (hl:∀ (i:Nat) a,i<n→β'.l[i]? = some a→β.l[i]? = some a) (ho:∀ a,β'.out a→β.out a):∀ {ds:List D} {us:List V},Reps K H β' ds us→D.lows n ds=true→Reps K H β ds us
 | _,_,.nil,_=>.nil
 | _,_,.cons r t,b=>by
   rw[D.lows,Bool.and_eq_true] at b
   exact .cons (Rep.drop hl ho r b.1) (Reps.dropped hl ho t b.2)
end
/-- the younger lists,by what they hold -/
def frzD (st:AS) (n:Nat):Nat→D→D
 | 0,d=>d
 | k+1,d=>match d with
   | .ref i=>if n≤i then (match st[i]? with
     | some (.lst ds)=>.lst (ds.map (frzD st n k))
     | _=>.ref i) else .ref i
   | .tup ds=>.tup (ds.map (frzD st n k))
   | .lst ds=>.lst (ds.map (frzD st n k))
   | d=>d
def OkOver (st st':AS):Prop:=∀ (i:Nat) (c:C),i<st.length→st'[i]? = some c→st[i]? = some c∨c.low st.length=true
noncomputable instance (st st':AS):Decidable (OkOver st st'):=Classical.propDecidable _
/-- what a def tells: the younger things go,if nothing leans on them -/
noncomputable def ret (frz:Nat) (st:AS) (d:D) (st':AS):Out D :=
 if st'.length=st.length then .ok d st'
 else if (frzD st' st.length frz d).low st.length=true∧OkOver st st' then .ok (frzD st' st.length frz d) (st'.take st.length)
 else .ok d st'
theorem frz_ok {n:Nat} (S:Sim K mg β' st' H) (hl:∀ (i:Nat) a,i<n→β'.l[i]? = some a→β.l[i]? = some a) (hn:∀ a∈β.l,∃ i,i<n∧β'.l[i]? = some a) (hh:β.h=β'.h):∀ (k:Nat) (d:D) (u:V),Rep K H β' d u→(frzD st' n k d).low n=true→Rep K H β (frzD st' n k d) u:=by
 have ho:∀ a,β'.out a→β.out a:=fun a z=>⟨fun m=>by
   obtain⟨i,_,e⟩:=hn a m
   exact z.1 (List.mem_of_getElem? e),by rw[hh]; exact z.2⟩
 intro k
 induction k with
 | zero=>exact fun d u r b=>r.drop hl ho b
 | succ k ih =>
   have all:∀ {ds:List D} {us:List V},Reps K H β' ds us→D.lows n (ds.map (frzD st' n k))=true→Reps K H β (ds.map (frzD st' n k)) us:=by
     intro ds
     induction ds with
     | nil=>intro us r _; cases r; exact .nil
     | cons d ds ihd =>
       intro us r b
       rw[List.map_cons,D.lows,Bool.and_eq_true] at b
       cases r with
       | cons r t=>exact .cons (ih _ _ r b.1) (ihd t b.2)
   intro d u r b
   cases r with
   | non=>exact .non
   | bl _=>exact .bl _
   | int _=>exact .int _
   | str _=>exact .str _
   | cv q=>exact .cv q
   | ctp h r=>exact Rep.drop (β':=β') hl ho (.ctp h r) b
   | fzl h r=>exact Rep.drop (β':=β') hl ho (.fzl h r) b
   | tup nm h r =>
     change D.lows n _=true at b
     exact .tup (ho _ nm) h (all r b)
   | lst nm h r =>
     change D.lows n _=true at b
     exact .lst (ho _ nm) h (all r b)
   | ref h =>
     rename_i i a
     unfold frzD at b ⊢
     dsimp only at b ⊢
     by_cases hi:n≤i
     · rw[if_pos hi] at b ⊢
       split at b
       · rename_i ds e
         obtain⟨us,e3,q⟩:=S.cell i a _ h e
         change D.lows n _=true at b
         refine .lst ⟨fun m=>?_,?_⟩ e3 (all q b)
         · obtain⟨j,hj,ej⟩:=hn a m
           obtain⟨l1,e1⟩:=List.getElem?_eq_some_iff.mp h
           obtain⟨l2,e2⟩:=List.getElem?_eq_some_iff.mp ej
           have:i=j:=(List.getElem_inj S.nd).mp (e1.trans e2.symm)
           omega
         · rw[hh]
           exact fun m=>(S.hid a m).1 (List.mem_of_getElem? h)
       · have:i<n:=by simpa [D.low] using b
         omega
     · rw[if_neg hi] at b ⊢
       exact .ref (hl i a (by omega) h)
theorem ret_ok {E:XK} {Q:VK} {frz:Nat} {d:D} {u:V} (S:Sim K mg β st H) (S':Sim K mg β' st' H') (x:Ext β H β' H') (r:Rep K H' β' d u) (h:Post K mg (rD K) E β H Q (ret frz st d st')):Q u H':=by
 unfold ret at h
 split at h
 · exact h β' H' u x S' r
 · split at h
   · rename_i hb
     obtain⟨gx,eg⟩:=x.pre
     have hlen:β.l.length=st.length:=S.len
     have hl:∀ (i:Nat) a,i<st.length→β'.l[i]? = some a→β.l[i]? = some a:=fun i a hi e=>by
       rw[eg,List.getElem?_append_left (by omega)] at e
       exact e
     have hn:∀ a∈β.l,∃ i,i<st.length∧β'.l[i]? = some a:=fun a m=>by
       obtain⟨i,hi,e⟩:=List.getElem_of_mem m
       exact⟨i,by omega,by rw[eg,List.getElem?_append_left hi]; simp[hi,e]⟩
     have ho:∀ a,β'.out a→β.out a:=fun a z=>⟨fun m=>z.1 (by rw[eg]; exact List.mem_append_left _ m),by rw[← x.hid]; exact z.2⟩
     have hle:st.length≤st'.length:=by
       have:=S'.len
       rw[eg,List.length_append] at this
       omega
     refine h β H' u ⟨⟨[],by simp⟩,rfl,fun a o ha na nt=>⟨(x.kept0 a o ha na nt).1,na⟩,x.frz⟩ ?_ (frz_ok S' hl hn x.hid.symm _ d u r hb.1)
     refine⟨by rw[List.length_take]; omega,S.nd,fun a ha=>?_,fun i a c h1 h2=>?_,fun q hq=>(S'.tab q hq).imp fun a u e n=>⟨e,ho a n⟩⟩
     · obtain⟨n,o,e,t⟩:=S.hid a ha
       exact⟨n,o,(x.kept0 a o e n t.2.1).1,t⟩
     · have hi : i < st.length := by
         have:=(List.getElem?_eq_some_iff.mp h1).1
         omega
       rw[List.getElem?_take_of_lt hi] at h2
       have q:=S'.cell i a c (x.at h1) h2
       have bl:c.low st.length=true:=by
         rcases hb.2 i c hi h2 with z | z
         · have q0:=S.cell i a c h1 z
           rw[← hlen]
           cases c with
           | lst ds=>obtain⟨_,_,r⟩:=q0; exact r.low
           | dct ds=>obtain⟨_,_,r⟩:=q0; exact r.2.low
           | dtt ds=>obtain⟨_,_,r⟩:=q0; exact r.2.low
           | dtf ds=>obtain⟨_,_,_,r,_⟩:=q0; exact r.2.low
           | lck ds=>obtain⟨_,_,_,r⟩:=q0; exact r.2.low
           | lct ds=>obtain⟨_,_,_,r⟩:=q0; exact r.2.low
           | lcf ds=>obtain⟨_,_,_,_,r,_⟩:=q0; exact r.2.low
           | obj n fs=>obtain⟨_,_,_,_,_,r⟩:=q0; exact r.2.low
         · exact z
       cases c with
       | lst ds=>obtain⟨us,e,r⟩:=q; exact⟨us,e,r.dropped hl ho bl⟩
       | dct ds=>obtain⟨us,e,r⟩:=q; exact⟨us,e,r.1,r.2.dropped hl ho bl⟩
       | dtt ds=>obtain⟨us,e,r⟩:=q; exact⟨us,e,r.1,r.2.dropped hl ho bl⟩
       | dtf ds=>obtain⟨us,bs,e,r,t⟩:=q; exact⟨us,bs,e,⟨r.1,r.2.dropped hl ho bl⟩,t.dropped hl ho (keys_low _ _)⟩
       | lck ds=>obtain⟨z,us,e,r⟩:=q; exact⟨z,us,e,r.1,r.2.dropped hl ho bl⟩
       | lct ds=>obtain⟨z,us,e,r⟩:=q; exact⟨z,us,e,r.1,r.2.dropped hl ho bl⟩
       | lcf ds=>obtain⟨z,us,bs,e,r,t⟩:=q; exact⟨z,us,bs,e,⟨r.1,r.2.dropped hl ho bl⟩,t.dropped hl ho (keys_low _ _)⟩
       | obj n fs=>obtain⟨Ca,dx,us,m,e,r⟩:=q; exact⟨Ca,dx,us,m,e,r.1,r.2.dropped hl ho bl⟩
   · exact h β' H' u x S' r
end
/-- the def as a plain function: N slots -/
noncomputable def Fl.fin (frz:Nat) (st:AS) (o:Fl):Out D:=match o with
 | .rt d st'=>ret frz st d st'
 | .nx _ st'=>ret frz st .non st'
 | .exc c fs st'=>.exc c fs st'
 | _=>.bad
@[simp] theorem Fl.fin_rt (frz:Nat) (st st':AS) (d:D):(Fl.rt d st').fin frz st=ret frz st d st':=rfl
@[simp] theorem Fl.fin_nx (frz:Nat) (st st':AS) (env:En):(Fl.nx env st').fin frz st=ret frz st .non st':=rfl
@[simp] theorem Fl.fin_exc (frz:Nat) (st st':AS) (c:Str) (fs:List (Str × D)):(Fl.exc c fs st').fin frz st = .exc c fs st':=rfl
@[simp] theorem Fl.fin_bad (frz:Nat) (st:AS):(Fl.bad).fin frz st = .bad:=rfl
@[simp] theorem ret_same (frz:Nat) (st:AS) (d:D):ret frz st d st = .ok d st:=by
 unfold ret
 rw[if_pos rfl]
@[simp] theorem ret_set (frz:Nat) (st:AS) (d:D) (i:Nat) (c:C):ret frz st d (st.set i c) = .ok d (st.set i c):=by
 unfold ret
 rw[if_pos (by simp)]
theorem ret_len {frz:Nat} {st st':AS} {d:D} (h:st'.length=st.length):ret frz st d st' = .ok d st':=by
 unfold ret
 rw[if_pos h]
@[simp] noncomputable def vFn (N:Nat) (frz:Nat) (body:En→AS→Fl) (ds:List D) (st:AS):Out D:=(body (ds.map some++List.replicate (N-ds.length) none) st).fin frz st
def spV (K:PySem.W.Frag) (mg:MG) (n:Nat) (F:List D→AS→Out D):Sp:=fun vs H Q E=>∃ (β:Bt) (ds:List D) (st:AS),vs.length=n∧Reps K H β ds vs∧Sim K mg β st H∧Post K mg (rD K) E β H Q (F ds st)
section
variable {P:Program} {w:World} {K:PySem.W.Frag} {mg:Str→Option Value} {base:Heap}
theorem start_env {H:Hp} {β:Bt} {ds:List D} {vs:List V} {N:List Str} (r:Reps K H β ds vs):EnvR K H β (ds.map some++List.replicate (N.length-ds.length) none) (L2.start N vs):=by
 unfold L2.start
 rw[r.length]
 refine⟨by simp[r.length],fun i d h=>?_⟩
 by_cases hi:i<ds.length
 · rw[List.getElem?_append_left (by simpa using hi),List.getElem?_map] at h
   rw[List.getElem?_append_left (by simpa [r.length] using hi),List.getElem?_map]
   cases e:ds[i]? with
   | none=>rw[e] at h; cases h
   | some d' =>
     rw[e] at h
     cases h
     obtain⟨u,e1,r1⟩:=r.get e
     exact⟨u,by rw[e1]; rfl,r1⟩
 · rw[List.getElem?_append_right (by simpa using hi)] at h
   have:=List.mem_of_getElem? h
   rw[List.mem_replicate] at this
   cases this.2
/-- THE RULE of a def -/
theorem gokV {x qual : Str} {sd : Stmt} {f : Addr} {fd : FuncData} {N ps : List Str} {k : Nat} {body : En → AS → Fl} (frz : Nat) (F : Fun K x qual sd f fd) (S : FnScope N ps (defScope sd))
   (walk:∀ (cdv:Value) (A:Around),A.guards=some [] → ∀ (outer:List Env) (s:Shared) (H:Hp) (E:XK),Room k (A.deeper (envOfC qual (defScope sd) s.heap.objs.size f cdv)) →
     VSs (cxOf (L2.CX P w) P w K mg base N qual (defScope sd) f cdv A outer s H E) E (defBody sd) body) :
   FnG P w K mg base (L2.CX P w) (k+1) f fd ps (spV K ⟨mg,w⟩ ps.length (vFn N.length frz body)):=by
 obtain⟨_,_,_,_,_,_,cdv,_,_,rfl,lk,hcd⟩:=F.ex
 refine gfn lk hcd S (fun vs H Q E h=>?_) fun A hg outer s H vs Q E hr hsp=>?_
 · obtain⟨_,_,_,e,_⟩:=h
   exact e
 · obtain⟨β,ds,st,hl,r,hS,hp⟩:=hsp
   refine⟨_,walk cdv A hg outer s H E hr,β,_,st,start_env r,hS,?_⟩
   unfold vFn Fl.fin at hp
   cases o:body (ds.map some++List.replicate (N.length-ds.length) none) st with
   | rt d st' =>
     rw[o] at hp
     exact fun β' H' u x S' r'=>ret_ok hS S' x r' hp
   | nx env st' =>
     rw[o] at hp
     exact fun β' H' σ' x S' _=>ret_ok hS S' x .non hp
   | exc c fs st'=>rw[o] at hp; exact hp
   | bk env st'=>rw[o] at hp; exact hp.elim
   | ct env st'=>rw[o] at hp; exact hp.elim
   | bad=>rw[o] at hp; exact hp.elim
end
end VL
namespace VL
open PySem PySem.Spec PyProof.Rows L2 TB
/-- where a parameter's value comes from: a place,a name,a default -/
inductive Src where
 | pos (i:Nat) | kw (j:Nat) | dfl (j:Nat)
@[simp] def pick {α:Type} (us ws ds:List α):Src→Option α
 | .pos i=>us[i]?
 | .kw j=>ws[j]?
 | .dfl j=>ds[j]?
@[simp] def asm {α:Type} (us ws ds:List α):List Src→List α
 | []=>[]
 | s::r=>match pick us ws ds s with
   | some a=>a::asm us ws ds r
   | none=>[]
theorem Vals.asm {us ws ds:List V} {us' ws' ds':List Value} (h1:Vals us us') (h2:Vals ws ws') (h3:Vals ds ds'):∀ ss:List Src,Vals (asm us ws ds ss) (asm us' ws' ds' ss)
 | []=>.nil
 | s::r=>by
   have ih:=Vals.asm h1 h2 h3 r
   have one:∀ {xs:List V} {ys:List Value} (i:Nat),Vals xs ys→(∃ x y,xs[i]? = some x∧ys[i]? = some y∧RelV x y)∨(xs[i]? = none∧ys[i]? = none):=by
     intro xs ys i h
     cases e:xs[i]? with
     | none=>exact .inr ⟨rfl,h.none_of e⟩
     | some x =>
       obtain⟨y,e2,r⟩:=h.get e
       exact .inl ⟨x,y,rfl,e2,r⟩
   unfold VL.asm
   have go:(∃ x y,pick us ws ds s=some x∧pick us' ws' ds' s=some y∧RelV x y)∨(pick us ws ds s=none∧pick us' ws' ds' s=none):=by
     cases s with
     | pos i=>exact one i h1
     | kw i=>exact one i h2
     | dfl i=>exact one i h3
   rcases go with⟨x,y,e1,e2,r⟩ | ⟨e1,e2⟩
   · rw[e1,e2]
     exact .cons r ih
   · rw[e1,e2]
     exact .nil
theorem Reps.asm {K:PySem.W.Frag} {H:Hp} {β:Bt} {us ws ds:List D} {us' ws' ds':List V} (h1:Reps K H β us us') (h2:Reps K H β ws ws') (h3:Reps K H β ds ds'):∀ ss:List Src,Reps K H β (asm us ws ds ss) (asm us' ws' ds' ss)
 | []=>.nil
 | s::r=>by
   have ih:=Reps.asm h1 h2 h3 r
   have one:∀ {xs:List D} {ys:List V} (i:Nat),Reps K H β xs ys→(∃ x y,xs[i]? = some x∧ys[i]? = some y∧Rep K H β x y)∨(xs[i]? = none∧ys[i]? = none):=by
     intro xs ys i h
     cases e:xs[i]? with
     | none =>
       refine .inr ⟨rfl,?_⟩
       rw[List.getElem?_eq_none_iff] at e ⊢
       rw[h.length]
       exact e
     | some x =>
       obtain⟨y,e2,r⟩:=h.get e
       exact .inl ⟨x,y,rfl,e2,r⟩
   unfold VL.asm
   have go:(∃ x y,pick us ws ds s=some x∧pick us' ws' ds' s=some y∧Rep K H β x y)∨(pick us ws ds s=none∧pick us' ws' ds' s=none):=by
     cases s with
     | pos i=>exact one i h1
     | kw i=>exact one i h2
     | dfl i=>exact one i h3
   rcases go with⟨x,y,e1,e2,r⟩ | ⟨e1,e2⟩
   · rw[e1,e2]
     exact .cons r ih
   · rw[e1,e2]
     exact .nil
/-- n values by places,the others by the names ks,the rest by the defaults -/
def BindV (K:PySem.W.Frag) (fd:FuncData) (ps:List Str) (n:Nat) (ks:List Str) (ds:List V) (ss:List Src):Prop :=
 ∀ (s:Shared) (us ws:List Value),K.In s.heap→us.length=n→ws.length=ks.length → ∃ ds':List Value,Vals ds ds'∧BindsTo s fd ⟨us,ks.zip ws⟩ (ps.zip (asm us ws ds' ss))
theorem bindV0 {K : PySem.W.Frag} {x qual : Str} {st : Stmt} {f : Addr} {fd : FuncData} {ps : List Str} (F : Fun K x qual st f fd) (n : Nat) (ks : List Str) (ss : List Src)
   (h:∀ (kV doc pm:Value) (an:Option Addr) (cdv ct:Value) (us ws:List Value),us.length=n→ws.length=ks.length→bindArgs (PySem.W.fnOf x qual (defArgs st) (defBody st) (defScope st) .none kV doc pm an cdv ct) ⟨us,ks.zip ws⟩=pure (ps.zip (asm us ws [] ss))):BindV K fd ps n ks [] ss:=by
 obtain⟨oc,od,kV,doc,pm,an,cdv,ct,osl,rfl,lk,hcd⟩:=F.ex
 exact fun s us ws X l1 l2=>⟨[],.nil,.of_eq (h kV doc pm an cdv ct us ws l1 l2)⟩
theorem bindVD {K : PySem.W.Frag} {x qual : Str} {params : Arguments} {body : List Stmt} {scope : Scope} {dvs : List V} {f : Addr} {fd : FuncData} {ps : List Str} (F : FunD K x qual params body scope dvs [] f fd) (hd : dvs ≠ []) (n : Nat) (ks : List Str) (ss : List Src)
   (h:∀ (T:Addr) (kV doc pm:Value) (an:Option Addr) (cdv ct:Value) (us ws its:List Value),us.length=n→ws.length=ks.length→its.length=dvs.length →
     ∃ k,bindArgs (PySem.W.fnOf x qual params body scope (.ref T) kV doc pm an cdv ct) ⟨us,ks.zip ws⟩=seqItems? (.ref T) >>= k∧k (some its.toArray)=pure (ps.zip (asm us ws its ss))):BindV K fd ps n ks dvs ss:=by
 obtain⟨oc,od,dV,kV,doc,pm,an,cdv,ct,osl,rfl,lk,hcd,hD,hK⟩:=F.ex
 rcases hD with⟨e,_⟩ | ⟨_,T,o,its,m,rfl,lT,oT,rT⟩
 · exact absurd e hd
 · intro s us ws X l1 l2
   obtain⟨k,e1,e2⟩:=h T kV doc pm an cdv ct us ws its l1 l2 rT.length.symm
   refine⟨its,rT,BindsTo.of_looks fun M=>?_⟩
   rw[e1]
   exact looks_items X lT oT (.of_pure e2)
section
variable {X:Cx} {E:XK} {k n m:Nat} {f:Addr} {fd:FuncData} {ps ks:List Str} {F:List D→AS→Out D} {dvs:List V} {ds:List D} {ss:List Src} {x:Str} {p pos:Pos} {e:Expr} {es:List Expr} {kws:List Keyword} {fs fk:En→AS→Out (List D)}
abbrev VK' (X:Cx) (E:XK) (kws:List Keyword) (f:En→AS→Out (List D)):Prop:=PK X kws (tVA X.K X.mgw E f)
theorem weakK {t t':TA} (h:PK X kws t) (w:∀ σ H Q,t' σ H Q→t σ H Q):PK X kws t':=⟨fun pos pins s σ H Q I q=>h.run pos pins s σ H Q I (w σ H Q q)⟩
theorem vk_nil:VK' X E [] vNil:=weakK pk_nil fun σ H Q ⟨β,env,st,he,hs,h⟩=>h.here hs .nil
theorem vk_cons {nm:Option Str} {kpos:Pos} {fe:En→AS→Out D} (ha:VE X E e fe) (hr:VK' X E kws fk):VK' X E (⟨nm,e,kpos⟩::kws) (vCons fe fk):=by
 refine weakK (pk_cons ha hr) fun σ H Q ⟨β,env,st,he,hs,h⟩=>?_
 refine tG_bind he hs h fun a st1 β1 H1 u x1 s1 e1 r1 h1=>?_
 refine tG_bind e1 s1 h1 fun as st2 β2 H2 us x2 s2 e2 r2 h2=>?_
 exact h2 β2 H2 _ (Ext.refl _ _) s2 (.cons (r1.ext x2) r2)
theorem run_V {pins : List (Addr × Obj)} {σ : L2.St} {H : Hp} {s : Shared} {Q : VK} {us ws : List Value} {vs zs : List V} {sp : Sp} (G : FnG X.prog X.w X.K X.mg X.base (L2.CX X.prog X.w) k f fd ps sp) (gd : X.A.guards = some []) (hr : Room k X.A) (hb : BindV X.K fd ps n ks dvs ss) (hx : Passes (L2.CX X.prog X.w) X E)
   (I:Inv X pins σ H s) (r:Vals vs us) (rz:Vals zs ws) (l1:vs.length=n) (l2:zs.length=ks.length) (h:sp (asm vs zs dvs ss) H Q E):wpAny (model X.prog X.w) X.A (call (.ref f) us (ks.zip ws)) (EP X pins σ Q) X.xe s:=by
 obtain⟨ds',rd,hb⟩:=hb s us ws I.kIn (r.length.symm.trans l1) (rz.length.symm.trans l2)
 refine wpAny_call (codeAny_mono (G.run X.A gd hr X.stack s H I.env0 ⟨us,ks.zip ws⟩ _ _ hb (Vals.asm r rz rd ss) Q E h) ?_)
 intro res s' hq
 match res,hq with
 | .error e,hq=>exact hx pins σ H s e s' I hq
 | .ok (.ret u),hq=>exact I.after hq
 | .ok .next,hq=>exact hq.elim
 | .ok .brk,hq=>exact hq.elim
 | .ok .cont,hq=>exact hq.elim
@[simp] def vCallA (n m:Nat) (ds:List D) (ss:List Src) (F:List D→AS→Out D) (fs fk:En→AS→Out (List D)) (env:En) (st:AS):Out D:=(fs env st).bind fun xs st=>(fk env st).bind fun zs st=>if xs.length=n∧zs.length=m then F (asm xs zs ds ss) st else .bad
theorem use_V {σ : L2.St} {H : Hp} {Q : VK} {N : Nat} (hN : ∀ us ws : List V, us.length = n → ws.length = m → (asm us ws dvs ss).length = N) (hd : ∀ H β, Reps X.K H β ds dvs) (h : tV X.K X.mgw E (vCallA n m ds ss F fs fk) σ H Q) :
   tVA X.K X.mgw E fs σ H fun vs H1=>tVA X.K X.mgw E fk σ H1 fun zs H2=>vs.length=n∧zs.length=m∧spV X.K X.mgw N F (asm vs zs dvs ss) H2 Q E:=by
 obtain⟨β,env,st,hE,hS,h⟩:=h
 refine tG_bind hE hS h fun xs st1 β1 H1 us x1 s1 e1 r1 h1=>?_
 refine tG_bind e1 s1 h1 fun zs st2 β2 H2 ws x2 s2 e2 r2 h2=>?_
 obtain⟨⟨l1,l2⟩,h2⟩:=h2.ite
 have l1':us.length=n:=r1.length.trans l1
 have l2':ws.length=m:=r2.length.trans l2
 exact⟨l1',l2',β2,_,st2,hN us ws l1' l2',Reps.asm (r1.ext x2) r2 (hd H2 β2) ss,s2,h2⟩
/-- f(e,..) -/
theorem ve_callP {N : Nat} (G : FnG X.prog X.w X.K X.mg X.base (L2.CX X.prog X.w) k f fd ps (spV X.K X.mgw N F)) (gd : X.A.guards = some []) (hr : Room k X.A) (hg : Gl X x) (hm : X.mg x = some (.ref f)) (hk : PySem.W.keepIn X.K (.ref f) = true)
   (hb:BindV X.K fd ps n [] dvs ss) (hN:∀ us ws:List V,us.length=n→ws.length=0→(asm us ws dvs ss).length=N) (hd:∀ H β,Reps X.K H β ds dvs) (hx:Passes (L2.CX X.prog X.w) X E) (ha:VA X E (e::es) fs)
   (he:starEach (e::es) X.env=(false,eval e X.env)::starEach es X.env:=by rfl) (hdb:(x==("__debug__" : Str))=false:=by decide) (hpl:(backTo pos (starEach es X.env)).any (·.1)=false:=by rfl) :
   VE X E (.Call (.Name x p) (e::es) [] pos) (vCallA n 0 ds ss F fs vNil):=by
 constructor
 intro pins s σ H Q I h
 have h:=use_V (E:=E) hN hd h
 refine wpAny_Call_Name_kw (ld_glob I hg hm (PySem.W.callWith_K (h₀:=X.base) I.ok.mod.kin hk (thn (ha.run pos pins s σ H _ I h) ?_) he hpl) hdb)
 rintro us s1 ⟨vs,H1,I1,r,q⟩
 obtain⟨zs,H2,I2,rz,q2⟩:∃ zs H2,Inv X pins σ H2 s1∧Vals zs ([]:List Value)∧(vs.length=n∧zs.length=0∧spV X.K X.mgw N F (asm vs zs dvs ss) H2 Q E):=by
   obtain⟨β,env,st,hE,hS,q⟩:=q
   exact⟨[],H1,I1,.nil,q.here hS .nil⟩
 exact⟨I2.kIn,run_V G gd hr hb hx I2 r rz q2.1 q2.2.1 q2.2.2⟩
/-- f(e,..,k=v,..) -/
theorem ve_callK {N : Nat} (G : FnG X.prog X.w X.K X.mg X.base (L2.CX X.prog X.w) k f fd ps (spV X.K X.mgw N F)) (gd : X.A.guards = some []) (hr : Room k X.A) (hg : Gl X x) (hm : X.mg x = some (.ref f)) (hk : PySem.W.keepIn X.K (.ref f) = true)
   (hb:BindV X.K fd ps n ks dvs ss) (hN:∀ us ws:List V,us.length=n→ws.length=ks.length→(asm us ws dvs ss).length=N) (hd:∀ H β,Reps X.K H β ds dvs) (hx:Passes (L2.CX X.prog X.w) X E) (ha:VA X E (e::es) fs) (hkw:VK' X E kws fk)
   (hml:ks.length=m) (hall:(backToKw pos (keywordEach kws X.env)).all (·.1.isSome)=true:=by rfl) (hks:(backToKw pos (keywordEach kws X.env)).filterMap (·.1)=ks:=by rfl)
   (hdb:(x==("__debug__" : Str))=false:=by decide) (he:starEach (e::es) X.env=(false,eval e X.env)::starEach es X.env:=by rfl)
   (hpl:((backTo pos (starEach (e::es) X.env)).any (·.1)||(backToKw pos (keywordEach kws X.env)).any (·.1.isNone))=false:=by rfl) :
   VE X E (.Call (.Name x p) (e::es) kws pos) (vCallA n m ds ss F fs fk):=by
 subst hml
 constructor
 intro pins s σ H Q I h
 have h:=use_V (E:=E) hN hd h
 refine wpAny_Call_Name_kw (ld_glob I hg hm ?_ hdb)
 refine PySem.W.callWith_KW (h₀:=X.base) I.ok.mod.kin hk hall (thn (ha.run pos pins s σ H _ I h) ?_) hpl he
 rintro us s1 ⟨vs,H1,I1,r,q⟩
 refine thn (hkw.run pos pins s1 σ H1 _ I1 q) ?_
 rintro ws s2 ⟨zs,H2,I2,rz,l1,l2,q2⟩
 rw[hks]
 exact⟨I2.kIn,run_V G gd hr hb hx I2 r rz l1 l2 q2⟩
end
theorem hu65 {k:Nat} {A:Around} (hr:Room k A):A.units+65<cLine:=by
 have:=hr.un
 omega
section
variable {P:Program} {w:World} {K:PySem.W.Frag} {mg:Str→Option Value} {base:Heap}
theorem gokVD {x qual : Str} {sd : Stmt} {f : Addr} {fd : FuncData} {dvs : List V} {kws : List (Str × V)} {N ps : List Str} {k : Nat} {body : En → AS → Fl} (frz : Nat) (F : FunD K x qual (defArgs sd) (defBody sd) (defScope sd) dvs kws f fd) (S : FnScope N ps (defScope sd))
   (walk:∀ (cdv:Value) (A:Around),A.guards=some [] → ∀ (outer:List Env) (s:Shared) (H:Hp) (E:XK),Room k (A.deeper (envOfC qual (defScope sd) s.heap.objs.size f cdv)) →
     VSs (cxOf (L2.CX P w) P w K mg base N qual (defScope sd) f cdv A outer s H E) E (defBody sd) body) :
   FnG P w K mg base (L2.CX P w) (k+1) f fd ps (spV K ⟨mg,w⟩ ps.length (vFn N.length frz body)):=by
 obtain⟨oc,od,dV,kV,doc,pm,an,cdv,ct,osl,rfl,lk,hcd,_,_⟩:=F.ex
 refine gfn lk hcd S (fun vs H Q E h=>?_) fun A hg outer s H vs Q E hr hsp=>?_
 · obtain⟨_,_,_,e,_⟩:=h
   exact e
 · obtain⟨β,ds,st,hl,r,hS,hp⟩:=hsp
   refine⟨_,walk cdv A hg outer s H E hr,β,_,st,start_env r,hS,?_⟩
   unfold vFn Fl.fin at hp
   cases o:body (ds.map some++List.replicate (N.length-ds.length) none) st with
   | rt d st' =>
     rw[o] at hp
     exact fun β' H' u x S' r'=>ret_ok hS S' x r' hp
   | nx env st' =>
     rw[o] at hp
     exact fun β' H' σ' x S' _=>ret_ok hS S' x .non hp
   | exc c fs st'=>rw[o] at hp; exact hp
   | bk env st'=>rw[o] at hp; exact hp.elim
   | ct env st'=>rw[o] at hp; exact hp.elim
   | bad=>rw[o] at hp; exact hp.elim
/-- what is never asked -/
theorem FnG.never {n k:Nat} {f:Addr} {fd:FuncData} {ps:List Str}:FnG P w K mg base (L2.CX P w) k f fd ps (spV K ⟨mg,w⟩ n fun _ _=>.bad) :=
 ⟨fun xs H R Z h=>by
   obtain⟨_,_,_,_,_,_,h⟩:=h
   exact h.elim,fun A _ _ outer s H _ args us vs _ _ Q E h=>by
   obtain⟨_,_,_,_,_,_,h⟩:=h
   exact h.elim⟩
def spLaw (K:PySem.W.Frag):Sp:=fun vs H Q _=>∃ (a:Addr) (ns:List Int),vs=[.ref a]∧SqL K H a (ns.map V.int)∧ns.length≤63 ∧ ∀ H',Q (.bl true) H'
/-- .. with tables of code objects that are void -/
def spLawT (K:PySem.W.Frag):Sp:=fun vs H Q _=>∃ (a:Addr) (ns:List Int),vs=[.ref a]∧SqL K H a (ns.map V.int)∧ns.length≤63∧(∀ p∈tabL K,H p.1=some (.tbl #[])) ∧ ∀ H',Q (.bl true) H'
theorem endVT {k:Nat} {f:Addr} {fd:FuncData} {F:List D→AS→Out D} {x:Str} (law:∀ ns:List Int,ns.length≤63 → ∃ st,F [.fzl (ns.map D.int)] [] = .ok (.bl true) st) (G:FnG P w K mg base (L2.CX P w) k f fd [x] (spV K ⟨mg,w⟩ 1 F)):FnG P w K mg base CX0 k f fd [x] (spLawT K):=by
 refine⟨fun xs H R Z h=>?_,fun A hg hr outer s H e0 args us vs hb r Q E h=>?_⟩
 · obtain⟨_,_,rfl,_⟩:=h
   rfl
 · obtain⟨a,ns,rfl,hq,hl,hT,q⟩:=h
   obtain⟨st,ev⟩:=law ns hl
   have sp:spV K ⟨mg,w⟩ 1 F [.ref a] H Q E0:=by
     refine⟨⟨[],[]⟩,[.fzl (ns.map D.int)],[],rfl,.cons (.fzl (hq.imp (fun z=>⟨⟨by simp,by simp⟩,z⟩) id) (reps_ints ns)) .nil,⟨rfl,List.nodup_nil,(fun a ha=>nomatch ha),(fun i a c h1=>nomatch h1),fun p hp=>⟨⟨by simp,by simp⟩,#[],hT p hp,True.intro,fun pos cv hc=>by
       have z:codeAmong pos []=some cv:=hc
       simp[codeAmong] at z⟩⟩,?_⟩
     rw[ev]
     intro β' H' u _ _ r
     cases r
     exact q H'
   refine codeAny_mono (G.run A hg hr outer s H e0 args us _ hb r Q E0 sp) ?_
   intro res s' hq
   match res,hq with
   | .error e,hq =>
     obtain⟨_,_,_,_,_,_,_,_,_,_,_,_,z⟩:=hq
     exact z.elim
   | .ok (.ret u),hq=>exact hq
   | .ok .next,hq=>exact hq.elim
   | .ok .brk,hq=>exact hq.elim
   | .ok .cont,hq=>exact hq.elim
theorem endV {k:Nat} {f:Addr} {fd:FuncData} {F:List D→AS→Out D} {x:Str} (hT:tabL K=[]) (law:∀ ns:List Int,ns.length≤63 → ∃ st,F [.fzl (ns.map D.int)] [] = .ok (.bl true) st) (G:FnG P w K mg base (L2.CX P w) k f fd [x] (spV K ⟨mg,w⟩ 1 F)):FnG P w K mg base CX0 k f fd [x] (spLaw K):=by
 have G2:=endVT law G
 refine⟨fun xs H R Z h=>?_,fun A hg hr outer s H e0 args us vs hb r Q E h=>?_⟩
 · obtain⟨_,_,rfl,_⟩:=h
   rfl
 · obtain⟨a,ns,rfl,hq,hl,q⟩:=h
   exact G2.run A hg hr outer s H e0 args us _ hb r Q E ⟨a,ns,rfl,hq,hl,by rw[hT]; simp,q⟩
end
end VL
namespace VL
open PySem PySem.Spec PyProof.Rows L2 TB
section
variable {X:Cx} {E:XK} {o e:Expr} {es:List Expr} {fo fe:En→AS→Out D} {fs:En→AS→Out (List D)} {pos:Pos}
theorem om_extend:OkM X E "list.extend" extD:=⟨_,(show MtR X "list.extend" rExtend from mt_extend).or (show MtR X "list.extend" (rExtT X.K) from mt_extendT),fun β H st x xs u us Q S rx rs h=>by
 unfold extD at h
 split at h
 · rename_i y
   obtain⟨v,rfl,rv⟩:=one_ok rs
   split at h
   · rename_i zs ez
     obtain⟨p,ws,ds,r,ds',rfl,e,q,ek,hq⟩:=putL_ok S rx h
     split at ek
     · rename_i hl
       cases ek
       cases rv with
       | tup n2 e2 r2 =>
         cases ez
         exact .inr ⟨p,_,ws,_,rfl,rfl,e,.inl (.inl e2),by rw[q.length,r2.length]; exact hl,hq _ _ .non (q.append r2)⟩
       | lst n2 e2 r2 =>
         obtain⟨b,zs',e3,e4,r4⟩:=S.listsW (.lst n2 e2 r2) ez
         cases e3
         exact .inl ⟨p,_,ws,zs',rfl,rfl,e,e4,by rw[q.length,r4.length]; exact hl,hq _ _ .non (q.append r4)⟩
       | ref er =>
         obtain⟨b,zs',e3,e4,r4⟩:=S.listsW (.ref er) ez
         cases e3
         exact .inl ⟨p,_,ws,zs',rfl,rfl,e,e4,by rw[q.length,r4.length]; exact hl,hq _ _ .non (q.append r4)⟩
       | _=>cases ez
     · cases ek
   · exact h.elim
 · exact h.elim⟩
@[simp] def popAtD (x:D) (xs:List D) (st:AS):Out D:=match xs with
 | [.int i]=>if -(2^63)≤i∧i<2^63 then putL x st fun ds=>(match ixN ds.length i with
   | some k=>(match ds[k]? with
     | some d=>some (d,ds.eraseIdx k)
     | none=>none)
   | none=>none) else .bad
 | _=>.bad
theorem Reps.erase {K:PySem.W.Frag} {H:Hp} {β:Bt}:∀ {ds:List D} {us:List V} (i:Nat),Reps K H β ds us→Reps K H β (ds.eraseIdx i) (us.eraseIdx i)
 | _,_,_,.nil=>.nil
 | _,_,0,.cons _ t=>t
 | _,_,i+1,.cons q t=>.cons q (Reps.erase i t)
@[simp] def insD (x:D) (xs:List D) (st:AS):Out D:=match xs with
 | [.int i,y]=>if 0≤i∧i<2^63 then putL x st fun ds=>if ds.length<sizeLine then some (.non,ds.take i.toNat++[y]++ds.drop i.toNat) else none else .bad
 | _=>.bad
/-- the first place of a thing -/
@[simp] def idxD (x:D) (xs:List D) (st:AS):Out D:=match xs with
 | [y]=>(match listOf st x with
   | some ds=>if (scalD y&&ds.all scalD)=true then (match ds.findIdx? (fun d=>eqvD d y) with
     | some j=>.ok (.int (j:Nat)) st
     | none=>.bad) else .bad
   | none=>.bad)
 | _=>.bad
def sortI (ns:List Int):List Int:=ns.mergeSort fun a b=>decide (a≤b)
theorem sortI_perm (ns:List Int):(sortI ns).Perm ns:=List.mergeSort_perm _ _
theorem sortI_pw (ns:List Int):(sortI ns).Pairwise (·≤·):=by
 have h:=List.pairwise_mergeSort (le:=fun a b:Int=>decide (a≤b)) (fun a b c h1 h2=>by simp at *; omega) (fun a b=>by simp; omega) ns
 exact h.imp fun z=>by simpa using z
theorem sortI_eq {ns ms:List Int} (h1:ms.Perm ns) (h2:ms.Pairwise (·≤·)):ms=sortI ns :=
 List.Perm.eq_of_pairwise (fun a b _ _ x y=>Int.le_antisymm x y) h2 (sortI_pw ns) (h1.trans (sortI_perm ns).symm)
def leStr (a b:Str):Bool:=!ltStr b a
def sortS (xs:List Str):List Str:=xs.mergeSort leStr
theorem str_ext {a b:Str} (h:a.cps.toList=b.cps.toList):a=b:=by
 cases a; cases b
 simp only[Str.mk.injEq]
 exact Array.toList_inj.mp h
theorem leStr_iff {a b:Str}:leStr a b=true↔¬ b.cps.toList<a.cps.toList:=by simp[leStr,ltStr]
theorem leStr_trans (a b c:Str) (h1:leStr a b=true) (h2:leStr b c=true):leStr a c=true:=by
 rw[leStr_iff] at *
 intro h
 rcases Nat.lt_or_ge 0 1 with _ | z
 · have t1:a.cps.toList≤b.cps.toList:=List.not_lt.mp h1
   have t2:b.cps.toList≤c.cps.toList:=List.not_lt.mp h2
   exact (List.not_lt.mpr (List.le_trans t1 t2)) h
 · omega
theorem leStr_total (a b:Str):(leStr a b||leStr b a)=true:=by
 rw[Bool.or_eq_true,leStr_iff,leStr_iff]
 rcases List.le_total a.cps.toList b.cps.toList with h | h
 · exact .inl (List.not_lt.mpr h)
 · exact .inr (List.not_lt.mpr h)
theorem leStr_anti {a b:Str} (h1:leStr a b=true) (h2:leStr b a=true):a=b:=by
 rw[leStr_iff] at *
 exact str_ext (List.le_antisymm (List.not_lt.mp h1) (List.not_lt.mp h2))
theorem sortS_perm (xs:List Str):(sortS xs).Perm xs:=List.mergeSort_perm _ _
theorem sortS_pw (xs:List Str):(sortS xs).Pairwise (fun a b=>leStr a b=true):=List.pairwise_mergeSort leStr_trans leStr_total xs
theorem rising_pw:∀ {x:Str} {r:List Str},risingS x r=true→(x::r).Pairwise (fun a b=>leStr a b=true)
 | x,[],_=>List.pairwise_singleton _ _
 | x,y::r,h=>by
   rw[risingS,Bool.and_eq_true] at h
   have ih:=rising_pw h.2
   have hxy:leStr x y=true:=by
     rw[leStr_iff]
     have h1:=h.1
     rw[ltCps_eq] at h1
     simpa using h1
   refine List.pairwise_cons.mpr ⟨fun z hz=>?_,ih⟩
   rcases List.mem_cons.mp hz with e | e
   · rw[e]; exact hxy
   · exact leStr_trans x y z hxy ((List.pairwise_cons.mp ih).1 z e)
theorem sortS_eq {xs ys:List Str} (h1:ys.Perm xs) (h2:sortedS ys=true):ys=sortS xs:=by
 have pw:ys.Pairwise (fun a b=>leStr a b=true):=by
   cases ys with
   | nil=>exact List.Pairwise.nil
   | cons x r=>exact rising_pw h2
 exact List.Perm.eq_of_pairwise (fun a b _ _ x y=>leStr_anti x y) pw (sortS_pw xs) (h1.trans (sortS_perm xs).symm)
@[simp] def strsOf:List D→Option (List Str)
 | []=>some []
 | .str i::ds=>(strsOf ds).map (i::·)
 | _::_=>none
theorem strsOf_map:∀ ns:List Str,strsOf (ns.map D.str)=some ns
 | []=>rfl
 | n::ns=>by rw[List.map_cons,strsOf,strsOf_map ns]; rfl
theorem Reps.strs {K:PySem.W.Frag} {H:Hp} {β:Bt}:∀ {ds:List D} {xs:List Str} {us:List V},strsOf ds=some xs→Reps K H β ds us→us=xs.map V.str
 | [],_,_,e,.nil=>by
   cases e
   rfl
 | d::ds,bs,_,e,.cons r t=>by
   cases d with
   | str b =>
     rw[strsOf] at e
     cases e2:strsOf ds with
     | none=>rw[e2] at e; cases e
     | some cs =>
       rw[e2] at e
       cases e
       cases r
       rw[Reps.strs e2 t]
       rfl
   | _=>simp[strsOf] at e
theorem reps_strs {K:PySem.W.Frag} {H:Hp} {β:Bt}:∀ ns:List Str,Reps K H β (ns.map D.str) (ns.map V.str)
 | []=>.nil
 | n::ns=>.cons (.str n) (reps_strs ns)
@[simp] def sortD (c:Bool) (x:D) (st:AS):Out D:=match listOf st x with
 | some ds=>(match intsOf ds with
   | some ns=>mk c ((sortI ns).map D.int) st
   | none=>(match strsOf ds with
     | some xs=>if xs.length<64 then mk c ((sortS xs).map D.str) st else .bad
     | none=>.bad))
 | none=>.bad
@[simp] def vMS (g:D→List D→AS→Out D) (fo:En→AS→Out D) (fs:En→AS→Out (List D)) (env:En) (st:AS):Out D:=(fo env st).bind fun x st=>(match x with
 | .str _=>(fs env st).bind fun xs st=>g x xs st
 | _=>.bad)
@[simp] def joinD (x:D) (xs:List D) (st:AS):Out D:=match x with
 | .str a=>(match xs with
   | [y]=>(match seqOf st y with
     | some ds=>(match strsOf ds with
       | some ys=>if (ys.map (·.length)).sum+ys.length*a.length≤16777216 then .ok (.str (Txt.join a ys)) st else .bad
       | none=>.bad)
     | none=>.bad)
   | _=>.bad)
 | _=>.bad
@[simp] def findD (x:D) (xs:List D) (st:AS):Out D:=match x,xs with
 | .str a,[.str b]=>.ok (.int (Txt.find a b)) st
 | _,_=>.bad
@[simp] def sidxD (x:D) (xs:List D) (st:AS):Out D:=match x,xs with
 | .str a,[.str b]=>(match Builtin.Str.occurrences a b 0 a.length 1 with
   | i::_=>.ok (.int (i:Nat)) st
   | []=>.bad)
 | _,_=>.bad
/-- int(x) -/
@[simp] def intD (x:D) (st:AS):Out D:=match x with
 | .int i=>.ok (.int i) st
 | .bl b=>.ok (.int (if b=true then 1 else 0)) st
 | _=>.bad
theorem psets {K : PySem.W.Frag} {mg : MG} {β : Bt} {H : Hp} {st : AS} {De : Ends} {σ : L2.St} {env : En} {o i v : D} {uo ui uv : V} (S : Sim K mg β st H) (he : EnvR K H β env σ) (ro : Rep K H β o uo) (ri : Rep K H β i ui) (rv : Rep K H β v uv)
   (h:PostS K mg E β H De ((setD o i v st).fl fun _ st=>.nx env st)):rSetL uo ui uv H (fun H'=>De.nx σ H')∨rSetD uo ui uv H (fun H'=>De.nx σ H') :=
 set_ok (E:=E) S ro ri rv (fl_post (R:=fun _ _ _ _=>True) h fun _ st1 β1 H1 _ x s1 _ h1=>h1 β1 H1 σ (Ext.refl _ _) s1 (he.ext x))
@[simp] def sAugS (fo fi:En→AS→Out D) (op:D→D→AS→Out D) (fe:En→AS→Out D) (env:En) (st:AS):Fl:=(fo env st).fl fun o st=>(fi env st).fl fun i st=>(match i with
 | .int k=>(match listOf st o with
   | some ds=>(match (if 0≤k then ds[k.toNat]? else none) with
     | some x=>(fe env st).fl fun y st=>(op x y st).fl fun z st=>(setD o i z st).fl fun _ st=>.nx env st
     | none=>.bad)
   | none=>.bad)
 | _=>.bad)
theorem vs_augS (hu : X.A.units + 65 < cLine) {i : Expr} {fi : En → AS → Out D} {op : Operator} {gi : D → D → AS → Out D} {tpos : Pos} (ho : VE X E o fo) (hi : VE X E i fi) (he : VE X E e fe) (hp : OkI X E op gi)
   (ha:∀ ov iv new,augStore i ov iv new=(do holding [new,ov,iv] (setItem ov iv new); release [new,ov,iv] []; pure .next):=by intros; rfl):VS X E (.AugAssign (.Subscript o i tpos) op e pos) (sAugS fo fi gi fe):=by
 obtain⟨r,h1,h2⟩:=hp
 refine weakS (ps_augS ho hi get_list he h1 (psetOr set_list (set_dict (Nat.lt_of_le_of_lt (by omega) hu))) ha) fun De σ H ⟨β,env,st,hE,hS,h⟩=>?_
 refine fl_bind hE hS h fun ov st1 β1 H1 uo x1 s1 e1 r1 h3=>?_
 refine fl_bind e1 s1 h3 fun iv st2 β2 H2 ui x2 s2 e2 r2 h4=>?_
 cases r2 with
 | int k =>
   dsimp only at h4
   split at h4
   · rename_i ds ed
     split at h4
     · rename_i x ex
       by_cases hk:0≤k
       · rw[if_pos hk] at ex
         obtain⟨a,us,rfl,hq,rr⟩:=s2.lists (r1.ext x2) ed
         obtain⟨u,eu,ru⟩:=rr.get ex
         refine⟨a,us,k.toNat,u,rfl,by rw[Int.toNat_of_nonneg hk],hq,eu,?_⟩
         refine fl_bind e2 s2 h4 fun y st3 β3 H3 w x3 s3 e3 r3 h5=>?_
         refine h2 β3 H3 st3 x y u w _ s3 (ru.ext x3) r3 (fl_post h5 fun z st4 β4 H4 t x4 s4 r4 h6=>?_)
         exact psets s4 (e3.ext x4) (((r1.ext x2).ext x3).ext x4) (.int k) r4 h6
       · rw[if_neg hk] at ex
         cases ex
     · exact h4.elim
   · exact h4.elim
 | _=>exact h4.elim
end
end VL
namespace VL
open PySem PySem.Spec PyProof.Rows L2 TB
section
variable {K:PySem.W.Frag} {mg:MG} {E:XK} {β β' β2:Bt} {H H' H2:Hp} {st:AS} {p:Addr} {o0 o:HO}
theorem Reps.made {ds:List D} {us:List V} (r:Reps K H2 (β2.hide p) ds us):Reps K (upd H2 p o) (β2.push p) ds us:=by
 have r1:Reps K (upd H2 p o) (β2.hide p) ds us:=Reps.hid (β:=β2.hide p) List.mem_cons_self r
 refine Reps.weak (β:=β2.hide p) (β':=β2.push p) (fun i a z=>?_) (fun a u _ n=>⟨fun z=>(List.mem_append.mp z).elim n.1 fun z=>n.2 (by rw[List.mem_singleton.mp z]; exact List.mem_cons_self),fun z=>n.2 (List.mem_cons_of_mem _ z)⟩) r1
 have hlt:i<β2.l.length:=(List.getElem?_eq_some_iff.mp z).1
 exact (List.getElem?_append_left hlt).trans z
theorem Sim.made {c:C} (S2:Sim K mg (β2.hide p) st H2) (n1:p∉β2.l) (n2:p∉β2.h) (hc:CellOk K mg (upd H2 p o) (β2.push p) p c):Sim K mg (β2.push p) (st++[c]) (upd H2 p o):=by
 have hl:β2.l.length=st.length:=S2.len
 refine⟨by simp[Bt.push,hl],?_,fun a ha=>?_,fun j a c' h1 h2=>?_,fun q hq=>(S2.tab q hq).imp fun a u e n=>⟨(upd_ne fun z=>n.2 (by rw[z]; exact List.mem_cons_self)).trans e,fun z=>(List.mem_append.mp z).elim n.1 fun z=>n.2 (by rw[List.mem_singleton.mp z]; exact List.mem_cons_self),fun z=>n.2 (List.mem_cons_of_mem _ z)⟩⟩
 · show (β2.l++[p]).Nodup
   rw[List.nodup_append]
   refine⟨S2.nd,by simp,fun a ha b hb=>?_⟩
   rw[List.mem_singleton.mp hb]
   rintro rfl
   exact n1 ha
 · obtain⟨n,u,e,t⟩:=S2.hid a (List.mem_cons_of_mem _ ha)
   have ne:a≠p:=fun z=>n2 (by rw[← z]; exact ha)
   refine⟨fun z=>?_,u,(upd_ne ne).trans e,t⟩
   rcases List.mem_append.mp z with z | z
   · exact n z
   · exact ne (List.mem_singleton.mp z)
 · change (β2.l++[p])[j]? = some a at h1
   by_cases hj:j<st.length
   · rw[List.getElem?_append_left (by rw[hl]; exact hj)] at h1
     rw[List.getElem?_append_left hj] at h2
     have ne:a≠p:=fun z=>n1 (by rw[← z]; exact List.mem_of_getElem? h1)
     exact CellOk.map (β:=β2.hide p) (fun r=>Reps.made r) (upd_ne ne) (S2.cell j a c' h1 h2)
   · have h3:j<(st++[c]).length:=(List.getElem?_eq_some_iff.mp h2).1
     have e:j=st.length:=by simp at h3; omega
     subst e
     rw[List.getElem?_append_right (by omega),Nat.sub_self] at h2
     rw[List.getElem?_append_right (by rw[hl]; omega),hl,Nat.sub_self] at h1
     simp at h1 h2
     subst h1
     subst h2
     exact hc
theorem Ext.made (x:Ext β H β2 H2) (hp:H p=none) (n1:p∉β2.l):Ext β H (β2.push p) (upd H2 p o):=by
 obtain⟨g,eg⟩:=x.pre
 refine⟨⟨g++[p],by show β2.l++[p]=_; rw[eg,List.append_assoc]⟩,x.hid,fun a u ha na nt=>?_,fun a z u e=>(upd_ne (ne_of_none e hp)).trans (x.frz a z u e)⟩
 have ne:a≠p:=ne_of_none ha hp
 obtain⟨q1,q2⟩:=x.kept0 a u ha na nt
 refine⟨(upd_ne ne).trans q1,fun z=>?_⟩
 rcases List.mem_append.mp z with z | z
 · exact q2 z
 · exact ne (List.mem_singleton.mp z)
theorem XRep.unhide {c:Str} {fs:List (Str × D)} {cls:Value} {d:Option Addr} (h:XRep K mg H (β.hide p) c fs cls d):XRep K mg H β c fs cls d:=by
 obtain⟨Ca,dx,vs,h1,h2,h3,h4,h5,h6,h7⟩:=h
 exact⟨Ca,dx,vs,h1,h2,h3,Bt.hide_out h4,h5,h6,Reps.weak (β:=β.hide p) (β':=β) (fun _ _ z=>z) (fun _ _ _ z=>Bt.hide_out (β:=β) z) h7⟩
end
def mergeKD {κ:Type} [DecidableEq κ] (kvs more:List (κ × D)):List (κ × D):=more.foldl (fun acc kv=>putKD acc kv.1 kv.2) kvs
@[simp] theorem mergeKD_nil {κ:Type} [DecidableEq κ] (kvs:List (κ × D)):mergeKD kvs []=kvs:=rfl
@[simp] theorem mergeKD_cons {κ:Type} [DecidableEq κ] (kvs:List (κ × D)) (p:κ × D) (r:List (κ × D)):mergeKD kvs (p::r)=mergeKD (putKD kvs p.1 p.2) r:=rfl
theorem RepK.nil {κ:Type} {K:PySem.W.Frag} {H:Hp} {β:Bt}:RepK (κ:=κ) K H β [] []:=⟨rfl,.nil⟩
theorem RepK.cons {κ:Type} {K:PySem.W.Frag} {H:Hp} {β:Bt} {p:κ × D} {q:κ × V} {ps:List (κ × D)} {qs:List (κ × V)} (h:RepK K H β (p::ps) (q::qs)):p.1=q.1∧Rep K H β p.2 q.2∧RepK K H β ps qs:=by
 obtain⟨h1,h2⟩:=h
 simp only[List.map_cons,List.cons.injEq] at h1
 cases h2 with
 | cons r t=>exact⟨h1.1,r,h1.2,t⟩
/-- keys of pairs -/
@[simp] def keysP:List (D × D)→Option (List (Key × D))
 | []=>some []
 | p::r=>match keyD p.1,keysP r with
   | some k,some ks=>some ((k,p.2)::ks)
   | _,_=>none
abbrev FE:=En→AS→Out D
@[simp] def vPs:List (FE × FE)→En→AS→Out (List (D × D))
 | []=>fun _ st=>.ok [] st
 | p::r=>fun env st=>(p.1 env st).bind fun x st=>(p.2 env st).bind fun y st=>(vPs r env st).bind fun ps st=>.ok ((x,y)::ps) st
@[simp] def gDisp (ps:List (D × D)) (st:AS):Out D:=match keysP ps with
 | some kvs=>if kvs.length≤15 then .ok (.ref st.length) (st++[.dct (mergeKD [] kvs)]) else .bad
 | none=>.bad
@[simp] def vDisp (prs:List (FE × FE)) (env:En) (st:AS):Out D:=(vPs prs env st).bind gDisp
section
variable {X:Cx} {E:XK} {pos:Pos}
theorem EnvR.hide {K:PySem.W.Frag} {H:Hp} {β:Bt} {env:En} {σ:L2.St} {p:Addr} {o:HO} (e:EnvR K H β env σ) (hp:H p=none):EnvR K (upd H p o) (β.hide p) env σ:=⟨e.len,fun i d q=>by
 obtain⟨u,h1,h2⟩:=e.get i d q
 exact⟨u,h1,h2.hide hp⟩⟩
@[simp] def vDNew (_:En) (st:AS):Out D:=.ok (.ref st.length) (st++[.dct []])
@[simp] def vDNewT (_:En) (st:AS):Out D:=.ok (.ref st.length) (st++[.dtt []])
theorem ve_dnewT:VE X E (.Dict [] [] pos) vDNewT:=weakE pe_dnewT fun σ H Q ⟨β,env,st,he,hs,h⟩ p hp =>
 h (β.push p) _ (.ref p) (ext_push hp) (hs.push hp ⟨[],upd_same,rfl,.nil⟩) (.ref (by rw[← hs.len]; simp[Bt.push]))
@[simp] def isDict (st:AS) (d:D):Bool:=match d with
 | .ref i=>(match st[i]? with
   | some (.dct _)=>true
   | some (.dtt _)=>true
   | _=>false)
 | _=>false
variable {o e:Expr} {es:List Expr} {fo fe:FE} {fs:En→AS→Out (List D)} {name:Str} {apos cpos:Pos} {id:String}
@[simp] def vMD (g:D→List D→AS→Out D) (fo:FE) (fs:En→AS→Out (List D)) (env:En) (st:AS):Out D:=(fo env st).bind fun x st=>if isDict st x=true then (fs env st).bind fun xs st=>g x xs st else .bad
@[simp] def vMD0 (g:D→List D→AS→Out D) (fo:FE) (env:En) (st:AS):Out D:=(fo env st).bind fun x st=>if isDict st x=true then g x [] st else .bad
/-- what a dict has at a key; none: no dict,no key -/
@[simp] def lookD (st:AS) (x y:D):Option (Option D):=match x with
 | .ref i=>(match st[i]? with
   | some (.dct kvs)=>(match keyD y with
     | some k=>some (valK kvs k)
     | none=>none)
   | some (.dtt kvs)=>(match y with
     | .tup ks=>(match keysD ks with
       | some k=>some (valK kvs k)
       | none=>none)
     | _=>none)
   | _=>none)
 | _=>none
@[simp] def getD1 (x:D) (xs:List D) (st:AS):Out D:=match xs with
 | [y]=>(match lookD st x y with
   | some r=>.ok (r.getD .non) st
   | none=>.bad)
 | _=>.bad
@[simp] def getD2 (x:D) (xs:List D) (st:AS):Out D:=match xs with
 | [y,z]=>(match lookD st x y with
   | some r=>.ok (r.getD z) st
   | none=>.bad)
 | _=>.bad
@[simp] def updD (x:D) (xs:List D) (st:AS):Out D:=match x,xs with
 | .ref i,[.ref j]=>if i≠j then (match st[i]?,st[j]? with
   | some (.dct ks),some (.dct ls)=>if ks.length+ls.length≤sizeLine then .ok .non (st.set i (.dct (mergeKD ks ls))) else .bad
   | _,_=>.bad) else .bad
 | _,_=>.bad
end
end VL
namespace VL
open PySem PySem.Spec PyProof.Rows L2 TB
@[simp] def keyV:Key→D
 | .inl i=>.int i
 | .inr x=>.str x
/-- what is walked: keys,values,pairs -/
inductive Wk where
 | keys | vals | items
@[simp] def wkD (w:Wk) (kvs:List (Key × D)):List D:=match w with
 | .keys=>kvs.map fun kv=>keyV kv.1
 | .vals=>kvs.map (·.2)
 | .items=>kvs.map fun kv=>.tup [keyV kv.1,kv.2]
@[simp] def itK (w:Wk) (d:D) (st:AS):Out (List D × Gd):=match d with
 | .ref i=>(match st[i]? with
   | some (.lck kvs)=>.ok (wkD w kvs,[(i,.lck kvs)]) st
   | _=>.bad)
 | _=>.bad
theorem RepK.at {κ:Type} {K:PySem.W.Frag} {H:Hp} {β:Bt}:∀ {kvs:List (κ × D)} {us:List (κ × V)} {i:Nat} {k:κ} {v:V},RepK K H β kvs us→us[i]? = some (k,v) → ∃ d,kvs[i]? = some (k,d)∧Rep K H β d v
 | [],us,i,k,v,h,e=>by
   have:us=[]:=List.length_eq_zero_iff.mp h.length
   subst this
   simp at e
 | p::kvs,[],i,k,v,h,e=>by simp at e
 | p::kvs,q::us,0,k,v,h,e=>by
   obtain⟨e1,r,_⟩:=h.cons
   simp at e
   subst e
   exact⟨p.2,congrArg some (Prod.ext e1 rfl),r⟩
 | p::kvs,q::us,i+1,k,v,h,e=>by
   obtain⟨_,_,t⟩:=h.cons
   obtain⟨d,h1,h2⟩:=RepK.at (i:=i) t (by simpa using e)
   exact⟨d,by simpa using h1,h2⟩
theorem RepK.extW {κ:Type} {K:PySem.W.Frag} {β β':Bt} {H H':Hp} (x:ExtW β H β' H') {fs:List (κ × D)} {vs:List (κ × V)} (h:RepK K H β fs vs):RepK K H' β' fs vs:=⟨h.1,h.2.extW x⟩
/-- a dict's cell,locked -/
@[simp] def lkC:C→Option C
 | .dct kvs=>some (.lck kvs)
 | .dtt kvs=>some (.lct kvs)
 | .dtf kvs=>some (.lcf kvs)
 | _=>none
@[simp] def ulC:C→Option C
 | .lck kvs=>some (.dct kvs)
 | .lct kvs=>some (.dtt kvs)
 | .lcf kvs=>some (.dtf kvs)
 | _=>none
@[simp] def unlS (i:Nat) (st:AS):Option AS:=match st[i]? with
 | some (.lck kvs)=>some (st.set i (.dct kvs))
 | some (.lct kvs)=>some (st.set i (.dtt kvs))
 | some (.lcf kvs)=>some (st.set i (.dtf kvs))
 | _=>none
def Fl.unl (i:Nat) (o:Fl):Fl:=match o with
 | .nx env st=>(match unlS i st with
   | some st'=>.nx env st'
   | none=>.bad)
 | .rt d st=>(match unlS i st with
   | some st'=>.rt d st'
   | none=>.bad)
 | .bk env st=>(match unlS i st with
   | some st'=>.bk env st'
   | none=>.bad)
 | .ct env st=>(match unlS i st with
   | some st'=>.ct env st'
   | none=>.bad)
 | .exc c fs st=>.exc c fs st
 | .bad=>.bad
def Out.unl {α:Type} (i:Nat) (o:Out α):Out α:=match o with
 | .ok a st=>(match unlS i st with
   | some st'=>.ok a st'
   | none=>.bad)
 | .exc c fs st=>.exc c fs st
 | .bad=>.bad
@[simp] def sLock (fe:FE) (f:En→AS→Fl) (env:En) (st:AS):Fl:=match fe env st with
 | .ok (.ref i) _=>(match st[i]? with
   | some (.dct kvs)=>(f env (st.set i (.lck kvs))).unl i
   | some (.dtt kvs)=>(f env (st.set i (.lct kvs))).unl i
   | some (.dtf kvs)=>(f env (st.set i (.lcf kvs))).unl i
   | some (.lck _)=>f env st
   | some (.lct _)=>f env st
   | some (.lcf _)=>f env st
   | _=>.bad)
 | _=>.bad
@[simp] def vLock {α:Type} (fe:FE) (f:En→AS→Out α) (env:En) (st:AS):Out α:=match fe env st with
 | .ok (.ref i) _=>(match st[i]? with
   | some (.dct kvs)=>(f env (st.set i (.lck kvs))).unl i
   | some (.dtt kvs)=>(f env (st.set i (.lct kvs))).unl i
   | some (.dtf kvs)=>(f env (st.set i (.lcf kvs))).unl i
   | some (.lck _)=>f env st
   | some (.lct _)=>f env st
   | some (.lcf _)=>f env st
   | _=>.bad)
 | _=>.bad
section
variable {K:PySem.W.Frag} {mg:MG} {E:XK} {β β':Bt} {H H':Hp} {st:AS} {a:Addr} {i:Nat} {us:List (Key × V)} {kvs:List (Key × D)} {od:Obj} {c c':C} {u:HO}
theorem EnvR.extW {env:En} {σ:L2.St} (e:EnvR K H β env σ) (x:ExtW β H β' H'):EnvR K H' β' env σ:=⟨e.len,fun i d h=>by
 obtain⟨u,h1,h2⟩:=e.get i d h
 exact⟨u,h1,h2.extW x⟩⟩
end
section
variable {X:Cx} {E:XK} {s:Stmt} {e:Expr} {fe f:FE} {fs:En→AS→Fl}
@[simp] def dctOf (st:AS) (d:D):Option (List (Key × D)):=match d with
 | .ref i=>(match st[i]? with
   | some (.dct kvs)=>some kvs
   | some (.lck kvs)=>some kvs
   | _=>none)
 | _=>none
@[simp] def lstKD (c:Bool) (x:D) (st:AS):Out D:=match dctOf st x with
 | some kvs=>mk c (kvs.map fun kv=>keyV kv.1) st
 | none=>lstD c x st
end
end VL
namespace VL
open PySem PySem.Spec PyProof.Rows L2 TB
def kOf (e:Int × Value):Key:=match e.2 with
 | .int k _=>.inl k
 | .str x _=>.inr x
 | _=>.inl 0
def GdK (wd:World) (e:Int × Value):Prop:=keyIs (kOf e) e.2=true∧e.1=keyH wd (kOf e)
/-- the set at a has the members mem,each once,n of them -/
def SetM (wd:World) (hp:Heap) (a:Addr) (mem:Key→Bool) (n:Nat):Prop :=
 ∃ ob es ep tb,hp.get? a=some ob∧ob.ExactSet∧ob.data = .set es ep tb∧(∀ e∈es.toList,GdK wd e)∧(es.toList.map kOf).Nodup∧(∀ k,mem k=true↔k∈es.toList.map kOf) ∧
   es.size<scanBound∧tb.fits es.size=true∧es.size=n∧Ris tb.place.toList∧(wd.params.followText "set-order" = true∨tb.led=true)
def inK (ks:List Key) (k:Key):Bool:=ks.any fun z=>decide (z=k)
theorem inK_iff {ks:List Key} {k:Key}:inK ks k=true↔k∈ks:=by
 unfold inK
 rw[List.any_eq_true]
 exact⟨fun ⟨z,h,e⟩=>by rw[← of_decide_eq_true e]; exact h,fun h=>⟨k,h,decide_eq_true rfl⟩⟩
theorem kOf_is {k:Key} {v:Value} {h:Int} (e:keyIs k v=true):kOf (h,v)=k:=by
 rcases keyIs_shape e with⟨i,t,rfl,rfl⟩ | ⟨x,t,rfl,rfl⟩ <;> rfl
theorem key_scans {k:Key} {v:Value} (e:keyIs k v=true):v.scannable=true:=by
 rcases keyIs_shape e with⟨i,t,rfl,rfl⟩ | ⟨x,t,rfl,rfl⟩ <;> rfl
section
variable {pg:Program} {wd:World} {hp hp':Heap} {a:Addr} {mem:Key→Bool} {n:Nat}
theorem SetM.moved (m:SetM wd hp a mem n) (k:∀ o,hp.get? a=some o→hp'.get? a=some o):SetM wd hp' a mem n :=
 let ⟨ob,es,ep,tb,h1,h2⟩:=m
 ⟨ob,es,ep,tb,k ob h1,h2⟩
theorem SetM.by {mem':Key→Bool} (m:SetM wd hp a mem n) (e:∀ k,mem' k=mem k):SetM wd hp a mem' n:=(funext e:mem'=mem) ▸ m
theorem gd_elems {es:List (Int × Value)} (g:∀ e∈es,GdK wd e):ElemsOf (mixKind pg wd) es:=fun e he=>⟨⟨kOf e,(g e he).1,(g e he).2⟩,key_scans (g e he).1⟩
theorem gd_is {e:Int × Value} (g:GdK wd e) (k:Key):(mixKind pg wd).is k e.2=true↔kOf e=k:=by
 constructor
 · intro z
   exact (mixKind pg wd).inj e.2 _ _ g.1 z
 · rintro rfl
   exact g.1
theorem gd_in {es:List (Int × Value)} (g:∀ e∈es,GdK wd e) (k:Key):k∈es.map kOf ↔ ∃ e∈es,(mixKind pg wd).is k e.2=true:=by
 refine List.mem_map.trans ⟨fun ⟨e,he,z⟩=>⟨e,he,(gd_is (g e he) k).mpr z⟩,fun ⟨e,he,z⟩=>⟨e,he,(gd_is (g e he) k).mp z⟩⟩
end
section
variable {pg:Program} {wd:World} {Ar:Around} {Ex:Value→Shared→Prop} {sh:Shared} {a:Addr} {mem:Key→Bool} {n:Nat}
/-- the new table is stored,and laid anew where it is too full -/
theorem setM_tail {gv : Bool → Sem Unit} (hgv : ∀ (b : Bool) (s1 : Shared) (R' : Unit → Shared → Prop), R' () s1 → wpAny (model pg wd) Ar (gv b) R' Ex s1)
   {ob:Obj} {es:Array (Int × Value)} {ep:Nat} {tb:SetTable} (hob:sh.heap.get? a=some ob) (hexs:ob.ExactSet) (hdt:ob.data = .set es ep tb)
   {e1:Array (Int × Value)} {t1:SetTable} {mem':Key→Bool} (gd:∀ e∈e1.toList,GdK wd e) (ndp:(e1.toList.map kOf).Nodup) (hme:∀ k,mem' k=true↔k∈e1.toList.map kOf)
   (hbd:e1.size<scanBound) (hfi:t1.fits e1.size=true) (hri:Ris t1.place.toList) (hle:wd.params.followText "set-order" = true∨t1.led=true) {dm:Bool} {R:Option Bool→Shared→Prop}
   (fin:∀ hp',Heap.SameBut a sh.heap hp'→SetM wd hp' a mem' e1.size→R (some true) { sh with heap:=hp' }) :
   wpAny (model pg wd) Ar (do
       storeSet a e1 t1
       if (!dm && t1.tooFull) = true then do
           gv (relayAll t1 e1 (SetTable.grown e1.size)).2.2
           storeSet a (relayAll t1 e1 (SetTable.grown e1.size)).1 (relayAll t1 e1 (SetTable.grown e1.size)).2.1
           pure (some true)
         else pure (some true)) R Ex sh:=by
 have at1:=store_at (es':=e1) (t':=t1) hob hdt
 have same1:=Heap.SameBut.update sh.heap a (Obj.putSet e1 t1)
 refine wpAny_bind (wpAny_storeSet_of hob hdt ?_ (fits_of_scanBound hbd))
 split
 · have q1:=relayAll_perm t1 e1 (SetTable.grown e1.size)
   have q2:=relayAll_fits t1 e1 (SetTable.grown e1.size)
   have q3:=relayAll_ris t1 e1 (SetTable.grown e1.size)
   have q4:=relayAll_led t1 e1 (SetTable.grown e1.size)
   revert q1 q2 q3 q4
   generalize relayAll t1 e1 (SetTable.grown e1.size)=laid
   obtain⟨e2,t2,gw⟩:=laid
   intro q1 q2 q3 q4
   dsimp only at q1 q2 q3 q4 ⊢
   have z2:e2.size=e1.size:=by
     have:=q1.length_eq
     simpa using this
   have b2:e2.size<scanBound:=z2 ▸ hbd
   refine wpAny_bind (hgv _ _ _ (wpAny_bind (wpAny_storeSet_of at1 rfl ?_ (fits_of_scanBound b2))))
   have at2:=store_at (es':=e2) (t':=t2) at1 rfl
   refine wpAny_pure (fin _ (same1.trans (Heap.SameBut.update _ a _)) ⟨_,e2,_,t2,at2,hexs,rfl,fun e he=>gd e (q1.mem_iff.mp he),(q1.map kOf).nodup_iff.mpr ndp,fun k=>(hme k).trans (q1.map kOf).mem_iff.symm,b2,q2,z2,q3,?_⟩)
   exact hle.imp id fun z=>q4.trans z
 · exact wpAny_pure (fin _ same1 ⟨_,e1,_,t1,at1,hexs,rfl,gd,ndp,hme,hbd,hfi,rfl,hri,hle⟩)
theorem setM_put {k : Key} {v : Value} {Q : Bool → Shared → Prop} (hk : keyIs k v = true) (m : SetM wd sh.heap a mem n) (room : n + 1 < scanBound)
   (fin:∀ hp',Heap.SameBut a sh.heap hp'→SetM wd hp' a (fun j=>mem j||decide (j=k)) (if mem k=true then n else n+1)→Q (!mem k) { sh with heap:=hp' }) :
   wpAny (model pg wd) Ar (setAddHashed a v ((mixKind pg wd).hash k)) Q Ex sh:=by
 obtain⟨ob,es,ep,tb,hob,hexs,hdt,gd,ndp,hme,hbd,hfi,hn,hri,hle⟩:=m
 have hv:(mixKind pg wd).is k v=true:=hk
 have scn:v.scannable=true:=key_scans hk
 have els:ElemsOf (mixKind pg wd) es.toList:=gd_elems gd
 unfold setAddHashed setAddHashedIn
 refine wpAny_holding (wpAny_bind (wpAny_setState_of hob hdt hfi ?_))
 dsimp only
 rw[byScan_of scn hbd els]
 simp only[↓reduceIte]
 unfold setAddByScan
 refine wpAny_bind (wpAny_bind (wpAny_rule (wpAny_bind (wpAny_setScan_of hv hob hdt hfi els ?_))))
 cases hix:List.findIdx? (fun e=>(mixKind pg wd).is k e.2) es.toList with
 | some j =>
   dsimp only
   obtain⟨hj,pj,_⟩:=List.findIdx?_eq_some_iff_getElem.mp hix
   have yes:mem k=true:=(hme k).mpr ((gd_in (pg:=pg) gd k).mpr ⟨es.toList[j],List.getElem_mem hj,pj⟩)
   refine wpAny_pure (wpAny_pure ?_)
   have q:=fin sh.heap (Heap.SameBut.refl a sh.heap) ⟨ob,es,ep,tb,hob,hexs,hdt,gd,ndp,fun i=>by
     rw[Bool.or_eq_true,decide_eq_true_eq]
     refine⟨fun z=>(hme i).mp (z.elim id fun e=>e.symm ▸ yes),fun z=>.inl ((hme i).mpr z)⟩,hbd,hfi,by rw[if_pos yes]; exact hn,hri,hle⟩
   rw[yes] at q
   exact q
 | none =>
   dsimp only
   have nk:k∉es.toList.map kOf:=fun z=>by
     obtain⟨e,he,q⟩:=(gd_in (pg:=pg) gd k).mp z
     have:=List.findIdx?_eq_none_iff.mp hix e he
     simp[q] at this
   have no:mem k=false:=by
     by_cases z:mem k=true
     · exact absurd ((hme k).mp z) nk
     · simpa using z
   have q1:=layNew_perm tb es ((mixKind pg wd).hash k) v
   have q2:=layNew_fits tb es ((mixKind pg wd).hash k) v
   have q3:=layNew_ris tb es ((mixKind pg wd).hash k) v hri
   have q4:=layNew_led tb es ((mixKind pg wd).hash k) v
   revert q1 q2 q3 q4
   generalize layNew tb es ((mixKind pg wd).hash k) v=laid
   obtain⟨e1,t1,dm,gw⟩:=laid
   intro q1 q2 q3 q4
   dsimp only at q1 q2 q3 q4 ⊢
   rw[Array.toList_push] at q1
   have pc:e1.toList.Perm ((keyH wd k,v)::es.toList):=q1.trans (List.perm_append_singleton _ _)
   have pk:(e1.toList.map kOf).Perm (k::es.toList.map kOf):=by
     have:=pc.map kOf
     rwa [List.map_cons,kOf_is hk] at this
   have gd1:∀ e∈e1.toList,GdK wd e:=fun e he=>(List.mem_cons.mp (pc.mem_iff.mp he)).elim (fun z=>by
     subst z
     refine⟨?_,?_⟩
     · rw[kOf_is hk]; exact hk
     · rw[kOf_is hk]) (gd e)
   have nd1:(e1.toList.map kOf).Nodup:=pk.nodup_iff.mpr (List.nodup_cons.mpr ⟨nk,ndp⟩)
   have me1:∀ i,(mem i||decide (i=k))=true↔i∈e1.toList.map kOf:=fun i=>by
     rw[pk.mem_iff,List.mem_cons,Bool.or_eq_true,decide_eq_true_eq,hme i,or_comm]
   have z1:e1.size=n+1:=by
     have:=pc.length_eq
     simp at this
     omega
   have b1:e1.size<scanBound:=z1 ▸ room
   have l1:wd.params.followText "set-order" = true∨t1.led=true:=hle.imp id fun z=>q4.trans z
   have go:∀ hp',Heap.SameBut a sh.heap hp'→SetM wd hp' a (fun j=>mem j||decide (j=k)) e1.size→Q true { sh with heap:=hp' }:=fun hp' sb r=>by
     have q:=fin hp' sb
     rw[no] at q
     rw[z1] at r
     exact q r
   have gives:∀ (b:Bool) {s1:Shared} {R':Unit→Shared→Prop},R' () s1→wpAny (model pg wd) Ar (match b with | true=>rule "set.scan.the-table-gave-way" | false=>pure ()) R' Ex s1 :=
     fun b s1 R' q=>by cases b with | true=>exact wpAny_rule q | false=>exact wpAny_pure q
   refine wpAny_bind (gives _ ?_)
   split
   · refine wpAny_bind ?_
     rw[hashByValue_scannable 8 scn]
     refine wpAny_pure (setM_tail (fun b s1 R' q=>by cases b <;> first | exact wpAny_pure q | exact wpAny_rule q) hob hexs hdt gd1 nd1 me1 b1 ?_ ?_ ?_ ?_)
     · first | (split <;> first | exact q2 | exact SetTable.fits_plain_off q2) | exact q2
     · first | (split <;> exact q3) | exact q3
     · first | (split <;> exact l1) | exact l1
     · intro hp' sb r
       exact wpAny_pure (go hp' sb r)
   · refine wpAny_bind (wpAny_pure ?_)
     simp only[↓reduceIte]
     exact setM_tail (fun b s1 R' q=>by cases b <;> first | exact wpAny_pure q | exact wpAny_rule q) hob hexs hdt gd1 nd1 me1 b1 q2 q3 l1 fun hp' sb r=>wpAny_pure (go hp' sb r)
/-- the loop of set(..) -/
theorem setM_loop {it : Addr} {fp wr : List Addr} {G : Array GenState → Array GenState → Prop} {m : Nat} {Pv : Nat → Value → Prop} {St : Nat → Shared → Prop} {R : Result → Shared → Prop}
   (W:WalksS pg wd Ar.in1 it fp wr G m Pv St) (S:Addr) (nS:S∉fp) (ks:List Key) (hm:m=ks.length) (hb:ks.length+1<scanBound) (hval:∀ i v,Pv i v → ∃ k,ks[i]? = some k∧keyIs k v=true) :
   ∀ (j i:Nat) (sh:Shared),m-i=j→i≤m→St i sh→(∃ c,c≤i∧SetM wd sh.heap S (fun k=>inK (ks.take i) k) c) →
     (∀ s' c,Moved (S::wr) G sh s'→c≤m→SetM wd s'.heap S (fun k=>inK ks k) c→R (.ok (.ret .none)) s')→codeAny (model pg wd) Ar (.builtin "set.update.loop" ⟨[.ref S,.ref it],[]⟩) R sh:=by
 have nW:S∉wr:=fun z=>nS (W.sub _ z)
 have more:∀ b∈wr,b∈S::wr:=fun b hb=>List.mem_cons_of_mem _ hb
 intro j
 induction j with
 | zero =>
   rintro i sh hj hi hst ⟨c,hc,sm⟩ hR
   obtain rfl:i=m:=by omega
   refine codeAny_builtin F.entry_set_update_loop ?_
   rw[Around.under_plainId F.plain_set_update_loop _]
   show wpAny _ Ar.in1 (pyNext (.ref it) >>= _) _ _ sh
   refine wpAny_bind (W.done sh _ _ hst fun s' mv=>?_)
   show wpAny _ Ar.in1 (PySem.ret Value.none) _ _ s'
   rw[List.take_of_length_le (by omega)] at sm
   exact wpAny_pure (hR s' c (mv.mono more) hc (sm.moved fun o e=>mv.heap S o nW e))
 | succ j ih =>
   rintro i sh hj hi hst ⟨c,hc,sm⟩ hR
   have lt:i<m:=by omega
   refine codeAny_builtin F.entry_set_update_loop ?_
   rw[Around.under_plainId F.plain_set_update_loop _]
   show wpAny _ Ar.in1 (pyNext (.ref it) >>= _) _ _ sh
   refine wpAny_bind (W.item i sh _ _ lt hst fun v s' hP hst' mv=>?_)
   obtain⟨k,ek,hk⟩:=hval i v hP
   have sm':SetM wd s'.heap S (fun k=>inK (ks.take i) k) c:=sm.moved fun o e=>mv.heap S o nW e
   show wpAny _ Ar.in1 (holding [v] (setAdd S v) >>= _) _ _ s'
   refine wpAny_bind (wpAny_holding ?_)
   unfold setAdd
   refine wpAny_holding (wpAny_bind ((mixKind pg wd).pyHash (k:=k) hk ?_))
   refine setM_put (sh:={ s' with toks:=s'.toks+1 }) hk sm' (by omega) fun hp' sb sm2=>?_
   have sm3:SetM wd hp' S (fun z=>inK (ks.take (i+1)) z) (if inK (ks.take i) k=true then c else c+1):=sm2.by fun z=>by
     rw[List.take_add_one,ek]
     unfold inK
     rw[List.any_append]
     simp[eq_comm]
   have c3:(if inK (ks.take i) k=true then c else c+1)≤i+1:=by split <;> omega
   refine wpAny_pure ⟨plainId_quiet F.plain_set_update_loop _,ih (i+1) _ (by omega) lt (W.frame _ s' _ _ hst' (Nat.le_succ _) fun b hb o e=>?_) ⟨_,c3,sm3⟩ fun s2 c2 mv2 hc2 sm4=>?_⟩
   · exact (sb.2 b fun z:b=S=>nS (z ▸ hb)).trans e
   · refine hR s2 c2 (Moved.trans W.gtrans ((mv.mono more).then_heap (Nat.le_succ _) fun b o hb e=>?_) mv2) hc2 sm4
     exact (sb.2 b fun z:b=S=>hb (z ▸ List.mem_cons_self)).trans e
end
abbrev newS (wd:World):Obj:={ cls:=.type "set",dict:=none,data:=.set #[] 0 (.fresh 0 0 (!wd.params.followText "set-order")) }
theorem setM_void {wd:World} {hp:Heap} {a:Addr} {ks:List Key} (ho:hp.get? a=some (newS wd)):SetM wd hp a (fun k=>inK (ks.take 0) k) 0:=by
 refine⟨_,#[],0,_,ho,⟨rfl,rfl,rfl⟩,rfl,(fun e he=>by simp at he),by simp,fun k=>by simp[inK],by decide,rfl,rfl,List.Pairwise.nil,?_⟩
 cases z:wd.params.followText "set-order" with
 | true=>exact .inl rfl
 | false=>exact .inr rfl
section
variable {pg:Program} {wd:World} {Ar:Around} {Ex:Value→Shared→Prop} {sh:Shared}
set_option maxHeartbeats 3200000 in
theorem call_setM_tuple {l : Addr} {its : Array Value} (ks : List Key) {Q : Value → Shared → Prop} (hh : Ar.handled = none) (hl : sh.heap.IsTuple l its) (hz : its.size = ks.length) (hval : ∀ (i : Nat) (v : Value), its[i]? = some v → ∃ k, ks[i]? = some k ∧ keyIs k v = true) (hb : ks.length + 1 < scanBound)
   (h:∀ (hp':Heap) (tk c:Nat),SetM wd hp' sh.heap.objs.size (inK ks) c→c≤ks.length→(∀ b o,sh.heap.get? b=some o→hp'.get? b=some o)→Q (.ref sh.heap.objs.size) { sh with heap:=hp',toks:=tk }) :
   wpAny (model pg wd) Ar (call (.type "set") [.ref l]) Q Ex sh:=by
 obtain⟨c,tl,hmro⟩:=F.called_set.mro
 have hmade:=F.called_set.made
 have hsub:=F.called_set.sub
 have h1:=F.called_set.notType
 have h2:=F.called_set.canCreate
 have hct:=F.typeCall_set_1 (.ref l)
 refine wpAny_call (codeAny_of_tree ?_)
 show wpAny _ _ (callAny (.type "set") _) _ _ _
 refine wpAny_pure ⟨Code.quiet_builtin _ (by decide +kernel),codeAny_builtin F.entry_type_call ?_⟩
 rw[Around.under_plain (weight_type_call_type "set" [.ref l] []) rfl]
 repeat (any_goals (first | assumption | wp_step))
 refine codeAny_mono (code_set_led1 (.ref l) (E:=Ex) (Q₁:=fun obj s1=>obj = .ref sh.heap.objs.size∧s1={ sh with heap:=sh.heap.push (newS wd) }) ⟨rfl,rfl⟩) fun r s1 hr=>?_
 match r,hr with
 | .error e,hr=>exact hr
 | .ok .next,hr=>exact hr.elim
 | .ok .brk,hr=>exact hr.elim
 | .ok .cont,hr=>exact hr.elim
 | .ok (.ret obj),hr =>
   obtain⟨rfl,rfl⟩:=hr
   have hS:(sh.heap.push (newS wd)).get? sh.heap.objs.size=some (newS wd):=Heap.get?_push_size _ rfl
   have hT:Shared.TypeIs { sh with heap:=sh.heap.push (newS wd) } (.ref sh.heap.objs.size) "set" := ⟨_,hS,rfl⟩
   have hli:=F.called_set.init.lookup
   have hbi:=F.called_set.init.bind (.ref sh.heap.objs.size)
   repeat (any_goals (first | assumption | wp_step))
   refine codeAny_mono (codeAny_call_builtin (R:=wants (fun r s2=>r = .none ∧ ∃ hp' tk c,s2={ sh with heap:=hp',toks:=tk }∧SetM wd hp' sh.heap.objs.size (inK ks) c∧c≤ks.length ∧ ∀ b o,sh.heap.get? b=some o→hp'.get? b=some o) Ex) F.called_set.init.plain F.entry_set_init (check_set_init_1 hT ?_)) fun r2 s2 hr2=>?_
   · obtain⟨ol,hol,hcl,nl,hdl⟩:=hl
     obtain⟨ocls,odict,odata,oslots⟩:=ol
     simp only at hcl hdl
     subst hcl
     subst hdl
     have hol':(sh.heap.push (newS wd)).get? l=some { cls:=.type "tuple",dict:=odict,data:=.seq its nl,slots:=oslots }:=Heap.get?_push_of_some _ hol
     have hsls:=F.sub_tuple_set
     have hslf:=F.sub_tuple_frozenset
     have hne:(Value.type "tuple" == Value.type "dict")=false:=by decide
     have hl1:(sh.heap.push (newS wd)).IsTuple l its:=⟨_,hol',rfl,nl,rfl⟩
     unfold Builtin.«set.__init__» noKeywords Builtin.Frozenset.updateFrom
     generalize hPI:pyIter=PI
     wp_walk
     subst hPI
     refine wpAny_pyIter_tuple hl1 (wpAny_bind (wpAny_runValue ?_))
     have low:l<sh.heap.objs.size:=Heap.lt_size hol
     have hh3:Ar.in1.in1.in1.handled=none:=by simp[hh]
     have hz1:(sh.heap.push (newS wd)).objs.size=sh.heap.objs.size+1:=Heap.size_push ..
     have nI:l≠(sh.heap.push (newS wd)).objs.size:=by rw[hz1]; exact Nat.ne_of_lt (Nat.lt_succ_of_lt low)
     have nS:sh.heap.objs.size∉[(sh.heap.push (newS wd)).objs.size,l]:=by
       simp only[List.mem_cons,List.not_mem_nil,or_false,not_or]
       exact⟨by rw[hz1]; exact Nat.ne_of_lt (Nat.lt_succ_self _),Nat.ne_of_gt low⟩
     refine setM_loop ((Walks.tuple hh3 _ l nI its).toS) sh.heap.objs.size nS ks hz hb hval (its.size-0) 0 _ (by omega) (Nat.zero_le _) ⟨⟨_,Heap.get?_push_size _ rfl,rfl,rfl⟩,(hl1.push _)⟩ ?first ?last
     case first=>exact⟨0,Nat.le_refl 0,setM_void (Heap.get?_push_of_some _ hS)⟩
     case last =>
       intro s3 c3 mv hc3 sm
       obtain⟨hp',g2,d2,tk2,os2⟩:=s3
       have eg:g2=sh.gens:=mv.gens
       have ed:d2=sh.drawn:=mv.drawn
       have eo:os2=sh.os:=mv.os
       subst eg
       subst ed
       subst eo
       show wpAny _ _ _ _ _ _
       refine wpAny_pure ?_
       show wpAny _ _ (PySem.ret Value.none) _ _ _
       refine wpAny_pure ⟨rfl,hp',tk2,c3,rfl,sm,by omega,fun b o e=>?_⟩
       have lb:b<sh.heap.objs.size:=Heap.lt_size e
       refine mv.heap b o (fun z=>?_) (Heap.get?_push_of_some _ (Heap.get?_push_of_some _ e))
       simp only[List.mem_cons,List.not_mem_nil,or_false] at z
       exact z.elim (Nat.ne_of_lt lb) fun z=>Nat.ne_of_lt (Nat.lt_succ_of_lt lb) (z.trans hz1)
   · match r2,hr2 with
     | .error e,hr2=>exact hr2
     | .ok .next,hr2=>exact hr2.elim
     | .ok .brk,hr2=>exact hr2.elim
     | .ok .cont,hr2=>exact hr2.elim
     | .ok (.ret r),hr2 =>
       obtain⟨rfl,hp',tk,c2,rfl,sm,hc2,hk2⟩:=hr2
       repeat (any_goals (first | assumption | wp_step))
       exact h _ _ _ sm hc2 hk2
set_option maxHeartbeats 3200000 in
theorem call_setM_list {l : Addr} {its : Array Value} (ks : List Key) {Q : Value → Shared → Prop} (hh : Ar.handled = none) (hl : sh.heap.IsList l its) (hz : its.size = ks.length) (hval : ∀ (i : Nat) (v : Value), its[i]? = some v → ∃ k, ks[i]? = some k ∧ keyIs k v = true) (hb : ks.length + 1 < scanBound)
   (h:∀ (hp':Heap) (tk c:Nat),SetM wd hp' sh.heap.objs.size (inK ks) c→c≤ks.length→(∀ b o,sh.heap.get? b=some o→hp'.get? b=some o)→Q (.ref sh.heap.objs.size) { sh with heap:=hp',toks:=tk }) :
   wpAny (model pg wd) Ar (call (.type "set") [.ref l]) Q Ex sh:=by
 obtain⟨c,tl,hmro⟩:=F.called_set.mro
 have hmade:=F.called_set.made
 have hsub:=F.called_set.sub
 have h1:=F.called_set.notType
 have h2:=F.called_set.canCreate
 have hct:=F.typeCall_set_1 (.ref l)
 refine wpAny_call (codeAny_of_tree ?_)
 show wpAny _ _ (callAny (.type "set") _) _ _ _
 refine wpAny_pure ⟨Code.quiet_builtin _ (by decide +kernel),codeAny_builtin F.entry_type_call ?_⟩
 rw[Around.under_plain (weight_type_call_type "set" [.ref l] []) rfl]
 repeat (any_goals (first | assumption | wp_step))
 refine codeAny_mono (code_set_led1 (.ref l) (E:=Ex) (Q₁:=fun obj s1=>obj = .ref sh.heap.objs.size∧s1={ sh with heap:=sh.heap.push (newS wd) }) ⟨rfl,rfl⟩) fun r s1 hr=>?_
 match r,hr with
 | .error e,hr=>exact hr
 | .ok .next,hr=>exact hr.elim
 | .ok .brk,hr=>exact hr.elim
 | .ok .cont,hr=>exact hr.elim
 | .ok (.ret obj),hr =>
   obtain⟨rfl,rfl⟩:=hr
   have hS:(sh.heap.push (newS wd)).get? sh.heap.objs.size=some (newS wd):=Heap.get?_push_size _ rfl
   have hT:Shared.TypeIs { sh with heap:=sh.heap.push (newS wd) } (.ref sh.heap.objs.size) "set" := ⟨_,hS,rfl⟩
   have hli:=F.called_set.init.lookup
   have hbi:=F.called_set.init.bind (.ref sh.heap.objs.size)
   repeat (any_goals (first | assumption | wp_step))
   refine codeAny_mono (codeAny_call_builtin (R:=wants (fun r s2=>r = .none ∧ ∃ hp' tk c,s2={ sh with heap:=hp',toks:=tk }∧SetM wd hp' sh.heap.objs.size (inK ks) c∧c≤ks.length ∧ ∀ b o,sh.heap.get? b=some o→hp'.get? b=some o) Ex) F.called_set.init.plain F.entry_set_init (check_set_init_1 hT ?_)) fun r2 s2 hr2=>?_
   · obtain⟨ol,hol,hcl,nl,hdl⟩:=hl
     obtain⟨ocls,odict,odata,oslots⟩:=ol
     simp only at hcl hdl
     subst hcl
     subst hdl
     have hol':(sh.heap.push (newS wd)).get? l=some { cls:=.type "list",dict:=odict,data:=.seq its nl,slots:=oslots }:=Heap.get?_push_of_some _ hol
     have hsls:=F.sub_list_set
     have hslf:=F.sub_list_frozenset
     have hne:(Value.type "list" == Value.type "dict")=false:=by decide
     have hl1:(sh.heap.push (newS wd)).IsList l its:=⟨_,hol',rfl,nl,rfl⟩
     unfold Builtin.«set.__init__» noKeywords Builtin.Frozenset.updateFrom
     generalize hPI:pyIter=PI
     wp_walk
     subst hPI
     refine wpAny_pyIter_list hl1 (wpAny_bind (wpAny_runValue ?_))
     have low:l<sh.heap.objs.size:=Heap.lt_size hol
     have hh3:Ar.in1.in1.in1.handled=none:=by simp[hh]
     have hz1:(sh.heap.push (newS wd)).objs.size=sh.heap.objs.size+1:=Heap.size_push ..
     have nI:l≠(sh.heap.push (newS wd)).objs.size:=by rw[hz1]; exact Nat.ne_of_lt (Nat.lt_succ_of_lt low)
     have nS:sh.heap.objs.size∉[(sh.heap.push (newS wd)).objs.size,l]:=by
       simp only[List.mem_cons,List.not_mem_nil,or_false,not_or]
       exact⟨by rw[hz1]; exact Nat.ne_of_lt (Nat.lt_succ_self _),Nat.ne_of_gt low⟩
     refine setM_loop ((Walks.list hh3 _ l nI its).toS) sh.heap.objs.size nS ks hz hb hval (its.size-0) 0 _ (by omega) (Nat.zero_le _) ⟨⟨_,Heap.get?_push_size _ rfl,rfl,rfl⟩,(hl1.push _)⟩ ?first ?last
     case first=>exact⟨0,Nat.le_refl 0,setM_void (Heap.get?_push_of_some _ hS)⟩
     case last =>
       intro s3 c3 mv hc3 sm
       obtain⟨hp',g2,d2,tk2,os2⟩:=s3
       have eg:g2=sh.gens:=mv.gens
       have ed:d2=sh.drawn:=mv.drawn
       have eo:os2=sh.os:=mv.os
       subst eg
       subst ed
       subst eo
       show wpAny _ _ _ _ _ _
       refine wpAny_pure ?_
       show wpAny _ _ (PySem.ret Value.none) _ _ _
       refine wpAny_pure ⟨rfl,hp',tk2,c3,rfl,sm,by omega,fun b o e=>?_⟩
       have lb:b<sh.heap.objs.size:=Heap.lt_size e
       refine mv.heap b o (fun z=>?_) (Heap.get?_push_of_some _ (Heap.get?_push_of_some _ e))
       simp only[List.mem_cons,List.not_mem_nil,or_false] at z
       exact z.elim (Nat.ne_of_lt lb) fun z=>Nat.ne_of_lt (Nat.lt_succ_of_lt lb) (z.trans hz1)
   · match r2,hr2 with
     | .error e,hr2=>exact hr2
     | .ok .next,hr2=>exact hr2.elim
     | .ok .brk,hr2=>exact hr2.elim
     | .ok .cont,hr2=>exact hr2.elim
     | .ok (.ret r),hr2 =>
       obtain⟨rfl,hp',tk,c2,rfl,sm,hc2,hk2⟩:=hr2
       repeat (any_goals (first | assumption | wp_step))
       exact h _ _ _ sm hc2 hk2
end
end VL
namespace VL
open PySem PySem.Spec PyProof.Rows L2 TB
/-- each once,the last of like ones -/
def ddup {α:Type} [DecidableEq α]:List α→List α
 | []=>[]
 | x::r=>if (r.any fun z=>decide (z=x))=true then ddup r else x::ddup r
theorem ddup_any {α:Type} [DecidableEq α] {x:α} {r:List α}:(r.any fun z=>decide (z=x))=true↔x∈r:=by
 rw[List.any_eq_true]
 exact⟨fun ⟨z,h,e⟩=>by rw[← of_decide_eq_true e]; exact h,fun h=>⟨x,h,decide_eq_true rfl⟩⟩
theorem mem_ddup {α:Type} [DecidableEq α] {y:α}:∀ {l:List α},y∈ddup l↔y∈l
 | []=>Iff.rfl
 | x::r=>by
   rw[ddup]
   split
   · rename_i h
     rw[mem_ddup,List.mem_cons]
     exact⟨.inr,fun z=>z.elim (fun e=>by rw[e]; exact ddup_any.mp h) id⟩
   · rw[List.mem_cons,List.mem_cons,mem_ddup]
theorem nodup_ddup {α:Type} [DecidableEq α]:∀ l:List α,(ddup l).Nodup
 | []=>List.Pairwise.nil
 | x::r=>by
   rw[ddup]
   split
   · exact nodup_ddup r
   · rename_i h
     exact List.nodup_cons.mpr ⟨fun z=>h (ddup_any.mpr (mem_ddup.mp z)),nodup_ddup r⟩
theorem ddup_len {α:Type} [DecidableEq α]:∀ l:List α,(ddup l).length≤l.length
 | []=>Nat.le_refl _
 | x::r=>by
   rw[ddup]
   have:=ddup_len r
   split
   · exact Nat.le_succ_of_le this
   · exact Nat.succ_le_succ this
theorem perm_of_mem {α:Type}:∀ {l m:List α},l.Nodup→m.Nodup→(∀ x,x∈l↔x∈m)→l.Perm m
 | [],m,_,_,h=>by
   cases m with
   | nil=>exact .refl _
   | cons x r=>exact absurd ((h x).mpr List.mem_cons_self) (fun z=>nomatch z)
 | x::l,m,h1,h2,h=>by
   obtain⟨s,t,rfl⟩:=List.append_of_mem ((h x).mp List.mem_cons_self)
   have p:=List.perm_middle (a:=x) (l₁:=s) (l₂:=t)
   have n2:=p.nodup_iff.mp h2
   obtain⟨n3,n4⟩:=List.nodup_cons.mp n2
   obtain⟨n5,n6⟩:=List.nodup_cons.mp h1
   refine ((perm_of_mem n6 n4 fun y=>?_).cons x).trans p.symm
   have hy:=h y
   rw[p.mem_iff,List.mem_cons,List.mem_cons] at hy
   by_cases e:y=x
   · subst e
     exact⟨fun z=>absurd z n5,fun z=>absurd z n3⟩
   · exact⟨fun z=>(hy.mp (.inr z)).elim (fun w=>absurd w e) id,fun z=>(hy.mpr (.inr z)).elim (fun w=>absurd w e) id⟩
theorem sortI_set {ns ms:List Int} (h1:ms.Nodup) (h2:∀ k,k∈ms↔k∈ns) (h3:ms.Pairwise (·≤·)):ms=sortI (ddup ns):=sortI_eq (perm_of_mem h1 (nodup_ddup ns) fun k=>(h2 k).trans mem_ddup.symm) h3
theorem sortS_set {ns ms:List Str} (h1:ms.Nodup) (h2:∀ k,k∈ms↔k∈ns) (h3:sortedS ms=true):ms=sortS (ddup ns):=sortS_eq (perm_of_mem h1 (nodup_ddup ns) fun k=>(h2 k).trans mem_ddup.symm) h3
theorem strs_from:∀ (l:List Value),(∀ v∈l,∃ x tk,v=Value.str x tk) → ∃ xs:List Str,StrsAre l xs∧l.map (fun v=>kOf (0,v))=xs.map Sum.inr
 | [],_=>⟨[],.nil,rfl⟩
 | v::l,h=>by
   obtain⟨x,tk,rfl⟩:=h v List.mem_cons_self
   obtain⟨xs,h1,h2⟩:=strs_from l fun u hu=>h u (List.mem_cons_of_mem _ hu)
   exact⟨x::xs,.cons x tk h1,by rw[List.map_cons,List.map_cons,h2]; rfl⟩
theorem ints_from:∀ (l:List Value),(∀ v∈l,∃ x tk,v=Value.int x tk) → ∃ xs:List Int,IntsAre l xs∧l.map (fun v=>kOf (0,v))=xs.map Sum.inl
 | [],_=>⟨[],.nil,rfl⟩
 | v::l,h=>by
   obtain⟨x,tk,rfl⟩:=h v List.mem_cons_self
   obtain⟨xs,h1,h2⟩:=ints_from l fun u hu=>h u (List.mem_cons_of_mem _ hu)
   exact⟨x::xs,.cons x tk h1,by rw[List.map_cons,List.map_cons,h2]; rfl⟩
section
variable {pg:Program} {wd:World} {Ar:Around} {Ex:Value→Shared→Prop} {sh:Shared} {a:Addr} {mem:Key→Bool} {n:Nat}
/-- sorted(the set),by a sort of the list of its members -/
theorem sorted_setM {Q : Value → Shared → Prop} {outOk : Array Value → Prop} (m : SetM wd sh.heap a mem n) (hh : Ar.handled = none)
   (sort:∀ (vs:List Value) (s1:Shared) (ks:List Key),s1.heap.get? (s1.heap.objs.size-1)=some (seqObj "list" vs.toArray 0)→1≤s1.heap.objs.size→vs.map (fun v=>kOf (0,v))=ks→(∀ v∈vs,∃ k,keyIs k v=true)→ks.Nodup→(∀ k,k∈ks↔mem k=true)→vs.length=n →
     ∀ P:PySem.Fin→Shared→Prop,(∀ out,outOk out→P (.done (.ret .none)) { s1 with heap:=sortedHeap s1.heap (s1.heap.objs.size-1) vs out })→wpAny (model pg wd) Ar.in1.in1 (Builtin.«list.sort» ⟨[.ref (s1.heap.objs.size-1)],[]⟩) P Ex s1)
   (fin:∀ s' p (out:Array Value) (c:Nat),(∀ b o,sh.heap.get? b=some o→s'.heap.get? b=some o)→s'.gens=sh.gens→s'.os=sh.os→sh.heap.objs.size≤p→s'.heap.get? p=some (seqObj "list" out c)→outOk out→Q (.ref p) s') :
   wpAny (model pg wd) Ar (call (.builtin "sorted") [.ref a]) Q Ex sh:=by
 obtain⟨ob,es,ep,tb,hob,hexs,hdt,gd,ndp,hme,hbd,hfi,hn,hri,hle⟩:=m
 refine Calls.call_function_entry kind_sorted plain_sorted entry_sorted (args_sorted1 _) ?_
 unfold Builtin.«sorted»
 refine wpAny_bind (m:=checkCount "sorted" 1 1 _) (wpAny_pure (wpAny_bind (collect_set (A:=Ar.in1) hh ⟨ob,hob,hexs.1,hdt⟩ hfi hbd hri hle fun s1 vs k1 z1 g1 o1 pm=>?_)))
 have lv:vs.length=n:=by
   have:=pm.length_eq
   simp at this
   omega
 have pk:(vs.map fun v=>kOf (0,v)).Perm (es.toList.map kOf):=by
   have q:=pm.map fun v=>kOf (0,v)
   rw[List.map_map] at q
   exact q
 refine wpAny_bind (wpAny_newList ?_ (by rw[lv,← hn]; exact fits_of_scanBound hbd))
 have at1:(s1.heap.push (seqObj "list" vs.toArray 0)).get? s1.heap.objs.size=some (seqObj "list" vs.toArray 0):=Heap.get?_push_size _ rfl
 have sz:(s1.heap.push (seqObj "list" vs.toArray 0)).objs.size=s1.heap.objs.size+1:=size_push' _ _
 have sz':(s1.heap.push (seqObj "list" vs.toArray 0)).objs.size-1=s1.heap.objs.size:=by rw[sz]; rfl
 have run:=sort vs { s1 with heap:=s1.heap.push (seqObj "list" vs.toArray 0) } _ (by show (s1.heap.push _).get? ((s1.heap.push _).objs.size-1)=_; rw[sz']; exact at1) (by show 1≤(s1.heap.push _).objs.size; rw[sz]; exact Nat.le_add_left _ _) rfl (fun v hv=>by
   obtain⟨e,he,q⟩:=List.mem_map.mp (pm.mem_iff.mp hv)
   exact⟨kOf e,by rw[← q]; exact (gd e he).1⟩) (pk.nodup_iff.mpr ndp) (fun k=>(pk.mem_iff).trans (hme k).symm) lv
 dsimp only at run
 rw[sz'] at run
 refine wpAny_bind (wpAny_holding (wpAny_call_entry slot_list_sort ⟨_,at1,rfl⟩ entry_list_sort (run _ fun out ho=>⟨_,rfl,?_⟩) (args_list_sort _)))
 obtain⟨c,hc⟩:=sortedHeap_at (vs:=vs) (out:=out) at1
 refine wpAny_pure ⟨_,rfl,fin _ s1.heap.objs.size out c (fun b u e=>?_) g1 o1 z1 hc ho⟩
 have q:=k1 b u e
 have lt:=Heap.lt_size q
 show (sortedHeap (s1.heap.push (seqObj "list" vs.toArray 0)) s1.heap.objs.size vs out).get? b=some u
 rw[sortedHeap_old (Nat.ne_of_lt lt) (by rw[sz]; exact Nat.lt_succ_of_lt lt)]
 exact Heap.get?_push_of_some _ q
end
end VL
namespace VL
open PySem PySem.Spec PyProof.Rows L2 TB
@[simp] def srtSetD (c:Bool) (x:D) (st:AS):Out D:=match seqOf st x with
 | some ds=>(match intsOf ds with
   | some ns=>if ns.length≤1000 then mk c ((sortI (ddup ns)).map D.int) st else .bad
   | none=>(match strsOf ds with
     | some xs=>if xs.length≤1000 then mk c ((sortS (ddup xs)).map D.str) st else .bad
     | none=>.bad))
 | none=>.bad
@[simp] def lenSetD (x:D) (st:AS):Out D:=match seqOf st x with
 | some ds=>(match intsOf ds with
   | some ns=>if ns.length≤1000 then .ok (.int (ddup ns).length) st else .bad
   | none=>(match strsOf ds with
     | some xs=>if xs.length≤1000 then .ok (.int (ddup xs).length) st else .bad
     | none=>.bad))
 | none=>.bad
/-- what set(..) may be of: keys -/
@[simp] def keysOfD (ds:List D):Option (List Key):=match intsOf ds with
 | some ns=>some (ns.map Sum.inl)
 | none=>(strsOf ds).map (·.map Sum.inr)
theorem vals_keys:∀ {ks:List Key} {us:List Value},Vals (ks.map kV) us → ∀ (i:Nat) (v:Value),us[i]? = some v → ∃ k,ks[i]? = some k∧keyIs k v=true
 | [],_,r,i,v,e=>by
   cases r
   simp at e
 | k::ks,_,r,i,v,e=>by
   cases r with
   | cons r1 r2 =>
     cases i with
     | zero =>
       simp at e
       subst e
       refine⟨k,rfl,?_⟩
       cases k with
       | inl j=>obtain⟨t,rfl⟩:=r1; exact keyIs_int j t
       | inr x=>obtain⟨t,rfl⟩:=r1; exact keyIs_str x t
     | succ i =>
       obtain⟨k',h1,h2⟩:=vals_keys r2 i v (by simpa using e)
       exact⟨k',by simpa using h1,h2⟩
theorem keys_vals {K:PySem.W.Frag} {H:Hp} {β:Bt} {ds:List D} {us:List V} {ks:List Key} (r:Reps K H β ds us) (h:keysOfD ds=some ks):us=ks.map kV:=by
 unfold keysOfD at h
 split at h
 · rename_i ns en
   cases h
   have z:=intsOf_eq en
   subst z
   rw[r.ints,List.map_map]
   rfl
 · cases es:strsOf ds with
   | none=>rw[es] at h; cases h
   | some xs =>
     rw[es] at h
     cases h
     rw[r.strs es,List.map_map]
     rfl
section
variable {X:Cx} {E:XK} {a:Expr} {fa:FE} {p p2 q pos:Pos}
/-- set(x) and what is asked of it -/
theorem set_then {id : String} {pins : List (Addr × Obj)} {σ : L2.St} {H : Hp} {s : Shared} {Q : Value → Shared → Prop} {c : Expr} {T : Value → Shared → Prop} {x : Str} (hc : X.calm = true) (hg : Gl X x) (hm : X.mg x = none) (hbt : bootBuiltins x = some (.builtin id)) (hg2 : Gl X "set") (hm2 : X.mg "set" = none) (na : starEach [a] X.env = (false, eval a X.env) :: starEach [] X.env) (hn : x ≠ "__name__") (hdb : (x == ("__debug__" : Str)) = false)
   (I:Inv X pins σ H s) (run:wpAny (model X.prog X.w) X.A (eval a X.env) (fun v s1=>∃ l H1 ks,v = .ref l∧Inv X pins σ H1 s1∧(SqL X.K H1 l (ks.map kV)∨SqT X.K H1 l (ks.map kV))∧ks.length≤1000 ∧
     ∀ (hp':Heap) (tk c:Nat),SetM X.w hp' s1.heap.objs.size (inK ks) c→c≤ks.length→(∀ b o,s1.heap.get? b=some o→hp'.get? b=some o)→wpAny (model X.prog X.w) X.A (call (.builtin id) [.ref s1.heap.objs.size]) Q X.xe { s1 with heap:=hp',toks:=tk }) X.xe s) :
   wpAny (model X.prog X.w) X.A (eval (.Call (.Name x p) [.Call (.Name "set" p2) [a] [] q] [] pos) X.env) Q X.xe s:=by
 refine Call_ (ld_blt I hg hm hbt ?_ hn hdb)
 refine PyProof.Rows.callWith_builtin1 (PyProof.Rows.args_cons ?_ rfl) rfl rfl
 refine Call_ (ld_blt I hg2 hm2 PyProof.Rows.boot_set ?_)
 refine PyProof.Rows.callWith_type1 (PyProof.Rows.args_cons (thn run fun v s1 z=>PyProof.Rows.args_nil ?_) na) na rfl
 obtain⟨l,H1,ks,rfl,I1,hq,h1,fin⟩:=z
 have hb:ks.length+1<scanBound:=Nat.lt_of_le_of_lt (Nat.succ_le_succ h1) (by decide)
 rcases hq with hq | hq
 · obtain⟨its,r,pl,hz⟩:=I1.list hq
   have hl:its.toArray.size=ks.length:=by rw[List.size_toArray,← r.length,List.length_map]
   refine call_setM_list ks (I1.ok.hd hc) pl.isList hl (fun i v e=>vals_keys r i v (by simpa using e)) hb fun hp' tk c sm hk k=>?_
   exact PyProof.Rows.args_nil (fin hp' tk c sm hk k)
 · obtain⟨its,r,pl,hz⟩:=I1.tuple hq
   have hl:its.toArray.size=ks.length:=by rw[List.size_toArray,← r.length,List.length_map]
   refine call_setM_tuple ks (I1.ok.hd hc) pl hl (fun i v e=>vals_keys r i v (by simpa using e)) hb fun hp' tk c sm hk k=>?_
   exact PyProof.Rows.args_nil (fin hp' tk c sm hk k)
theorem use_keys {K:PySem.W.Frag} {mg:MG} {β:Bt} {H:Hp} {st:AS} {d:D} {u:V} {ds:List D} {ks:List Key} (S:Sim K mg β st H) (r:Rep K H β d u) (h:seqOf st d=some ds) (hk:keysOfD ds=some ks):∃ l,u = .ref l∧(SqL K H l (ks.map kV)∨SqT K H l (ks.map kV)):=by
 obtain⟨l,us,rfl,hq,rs⟩:=S.seqs r h
 rw[keys_vals rs hk] at hq
 exact⟨l,rfl,hq⟩
theorem inl_of {ks:List Key} {xs:List Int} {vs:List Value} (h:vs.map (fun v=>kOf (0,v))=ks) (he:∀ v∈vs,∃ k,keyIs k v=true) (hm:∀ k∈ks,k∈xs.map Sum.inl):∀ v∈vs,∃ x tk,v=Value.int x tk:=fun v hv=>by
 obtain⟨k,hk⟩:=he v hv
 have e:kOf (0,v)∈ks:=by rw[← h]; exact List.mem_map_of_mem hv
 obtain⟨x,_,ex⟩:=List.mem_map.mp (hm _ e)
 rw[kOf_is hk] at ex
 subst ex
 rcases keyIs_shape hk with⟨i,t,_,rfl⟩ | ⟨y,t,z,_⟩
 · exact⟨i,t,rfl⟩
 · cases z
theorem inr_of {ks:List Key} {xs:List Str} {vs:List Value} (h:vs.map (fun v=>kOf (0,v))=ks) (he:∀ v∈vs,∃ k,keyIs k v=true) (hm:∀ k∈ks,k∈xs.map Sum.inr):∀ v∈vs,∃ x tk,v=Value.str x tk:=fun v hv=>by
 obtain⟨k,hk⟩:=he v hv
 have e:kOf (0,v)∈ks:=by rw[← h]; exact List.mem_map_of_mem hv
 obtain⟨x,_,ex⟩:=List.mem_map.mp (hm _ e)
 rw[kOf_is hk] at ex
 subst ex
 rcases keyIs_shape hk with⟨i,t,z,_⟩ | ⟨y,t,_,rfl⟩
 · cases z
 · exact⟨y,t,rfl⟩
theorem Inv.grown {pins : List (Addr × Obj)} {σ : L2.St} {H : Hp} {s s' : Shared} {p : Addr} {xs : List V} {out : Array Value} {c : Nat} (I : Inv X pins σ H s) (k : ∀ b o, s.heap.get? b = some o → s'.heap.get? b = some o) (g : s'.gens = s.gens) (o : s'.os = s.os) (hp : s.heap.objs.size ≤ p) (hg : s'.heap.get? p = some (seqObj "list" out c)) (hl : xs.length ≤ sizeLine) (r : Vals xs out.toList) :
   H p=none∧Inv X pins σ (upd H p (.lst xs)) s':=by
 have hn:H p=none:=I.hok.fresh hp
 refine⟨hn,?_⟩
 have J:Inv X pins σ (upd H p (.lst xs)) { s with heap:=s'.heap,gens:=s'.gens,drawn:=s'.drawn,toks:=s'.toks }:=I.call (ch:=[]) (Un.laid k hp hn) (I.hok.laid k hp ⟨hl,out.toList,c,r,hg⟩) (by rw[g]; exact I.bare) (fun _ z=>nomatch z)
 have e:s'={ s with heap:=s'.heap,gens:=s'.gens,drawn:=s'.drawn,toks:=s'.toks }:=by
   obtain⟨_,_,_,_,_⟩:=s'
   obtain⟨_,_,_,_,_⟩:=s
   cases o
   rfl
 rw[e]
 exact J
theorem ve_sortedSet (k : Bool) (hc : X.calm = true) (hg : Gl X "sorted") (hm : X.mg "sorted" = none) (hg2 : Gl X "set") (hm2 : X.mg "set" = none) (ha : VE X E a fa) (na : starEach [a] X.env = (false, eval a X.env) :: starEach [] X.env := by rfl) :
   VE X E (.Call (.Name "sorted" p) [.Call (.Name "set" p2) [a] [] q] [] pos) (v1 (srtSetD k) fa):=by
 refine⟨fun pins s σ H Q I h=>?_⟩
 refine set_then (id:="sorted") (c:=a) (T:=fun _ _=>True) hc hg hm boot_sorted hg2 hm2 na (by decide) (by decide) I ?_
 obtain⟨β,env,st,hE,hS,h⟩:=h
 have h2:tV X.K X.mgw E fa σ H fun u H1=>∃ d st1 β1,Ext β H β1 H1∧Sim X.K X.mgw β1 st1 H1∧Rep X.K H1 β1 d u∧Post X.K X.mgw (rD X.K) E β1 H1 Q (srtSetD k d st1):=tG_bind hE hS h fun d st1 β1 H1 u x1 s1 e1 r1 h1=>⟨d,st1,β1,x1,s1,r1,h1⟩
 refine thn (ha.run pins s σ H _ I h2) fun v s1 ⟨u,H1,I1,rv,d,st1,β1,x1,S1,r1,h1⟩=>?_
 unfold srtSetD at h1
 split at h1
 · rename_i ds ed
   split at h1
   · rename_i ns en
     obtain⟨hl,h1⟩:=h1.ite
     have hk:keysOfD ds=some (ns.map Sum.inl):=by unfold keysOfD; rw[en]
     obtain⟨l,rfl,hq⟩:=use_keys S1 r1 ed hk
     cases rv
     refine⟨l,H1,_,rfl,I1,hq,by rw[List.length_map]; exact hl,fun hp' tk c sm hcl kp=>?_⟩
     have I2:Inv X pins σ H1 { s1 with heap:=hp',toks:=tk }:=I1.kept kp
     have mm:∀ k,inK (ns.map Sum.inl) k=true↔k∈ns.map Sum.inl:=fun k=>inK_iff
     refine sorted_setM (outOk:=fun out=>∃ ms,IntsAre out.toList ms∧ms=sortI (ddup ns)) sm (I2.ok.hd hc) (fun vs sb ks h1 h2 h3 h4 h5 h6 h7 P hP=>?_) fun s' pp out cc kk g o hpp hgt hout=>?_
     · obtain⟨xs,hi,hx⟩:=ints_from vs (inl_of (xs:=ns) h3 h4 fun k hk=>(mm k).mp ((h6 k).mp hk))
       refine list_sort_treeAny h1 hi (by rw[h7]; exact Nat.le_trans hcl (Nat.le_trans (by rw[List.length_map]; exact hl) (by rw[sizeLine_eq]; decide))) fun out ms a1 a2 a3=>hP out ⟨ms,a1,sortI_set ?_ ?_ a3⟩
       · refine a2.nodup_iff.mpr ?_
         rw[← h3,hx] at h5
         exact List.Pairwise.of_map _ (fun _ _ hne e=>hne (congrArg _ e)) h5
       · intro z
         rw[a2.mem_iff]
         have q1:=h6 (.inl z)
         rw[← h3,hx,mm] at q1
         simpa using q1
     · obtain⟨ms,hi,rfl⟩:=hout
       have hz:((sortI (ddup ns)).map V.int).length≤sizeLine:=by
         rw[List.length_map,(sortI_perm _).length_eq]
         refine Nat.le_trans (ddup_len ns) (Nat.le_trans hl (by rw[sizeLine_eq]; decide))
       obtain⟨hn,J⟩:=Inv.grown I2 kk g o hpp hgt hz (vals_of_ints hi)
       exact⟨.ref pp,_,J,rfl,new_lst h1 S1 (reps_ints _) pp hn⟩
   · split at h1
     · rename_i en _ xs es
       obtain⟨hl,h1⟩:=h1.ite
       have hk:keysOfD ds=some (xs.map Sum.inr):=by unfold keysOfD; rw[en,es]; rfl
       obtain⟨l,rfl,hq⟩:=use_keys S1 r1 ed hk
       cases rv
       refine⟨l,H1,_,rfl,I1,hq,by rw[List.length_map]; exact hl,fun hp' tk c sm hcl kp=>?_⟩
       have I2:Inv X pins σ H1 { s1 with heap:=hp',toks:=tk }:=I1.kept kp
       have mm:∀ k,inK (xs.map Sum.inr) k=true↔k∈xs.map Sum.inr:=fun k=>inK_iff
       refine sorted_setM (outOk:=fun out=>∃ ms,StrsAre out.toList ms∧ms=sortS (ddup xs)) sm (I2.ok.hd hc) (fun vs sb ks h1 h2 h3 h4 h5 h6 h7 P hP=>?_) fun s' pp out cc kk g o hpp hgt hout=>?_
       · obtain⟨zs,hi,hx⟩:=strs_from vs (inr_of (xs:=xs) h3 h4 fun k hk=>(mm k).mp ((h6 k).mp hk))
         refine list_sort_treeKAny PyProof.Rows.strKind_oneLt h1 hi.keysOf (fun v1 v2 rest e=>keyKind_strs (by rw[← e]; exact hi)) (by rw[h7]; exact Nat.le_trans hcl (Nat.le_trans (by rw[List.length_map]; exact hl) (by rw[sizeLine_eq]; decide))) fun st' b1 b2=>?_
         obtain⟨ms,a1,a2,a3⟩:=sorted_out_str hi b1 b2
         refine hP _ ⟨ms,a1,sortS_set ?_ ?_ a3⟩
         · refine a2.nodup_iff.mpr ?_
           rw[← h3,hx] at h5
           exact List.Pairwise.of_map _ (fun _ _ hne e=>hne (congrArg _ e)) h5
         · intro z
           rw[a2.mem_iff]
           have q1:=h6 (.inr z)
           rw[← h3,hx,mm] at q1
           simpa using q1
       · obtain⟨ms,hi,rfl⟩:=hout
         have hz:((sortS (ddup xs)).map V.str).length≤sizeLine:=by
           rw[List.length_map,(sortS_perm _).length_eq]
           refine Nat.le_trans (ddup_len xs) (Nat.le_trans hl (by rw[sizeLine_eq]; decide))
         obtain⟨hn,J⟩:=Inv.grown I2 kk g o hpp hgt hz (vals_of_strs hi)
         exact⟨.ref pp,_,J,rfl,new_lst h1 S1 (reps_strs _) pp hn⟩
     · exact h1.elim
 · exact h1.elim
end
end VL
namespace VL
open PySem PySem.Spec PyProof.Rows L2 TB
inductive Ents (K:PySem.W.Frag):List DictEntry→List (Str × D)→Prop
 | nil:Ents K [] []
 | cons {e:DictEntry} {es:List DictEntry} {x:Str} {t:Tok} {v:V} {d:D} {ks:List (Str × D)}:e.key = .str x t→RelV v e.val→(∀ H β,Rep K H β d v)→Ents K es ks→Ents K (e::es) ((x,d)::ks)
@[simp] def lookS (kvs:List (Str × D)) (z:Str):Option D:=(kvs.find? fun p=>decide (p.1=z)).map (·.2)
theorem isStr_iff {x z:Str} {t:Tok}:(Value.str x t).isStr z=decide (x=z):=by
 by_cases e:x=z
 · subst e
   simp[Value.isStr]
 · simp[Value.isStr,e]
theorem Ents.find {K : PySem.W.Frag} (z : Str) : ∀ {es : List DictEntry} {ks : List (Str × D)}, Ents K es ks → es.any (·.refKey) = false ∧
   ((∃ d e v,lookS ks z=some d∧es.find? (·.key.isStr z)=some e∧RelV v e.val ∧ ∀ H β,Rep K H β d v)∨(lookS ks z=none∧es.find? (·.key.isStr z)=none))
 | _,_,.nil=>⟨rfl,.inr ⟨rfl,rfl⟩⟩
 | _,_,.cons (e:=e) (x:=x) (t:=t) (v:=v) (d:=d) hk hv hr r=>by
   obtain⟨h1,h2⟩:=Ents.find z r
   refine⟨?_,?_⟩
   · rw[List.any_cons,h1]
     unfold DictEntry.refKey
     rw[hk]
     rfl
   · by_cases ez:x=z
     · refine .inl ⟨d,e,v,?_,?_,hv,hr⟩
       · simp[ez]
       · rw[List.find?_cons_of_pos (by rw[hk,isStr_iff]; exact decide_eq_true ez)]
     · have n1:∀ ks:List (Str × D),lookS ((x,d)::ks) z=lookS ks z:=fun ks=>by simp[ez]
       have n2:¬ (e.key.isStr z=true):=by
         rw[hk,isStr_iff]
         simpa using ez
       rw[n1,List.find?_cons_of_neg (p:=fun q:DictEntry=>q.key.isStr z) n2]
       exact h2
/-- the module's name c holds a dict of these -/
structure CD (K:PySem.W.Frag) (w:World) (mg:Str→Option Value) (c:Str) (kvs:List (Str × D)):Prop where
 ex:∃ (d:Addr) (es:Array DictEntry) (n:Nat),mg c=some (.ref d)∧KDict K w d es n∧Ents K es.toList kvs
theorem CD.look {K : PySem.W.Frag} {w : World} {d : Addr} {es : Array DictEntry} {n : Nat} {kvs : List (Str × D)} (D : KDict K w d es n) (h : Ents K es.toList kvs) (z : Str) :
   (∃ dv u v,lookS kvs z=some dv∧PySem.W.nsIn K d z=some (some u)∧RelV v u ∧ ∀ H β,Rep K H β dv v)∨(lookS kvs z=none∧PySem.W.nsIn K d z=some none):=by
 obtain⟨h1,h2⟩:=h.find z
 rcases h2 with⟨dv,e,v,e1,e2,e3,e4⟩ | ⟨e1,e2⟩
 · refine .inl ⟨dv,e.val,v,e1,?_,e3,e4⟩
   unfold PySem.W.nsIn
   rw[D.at_]
   dsimp only
   rw[e2]
 · refine .inr ⟨e1,?_⟩
   unfold PySem.W.nsIn
   rw[D.at_]
   dsimp only
   rw[e2,h1]
   rfl
section
variable {X:Cx} {E:XK} {a b e:Expr} {fa fb:FE} {pos p:Pos} {c:Str} {kvs:List (Str × D)}
@[simp] def cixD (kvs:List (Str × D)) (y:D) (st:AS):Out D:=match y with
 | .str z=>toOut (lookS kvs z) st
 | _=>.bad
@[simp] def cinD (neg:Bool) (kvs:List (Str × D)) (y:D) (st:AS):Out D:=match y with
 | .str z=>.ok (.bl (xor neg (lookS kvs z).isSome)) st
 | _=>.bad
/-- the defs that may be meant,by their names -/
inductive Tbl (X:Cx) (k n:Nat):List (Str × (List D→AS→Out D))→Prop
 | nil:Tbl X k n []
 | cons {x : Str} {F : List D → AS → Out D} {r : List (Str × (List D → AS → Out D))} {f : Addr} {fd : FuncData} {ps : List Str} : PySem.W.nsIn X.K mainGlobals x = some (some (.ref f)) → PySem.W.keepIn X.K (.ref f) = true →
     FnG X.prog X.w X.K X.mg X.base (L2.CX X.prog X.w) k f fd ps (spV X.K X.mgw n F)→BindV X.K fd ps n [] [] ((List.range n).map .pos)→Tbl X k n r→Tbl X k n ((x,F)::r)
@[simp] def lookF (T:List (Str × (List D→AS→Out D))) (x:Str):Option (List D→AS→Out D):=(T.find? fun p=>decide (p.1=x)).map (·.2)
theorem Tbl.find {k n:Nat} {x:Str} {F:List D→AS→Out D} {f:Addr} (hx:PySem.W.nsIn X.K mainGlobals x=some (some (.ref f))):∀ {T:List (Str × (List D→AS→Out D))},Tbl X k n T→lookF T x=some F → ∃ fd ps,PySem.W.keepIn X.K (.ref f)=true∧FnG X.prog X.w X.K X.mg X.base (L2.CX X.prog X.w) k f fd ps (spV X.K X.mgw n F)∧BindV X.K fd ps n [] [] ((List.range n).map .pos)
 | _,.nil,h=>by cases h
 | _,.cons (x:=y) (F:=G) hy hk hF hb r,h=>by
   by_cases e:y=x
   · subst e
     simp at h
     subst h
     rw[hy] at hx
     cases hx
     exact⟨_,_,hk,hF,hb⟩
   · refine Tbl.find hx r ?_
     simpa [e] using h
@[simp] def vCallV (i n:Nat) (T:List (Str × (List D→AS→Out D))) (fs:En→AS→Out (List D)) (env:En) (st:AS):Out D:=match env[i]? with
 | some (some (.cv (.gl x)))=>(match lookF T x with
   | some F=>(fs env st).bind fun xs st=>if xs.length=n then F xs st else .bad
   | none=>.bad)
 | _=>.bad
@[simp] def memS (cs:List Str) (c:Str):Bool:=cs.any fun z=>decide (z=c)
/-- e.f: of an instance of one of the classes cs -/
@[simp] def fldD (cs:List Str) (f:Str) (x:D) (st:AS):Out D:=match x with
 | .ref i=>(match st[i]? with
   | some (.obj c fs)=>if memS cs c=true then toOut (lookS fs f) st else .bad
   | _=>.bad)
 | _=>.bad
@[simp] def putFD (f:Str) (d:D):List (Str × D)→List (Str × D)
 | []=>[(f,d)]
 | p::r=>if p.1=f then (p.1,d)::r else p::putFD f d r
theorem RepF.put {K:PySem.W.Frag} {H:Hp} {β:Bt} {f:Str} {d:D} {u:V} (rd:Rep K H β d u):∀ {fs:List (Str × D)} {vs:List (Str × V)},RepF K H β fs vs→RepF K H β (putFD f d fs) (putF f u vs)
 | [],[],_=>⟨rfl,.cons rd .nil⟩
 | [],_::_,h=>absurd (congrArg List.length h.1) (by simp)
 | _::_,[],h=>absurd (congrArg List.length h.1) (by simp)
 | p::fs,(g,v)::vs,h=>by
   obtain⟨h1,h2⟩:=h
   simp only[List.map_cons,List.cons.injEq] at h1
   cases h2 with
   | cons r t =>
     obtain⟨i1,i2⟩:=RepF.put rd (fs:=fs) (vs:=vs) ⟨h1.2,t⟩
     unfold putFD putF
     by_cases e:p.1=f
     · have e':g=f:=h1.1.symm.trans e
       rw[if_pos e,if_pos e']
       exact⟨by simp only[List.map_cons,h1.1,h1.2],.cons rd t⟩
     · have e':¬ g=f:=fun z=>e (h1.1.trans z)
       rw[if_neg e,if_neg e']
       exact⟨by simp only[List.map_cons,h1.1,i1],.cons r i2⟩
theorem RepF.length {K:PySem.W.Frag} {H:Hp} {β:Bt} {fs:List (Str × D)} {vs:List (Str × V)} (h:RepF K H β fs vs):vs.length=fs.length:=by
 have:=congrArg List.length h.1
 simpa using this.symm
/-- o.f=e -/
@[simp] def setF (cs:List Str) (f:Str) (x y:D) (st:AS):Out Unit:=match x with
 | .ref i=>(match st[i]? with
   | some (.obj c fs)=>if memS cs c=true∧fs.length<1000 then .ok () (st.set i (.obj c (putFD f y fs))) else .bad
   | _=>.bad)
 | _=>.bad
@[simp] def sFldV (cs:List Str) (f:Str) (fo fe:FE) (env:En) (st:AS):Fl:=(fe env st).fl fun y st=>(fo env st).fl fun x st=>(setF cs f x y st).fl fun _ st=>.nx env st
/-- o.f += e,o.f -= e: ints -/
@[simp] def clsOf (cs:List Str) (f:Str) (x:D) (st:AS):Option (Str × D):=match x with
 | .ref i=>(match st[i]? with
   | some (.obj c fs)=>if memS cs c=true then (lookS fs f).map fun d=>(c,d) else none
   | _=>none)
 | _=>none
@[simp] def sFldAugV (cs:List Str) (f:Str) (op:Int→Int→Int) (fo fe:FE) (env:En) (st:AS):Fl:=(fo env st).fl fun x st=>match clsOf cs f x st with
 | some cd=>(fe env st).fl fun b st=>(iiD (fun i j=>.int (op i j)) cd.2 b st).fl fun y st=>(setF [cd.1] f x y st).fl fun _ st=>.nx env st
 | none=>.bad
/-- C(e,..): the instance,then its __init__ -/
@[simp] def vMake (c:Str) (n:Nat) (ds:List D) (ss:List Src) (F:List D→AS→Out D) (fs:En→AS→Out (List D)) (env:En) (st:AS):Out D:=(fs env st).bind fun xs st=>if xs.length=n then
 (F (asm (.ref st.length::xs) [] ds ss) (st++[.obj c []])).bind fun r st'=>(match r with
   | .non=>.ok (.ref st.length) st'
   | _=>.bad) else .bad
end
end VL
namespace VL
open PySem PySem.Spec PyProof.Rows L2 TB
def intKeys:List (Key × D)→Option (List Int)
 | []=>some []
 | (.inl i,_)::r=>(intKeys r).map (i::·)
 | (.inr _,_)::_=>none
def strKeys:List (Key × D)→Option (List Str)
 | []=>some []
 | (.inr i,_)::r=>(strKeys r).map (i::·)
 | (.inl _,_)::_=>none
section
variable {X:Cx} {E:XK} {e:Expr} {es:List Expr} {fe:FE} {fs:En→AS→Out (List D)} {pos p:Pos}
@[simp] def sortKD (c:Bool) (x:D) (st:AS):Out D:=match dctOf st x with
 | some kvs=>(match intKeys kvs with
   | some ns=>if ns.length<64 then mk c ((sortI ns).map D.int) st else .bad
   | none=>(match strKeys kvs with
     | some xs=>if xs.length<64 then mk c ((sortS xs).map D.str) st else .bad
     | none=>.bad))
 | none=>.bad
@[simp] def dfD (g:List Int→Int) (xs:List D) (d:D) (st:AS):Out D:=match xs with
 | [x]=>(match listOf st x with
   | some ds=>(match intsOf ds with
     | some ns=>if ns=[] then .ok d st else .ok (.int (g ns)) st
     | none=>.bad)
   | none=>.bad)
 | _=>.bad
@[simp] def vMaxDf (fs:En→AS→Out (List D)) (fd:FE) (env:En) (st:AS):Out D:=(fs env st).bind fun xs st=>(fd env st).bind fun d st=>dfD maxI xs d st
@[simp] def vMinDf (fs:En→AS→Out (List D)) (fd:FE) (env:En) (st:AS):Out D:=(fs env st).bind fun xs st=>(fd env st).bind fun d st=>dfD minI xs d st
theorem df_ok {K : PySem.W.Frag} {mg : MG} {β : Bt} {H : Hp} {st : AS} {Q : VK} {xs : List D} {us : List V} {d : D} {v : V} {g : List Int → Int} (S : Sim K mg β st H) (r : Reps K H β xs us) (rd : Rep K H β d v) (h : Post K mg (rD K) E β H Q (dfD g xs d st)) :
   ∃ a ns,us=[.ref a]∧SqL K H a (ns.map V.int)∧(ns=[]→Q v H)∧(ns≠[]→Q (.int (g ns)) H):=by
 unfold dfD at h
 split at h
 · rename_i x
   obtain⟨w,rfl,rw'⟩:=one_ok r
   split at h
   · rename_i ds e
     split at h
     · rename_i ns en
       obtain⟨a,ws,rfl,hq,q⟩:=S.lists rw' e
       have z:=intsOf_eq en
       subst z
       have w:=q.ints
       subst w
       refine⟨a,ns,rfl,hq,fun z=>?_,fun z=>?_⟩
       · rw[if_pos z] at h
         exact h.here S rd
       · rw[if_neg z] at h
         exact h.here S (.int _)
     · exact h.elim
   · exact h.elim
 · exact h.elim
variable {d:Expr} {fd:FE} {kpos:Pos}
theorem ve_minDf (hc : X.calm = true) (hg : Gl X "min") (hm : X.mg "min" = none) (ha : VA X E [e] fs) (hd : VE X E d fd)
   (he:backTo pos (starEach [e] X.env)=(false,eval e X.env)::backTo pos (starEach [] X.env):=by rfl) (hpl:(backTo pos (starEach [e] X.env)).any (·.1)=false:=by rfl):VE X E (.Call (.Name "min" p) [e] [⟨some "default",d,kpos⟩] pos) (vMinDf fs fd):=by
 refine weakE (pe_callBK (cr_minDf hc) hg hm (by decide +kernel) ha (vk_cons hd vk_nil) (he:=he) (hpl:=hpl)) fun σ H Q ⟨β,env,st,hE,hS,h⟩=>?_
 refine tG_bind hE hS h fun xs st1 β1 H1 us x1 s1 e1 r1 h1=>?_
 refine⟨β1,env,st1,e1,s1,?_⟩
 unfold vCons vNil
 cases ev:fd env st1 with
 | bad=>rw[ev] at h1; exact h1.elim
 | exc c fs st2=>rw[ev] at h1; exact h1
 | ok dd st2 =>
   rw[ev] at h1
   intro β2 H2 zs x2 s2 r2
   obtain⟨z,rfl,rz⟩:=one_ok r2
   obtain⟨a,ns,rfl,hq,q1,q2⟩:=df_ok s2 (r1.ext x2) rz (Post.ext x2 h1)
   exact⟨a,ns,z,rfl,rfl,hq,q1,fun m h1 h2=>by rw[minI_eq h1 h2]; exact q2 (fun z=>by subst z; cases h1)⟩
@[simp] def ordCD (x:D) (st:AS):Out D:=match x with
 | .str z=>if z.length=1 then .ok (.int (z.cps.getD 0 0:Nat)) st else .bad
 | _=>.bad
end
end VL
namespace VL
open PySem
/-- it comes to a good end,with Q -/
def Out.sat {α:Type} (o:Out α) (Q:α→AS→Prop):Prop:=∃ a st,o = .ok a st∧Q a st
@[simp] theorem Out.sat_ok {α:Type} {a:α} {st:AS} {Q:α→AS→Prop}:(Out.ok a st).sat Q↔Q a st:=⟨fun ⟨_,_,e,q⟩=>by cases e; exact q,fun q=>⟨a,st,rfl,q⟩⟩
@[simp] theorem Out.sat_bad {α:Type} {Q:α→AS→Prop}:(Out.bad:Out α).sat Q↔False:=⟨fun ⟨_,_,e,_⟩=>(nomatch e),fun h=>h.elim⟩
@[simp] theorem Out.sat_exc {α:Type} {c:Str} {fs:List (Str × D)} {st:AS} {Q:α→AS→Prop}:(Out.exc c fs st:Out α).sat Q↔False:=⟨fun ⟨_,_,e,_⟩=>(nomatch e),fun h=>h.elim⟩
theorem Out.sat.mono {α:Type} {o:Out α} {Q R:α→AS→Prop} (h:o.sat Q) (f:∀ a st,Q a st→R a st):o.sat R:=by
 obtain⟨a,st,e,q⟩:=h
 exact⟨a,st,e,f a st q⟩
/-- statements: they go on,return,break or continue,with Q -/
inductive Fk where
 | nx (env:En) | rt (d:D) | bk (env:En) | ct (env:En)
def Fl.sat (o:Fl) (Q:Fk→AS→Prop):Prop:=match o with
 | .nx env st=>Q (.nx env) st
 | .rt d st=>Q (.rt d) st
 | .bk env st=>Q (.bk env) st
 | .ct env st=>Q (.ct env) st
 | .exc _ _ _=>False
 | .bad=>False
@[simp] theorem Fl.sat_nx {env:En} {st:AS} {Q:Fk→AS→Prop}:(Fl.nx env st).sat Q↔Q (.nx env) st:=Iff.rfl
@[simp] theorem Fl.sat_rt {d:D} {st:AS} {Q:Fk→AS→Prop}:(Fl.rt d st).sat Q↔Q (.rt d) st:=Iff.rfl
@[simp] theorem Fl.sat_bk {env:En} {st:AS} {Q:Fk→AS→Prop}:(Fl.bk env st).sat Q↔Q (.bk env) st:=Iff.rfl
@[simp] theorem Fl.sat_ct {env:En} {st:AS} {Q:Fk→AS→Prop}:(Fl.ct env st).sat Q↔Q (.ct env) st:=Iff.rfl
@[simp] theorem Fl.sat_bad {Q:Fk→AS→Prop}:(Fl.bad).sat Q↔False:=Iff.rfl
theorem Fl.sat.mono {o:Fl} {Q R:Fk→AS→Prop} (h:o.sat Q) (f:∀ k st,Q k st→R k st):o.sat R:=by
 cases o with
 | nx env st=>exact f _ _ h
 | rt d st=>exact f _ _ h
 | bk env st=>exact f _ _ h
 | ct env st=>exact f _ _ h
 | exc _ _ _=>exact h
 | bad=>exact h
theorem gd_nilOk {st:AS}:Gd.ok [] st:=fun _ h=>nomatch h
/-- but for cell i all that stood stands -/
structure But1 (i:Nat) (st st':AS):Prop where
 len:st.length≤st'.length
 at_:∀ j,j<st.length→j≠i→st'[j]? = st[j]?
theorem But1.refl (i:Nat) (st:AS):But1 i st st:=⟨Nat.le_refl _,fun _ _ _=>rfl⟩
theorem But1.trans {i:Nat} {a b c:AS} (h:But1 i a b) (k:But1 i b c):But1 i a c:=⟨Nat.le_trans h.len k.len,fun j hj hn=>(k.at_ j (Nat.lt_of_lt_of_le hj h.len) hn).trans (h.at_ j hj hn)⟩
theorem But1.set (i:Nat) (st:AS) (c:C):But1 i st (st.set i c):=⟨by simp,fun j hj hn=>by rw[List.getElem?_set_ne (Ne.symm hn)]⟩
theorem But1.push (i:Nat) (st:AS) (c:C):But1 i st (st++[c]):=⟨by simp,fun j hj hn=>by rw[List.getElem?_append_left hj]⟩
end VL
namespace VL
open PySem
theorem sIx_pos (n d:Nat) (k:Int) (hk:0≤k):HT.sIx n d (some k)=min k.toNat n:=by
 show (if k<0 then _ else _)=_
 rw[if_neg (by omega)]
theorem sIx_no (n d:Nat):HT.sIx n d none=d:=rfl
theorem cut_to {α:Type} (xs:List α) (k:Int) (hk:0≤k):VL.cut xs none (some k)=xs.take k.toNat:=by
 unfold VL.cut
 rw[sIx_pos _ _ k hk,sIx_no,List.drop_zero,Nat.sub_zero]
 by_cases h:k.toNat≤xs.length
 · rw[Nat.min_eq_left h]
 · rw[Nat.min_eq_right (by omega),List.take_length,List.take_of_length_le (by omega)]
theorem ixN_pos {n:Nat} {i:Int} (h:0≤i) (h2:i<n):L2.ixN n i=some i.toNat:=by
 unfold L2.ixN
 rw[if_pos h,if_pos h2]
theorem atI_pos {α:Type} {xs:List α} {i:Int} (h:0≤i) (h2:i<xs.length):L2.atI xs i=xs[i.toNat]?:=by
 unfold L2.atI
 rw[ixN_pos h h2]
 rfl
end VL
namespace VL
open PySem PySem.Spec PyProof.Rows L2 TB
/-- these slots are forgotten -/
@[simp] def killE:List Nat→En→En
 | [],env=>env
 | i::r,env=>killE r (env.set i none)
def Fl.kill (ks:List Nat):Fl→Fl
 | .nx env st=>.nx (killE ks env) st
 | .bk env st=>.bk (killE ks env) st
 | .ct env st=>.ct (killE ks env) st
 | .rt d st=>.rt d st
 | .exc c fs st=>.exc c fs st
 | .bad=>.bad
@[simp] theorem Fl.kill_nx (ks:List Nat) (env:En) (st:AS):(Fl.nx env st).kill ks = .nx (killE ks env) st:=rfl
@[simp] theorem Fl.kill_bk (ks:List Nat) (env:En) (st:AS):(Fl.bk env st).kill ks = .bk (killE ks env) st:=rfl
@[simp] theorem Fl.kill_ct (ks:List Nat) (env:En) (st:AS):(Fl.ct env st).kill ks = .ct (killE ks env) st:=rfl
@[simp] theorem Fl.kill_rt (ks:List Nat) (d:D) (st:AS):(Fl.rt d st).kill ks = .rt d st:=rfl
@[simp] theorem Fl.kill_exc (ks:List Nat) (c:Str) (fs:List (Str × D)) (st:AS):(Fl.exc c fs st).kill ks = .exc c fs st:=rfl
@[simp] theorem Fl.kill_bad (ks:List Nat):(Fl.bad).kill ks = .bad:=rfl
@[simp] def sKill (ks:List Nat) (f:En→AS→Fl) (env:En) (st:AS):Fl:=(f env st).kill ks
section
variable {K:PySem.W.Frag} {H:Hp} {β:Bt} {env:En} {σ:L2.St}
theorem EnvR.kill (e:EnvR K H β env σ):∀ ks:List Nat,EnvR K H β (killE ks env) σ:=by
 intro ks
 induction ks generalizing env with
 | nil=>exact e
 | cons i r ih =>
   refine ih (e.less (by simp) fun j d h=>?_)
   by_cases hj:j=i
   · subst hj
     have hl:j<env.length:=by
       have:=(List.getElem?_eq_some_iff.mp h).1
       simpa using this
     rw[List.getElem?_set_self hl] at h
     cases h
   · rw[List.getElem?_set_ne (Ne.symm hj)] at h
     exact h
end
section
variable {X:Cx} {E:XK} {s:Stmt} {ss:List Stmt} {f:En→AS→Fl}
theorem kill_post {K:PySem.W.Frag} {mg:MG} {β:Bt} {H:Hp} {De:Ends} (ks:List Nat) {o:Fl} (h:PostS K mg E β H De (o.kill ks)):PostS K mg E β H De o:=by
 cases o with
 | nx env st=>exact fun β' H' σ' x S e=>h β' H' σ' x S (e.kill ks)
 | bk env st=>exact fun β' H' σ' x S e=>h β' H' σ' x S (e.kill ks)
 | ct env st=>exact fun β' H' σ' x S e=>h β' H' σ' x S (e.kill ks)
 | rt d st=>exact h
 | exc c fs st=>exact h
 | bad=>exact h
theorem vss_kill (ks:List Nat) (h:VSs X E ss f):VSs X E ss (sKill ks f) :=
 weakSs h fun De σ H ⟨β,env,st,he,hs,h⟩=>⟨β,env,st,he,hs,kill_post ks h⟩
end
end VL
namespace VL
open PySem PySem.Spec PyProof.Rows L2 TB
section
variable {X:Cx} {E:XK} {o e:Expr} {es:List Expr} {fo fe:FE} {fs:En→AS→Out (List D)} {name:Str} {apos cpos pos:Pos} {id T:String}
@[simp] def tupFD (x:D) (st:AS):Out D:=match listOf st x with
 | some ds=>.ok (.ctp ds) st
 | none=>.bad
end
end VL
namespace VL
open PySem PySem.Spec PyProof.Rows L2 TB
section
variable {X:Cx} {E:XK} {o e e2:Expr} {es:List Expr} {fo fe fi:FE} {fs:En→AS→Out (List D)} {name:Str} {apos cpos pos:Pos} {id T:String}
@[simp] def tixD (x:D) (xs:List D) (st:AS):Out D:=match x,xs with
 | .ctp ds,[.str z]=>(match strsOf ds with
   | some ys=>if z∈ys then .ok (.int (ys.idxOf z:Nat)) st else .bad
   | none=>.bad)
 | _,_=>.bad
def isCtp:D→Bool
 | .ctp _=>true
 | _=>false
@[simp] def vMT (g:D→List D→AS→Out D) (fo:FE) (fs:En→AS→Out (List D)) (env:En) (st:AS):Out D:=(fo env st).bind fun x st=>if isCtp x=true then (fs env st).bind fun xs st=>g x xs st else .bad
end
end VL
namespace VL
open PySem PySem.Spec PyProof.Rows L2 TB
abbrev KF:List (List Key × V)→List (List Key × Addr × Value)→Prop:=Paired fun p q=>p.1=q.1∧RelV p.2 q.2.2
theorem KF.at {us:List (List Key × V)} {xs:List (List Key × Addr × Value)} (r:KF us xs) (k:List Key):RelO (valV us k) ((atKey xs k).map (·.2)):=by
 induction r with
 | nil=>exact True.intro
 | @cons p q ps qs h t ih =>
   by_cases e:p.1=k
   · have b:atKey (q::qs) k=some q.2:=by simp[atKey,List.find?_cons,h.1.symm.trans e]
     rw[valV_pos e,b]
     exact h.2
   · have e':¬ q.1=k:=fun z=>e (h.1.trans z)
     have b:atKey (q::qs) k=atKey qs k:=by simp[atKey,List.find?_cons,e']
     rw[valV_neg e,b]
     exact ih
theorem KF.swap {us:List (List Key × V)} {xs:List (List Key × Addr × Value)} (r:KF us xs) (k:List Key) {y:V} {u:Value} (ry:RelV y u):KF (us.map fun kv=>if kv.1=k then (kv.1,y) else kv) (xs.map (putAt k u)):=by
 induction r with
 | nil=>exact .nil
 | @cons p q ps qs h t ih =>
   simp only[List.map_cons]
   refine .cons ?_ ih
   unfold putAt
   by_cases e:p.1=k
   · rw[if_pos e,if_pos (h.1.symm.trans e)]
     exact⟨h.1,ry⟩
   · rw[if_neg e,if_neg (fun z=>e (h.1.trans z))]
     exact h
theorem KF.isSome {us:List (List Key × V)} {xs:List (List Key × Addr × Value)} (r:KF us xs) (k:List Key):(us.any fun kv=>decide (kv.1=k))=(atKey xs k).isSome:=by
 rw[valV_any,(r.at k).isSome_eq,Option.isSome_map]
theorem KF.put {us:List (List Key × V)} {xs:List (List Key × Addr × Value)} (r:KF us xs) (k:List Key) {b:Addr} {y:V} {u:Value} (ry:RelV y u):KF (putK us k y) (storedH xs k b u):=by
 unfold putK storedH
 rw[r.isSome k]
 by_cases q:(atKey xs k).isSome=true
 · rw[if_pos q,if_pos q]
   exact r.swap k ry
 · rw[if_neg q,if_neg q]
   exact Paired.snoc r ⟨rfl,ry⟩
section
variable {X:Cx} {pins:List (Addr × Obj)} {σ:L2.St} {H:Hp} {s:Shared} {a b:Addr} {us:List (List Key × V)} {bs:List Addr} {ks:List Key}
theorem key_sq (I:Inv X pins σ H s) (h:SqT X.K H b (ks.map kV)):(tupleKind (mixKind X.prog X.w)).is s.heap ks b:=by
 obtain⟨its,r,⟨o,h1,h2,n,h3⟩,_⟩:=I.tuple h
 exact⟨o,its.toArray,n,h1,h2,h3,by simpa using items_are r⟩
/-- the dict at a: what it holds,where its keys stand -/
structure DFat (X:Cx) (H:Hp) (a:Addr) (us:List (List Key × V)) (bs:List Addr):Prop where
 e:H a=some (dF X.w a us bs)
 keys:Paired (fun (p:List Key × V) b=>SqT X.K H b (p.1.map kV)) us bs
/-- to be read: as it is,or locked -/
structure DFr (X:Cx) (H:Hp) (a:Addr) (us:List (List Key × V)) (bs:List Addr):Prop where
 e:H a=some (dF X.w a us bs) ∨ ∃ z,H a=some (.frz z (dF X.w a us bs))
 keys:Paired (fun (p:List Key × V) b=>SqT X.K H b (p.1.map kV)) us bs
theorem DFat.r (F:DFat X H a us bs):DFr X H a us bs:=⟨.inl F.e,F.keys⟩
theorem DFr.get (F:DFr X H a us bs) (I:Inv X pins σ H s):us.length≤sizeLine∧(a==sysModules)=false ∧ ∃ xs,KF us xs∧xs.map (·.2.1)=bs∧s.heap.DictOfH (tupleKind (mixKind X.prog X.w)) a xs:=by
 have ok:ObjOk X.prog X.w H s.heap a (dF X.w a us bs):=by
   rcases F.e with e | ⟨z,e⟩
   · exact I.hok a _ e
   · exact (I.hok a _ e).2
 unfold dF at ok
 obtain⟨⟨h1,h2,xs,h3,h4,h5,o,es,ep,h6,h7,h8,h9⟩,_⟩:=ok
 refine⟨h1,h2,xs,h3,h4,o,es,ep,h6,h7,h8,h9,fun x hx=>?_,h5⟩
 have go:∀ {us:List (List Key × V)} {xs:List (List Key × Addr × Value)} {bs:List Addr},KF us xs→xs.map (·.2.1)=bs→Paired (fun (p:List Key × V) b=>SqT X.K H b (p.1.map kV)) us bs → ∀ x∈xs,(tupleKind (mixKind X.prog X.w)).is s.heap x.1 x.2.1:=by
   intro us xs bs r
   induction r generalizing bs with
   | nil=>intro _ _ x hx; cases hx
   | @cons p q ps qs h t ih =>
     intro e k x hx
     subst e
     cases k with
     | cons k1 k2 =>
       rcases List.mem_cons.mp hx with z | z
       · subst z
         rw[← h.1]
         exact key_sq I k1
       · exact ih rfl k2 x z
 exact go h3 h4 F.keys x hx
theorem DFat.get (F:DFat X H a us bs) (I:Inv X pins σ H s):us.length≤sizeLine∧(a==sysModules)=false ∧ ∃ xs,KF us xs∧xs.map (·.2.1)=bs∧s.heap.DictOfH (tupleKind (mixKind X.prog X.w)) a xs:=F.r.get I
end
section
variable {X:Cx} {E:XK} {o e:Expr} {es:List Expr} {fo fe fi:FE} {fs:En→AS→Out (List D)} {apos cpos pos:Pos}
@[simp] def vDNewF (_:En) (st:AS):Out D:=.ok (.ref st.length) (st++[.dtf []])
/-- what a cell of this kind has at a key -/
@[simp] def cellF (st:AS) (x:D):Option (List (List Key × D)):=match x with
 | .ref i=>(match st[i]? with
   | some (.dtf kvs)=>some kvs
   | _=>none)
 | _=>none
@[simp] def keyF (y:D):Option (List Key):=match y with
 | .ctp ks=>keysD ks
 | _=>none
theorem kDs_V {K:PySem.W.Frag} {H:Hp} {β:Bt}:∀ {ks:List Key} {us:List V},Reps K H β (ks.map kD) us→us=ks.map kV
 | [],_,r=>by cases r; rfl
 | k::ks,_,r=>by
   cases r with
   | cons r t =>
     rw[kDs_V t]
     cases k <;> (cases r; rfl)
theorem keys_at {K:PySem.W.Frag} {H:Hp} {β:Bt}:∀ {kvs:List (List Key × D)} {us:List (List Key × V)} {bs:List Addr},RepK K H β kvs us→Reps K H β (kvs.map fun p=>.ctp (p.1.map kD)) (bs.map V.ref)→Paired (fun (p:List Key × V) b=>SqT K H b (p.1.map kV)) us bs
 | [],us,[],r,t=>by
   have:us=[]:=List.length_eq_zero_iff.mp r.length
   subst this
   exact .nil
 | [],us,_::_,r,t=>by cases t
 | p::kvs,us,[],r,t=>by cases t
 | p::kvs,us,b::bs,r,t=>by
   cases us with
   | nil=>exact absurd r.length (by simp)
   | cons u us =>
     obtain⟨r1,r2⟩:=r
     simp only[List.map_cons,List.cons.injEq] at r1
     cases r2 with
     | cons _ r3 =>
       cases t with
       | cons q t =>
         refine .cons ?_ (keys_at ⟨r1.2,r3⟩ t)
         cases q with
         | ctp hc q =>
           rw[← r1.1,← kDs_V q]
           exact hc.sq
/-- a cell of this kind,locked or not -/
@[simp] def cellR (st:AS) (x:D):Option (List (List Key × D)):=match x with
 | .ref i=>(match st[i]? with
   | some (.dtf kvs)=>some kvs
   | some (.lcf kvs)=>some kvs
   | _=>none)
 | _=>none
@[simp] def vGetF (fo:FE) (fs:En→AS→Out (List D)) (env:En) (st:AS):Out D:=(fo env st).bind fun x st=>match cellF st x with
 | some _=>(fs env st).bind fun xs st=>(match xs with
   | [y,z]=>(match cellF st x,keyF y with
     | some kvs,some k=>.ok ((valK kvs k).getD z) st
     | _,_=>.bad)
   | _=>.bad)
 | none=>.bad
@[simp] def ixF (x y:D) (st:AS):Out D:=match cellR st x,keyF y with
 | some kvs,some k=>toOut (valK kvs k) st
 | _,_=>.bad
@[simp] def putF' (o i v:D) (st:AS):Out Unit:=match o with
 | .ref n=>(match cellF st o,keyF i with
   | some kvs,some k=>if kvs.length<sizeLine then .ok () (st.set n (.dtf (putKD kvs k v))) else .bad
   | _,_=>.bad)
 | _=>.bad
@[simp] def kSubF (fo fi:En→AS→Out D) (d:D) (env:En) (st:AS):Out En:=(fo env st).bind fun o st=>(fi env st).bind fun i st=>(putF' o i d st).bind fun _ st=>.ok env st
end
end VL
namespace TB
open PySem PySem.Spec PyProof.Rows L2
end TB
namespace VL
open PySem PySem.Spec PyProof.Rows L2 TB
theorem _root_.TB.FnG.up {P:Program} {w:World} {K:PySem.W.Frag} {mg:Str→Option Value} {base:Heap} {CX:CXT} {k k':Nat} {f:Addr} {fd:FuncData} {ps:List Str} {sp:Sp} (F:FnG P w K mg base CX k f fd ps sp) (h:k≤k'):FnG P w K mg base CX k' f fd ps sp :=
 ⟨F.len,fun A hg hr=>F.run A hg (hr.mono h)⟩
section
variable {K:PySem.W.Frag} {mg:MG} {β β':Bt} {H H':Hp} {st:AS}
abbrev tri (ds es fs:List D):List D:=(ds.zip (es.zip fs)).map fun p=>.tup [p.1,p.2.1,p.2.2]
end
section
variable {X:Cx} {E:XK} {e e2 e3:Expr} {fs:En→AS→Out (List D)} {pos p:Pos}
@[simp] def zip3D (xs:List D) (st:AS):Out (List D × Gd):=match xs with
 | [d,e,f]=>if isTupD d=true∧isTupD e=true then (match seqOf st d,seqOf st e,seqOf st f with
   | some ds,some es,some fs=>.ok (tri ds es fs,gdOf d ds++(gdOf e es++gdOf f fs)) st
   | _,_,_=>.bad) else .bad
 | _=>.bad
end
end VL
namespace G
open PySem VL
section
variable {κ α β:Type} [DecidableEq κ]
def has (l:List (κ × α)) (k:κ):Bool:=l.any fun p=>decide (p.1=k)
def look (l:List (κ × α)) (k:κ):Option α:=(l.find? fun p=>decide (p.1=k)).map (·.2)
def put (l:List (κ × α)) (k:κ) (v:α):List (κ × α):=if has l k=true then l.map fun p=>if p.1=k then (p.1,v) else p else l++[(k,v)]
theorem look_cons (p:κ × α) (l:List (κ × α)) (k:κ):look (p::l) k=if p.1=k then some p.2 else look l k:=by
 unfold look
 by_cases h:p.1=k <;> simp[List.find?_cons,h]
@[simp] theorem look_nil (k:κ):look ([]:List (κ × α)) k=none:=rfl
@[simp] theorem has_nil (k:κ):has ([]:List (κ × α)) k=false:=rfl
theorem has_cons (p:κ × α) (l:List (κ × α)) (k:κ):has (p::l) k=(decide (p.1=k)||has l k):=rfl
theorem has_look (l:List (κ × α)) (k:κ):has l k=(look l k).isSome:=by
 induction l with
 | nil=>rfl
 | cons p l ih =>
   rw[has_cons,look_cons,ih]
   by_cases h:p.1=k <;> simp[h]
theorem look_rep (l:List (κ × α)) (k:κ) (v:α) (j:κ):look (l.map fun p=>if p.1=k then (p.1,v) else p) j=if j=k then (look l k).map fun _=>v else look l j:=by
 induction l with
 | nil=>by_cases h:j=k <;> simp[h]
 | cons p l ih =>
   rw[List.map_cons,look_cons,ih,look_cons,look_cons]
   by_cases hp:p.1=k
   · by_cases hj:j=k
     · simp[hp,hj]
     · have:¬ k=j:=Ne.symm hj
       simp[hp,hj,this]
   · by_cases hj:j=k
     · simp[hp,hj]
     · simp[hp,hj]
theorem look_app (l:List (κ × α)) (k:κ) (v:α) (j:κ):look (l++[(k,v)]) j=(look l j).or (if k=j then some v else none):=by
 induction l with
 | nil=>simp[look_cons]
 | cons p l ih =>
   rw[List.cons_append,look_cons,ih,look_cons]
   by_cases hp:p.1=j <;> simp[hp]
theorem look_put (l:List (κ × α)) (k:κ) (v:α) (j:κ):look (put l k v) j=if j=k then some v else look l j:=by
 unfold put
 rw[has_look]
 cases h:look l k with
 | none =>
   rw[if_neg (by simp),look_app]
   by_cases hj:j=k
   · subst hj
     simp[h]
   · have:¬ k=j:=Ne.symm hj
     simp[hj,this]
 | some u =>
   rw[if_pos (by simp),look_rep,h]
   rfl
theorem look_mem {l:List (κ × α)} {k:κ} {v:α} (h:look l k=some v):(k,v)∈l:=by
 induction l with
 | nil=>cases h
 | cons p l ih =>
   rw[look_cons] at h
   by_cases hp:p.1=k
   · rw[if_pos hp] at h
     cases h
     subst hp
     exact List.mem_cons_self
   · rw[if_neg hp] at h
     exact List.mem_cons_of_mem _ (ih h)
theorem put_keys (l:List (κ × α)) (k:κ) (v:α):(put l k v).map (·.1)=if has l k=true then l.map (·.1) else l.map (·.1)++[k]:=by
 unfold put
 split
 · rw[List.map_map]
   apply List.map_congr_left
   intro p _
   show (if p.1=k then (p.1,v) else p).1=p.1
   split <;> rfl
 · rw[List.map_append]
   rfl
theorem mem_keys {l:List (κ × α)} {k:κ}:has l k=true↔k∈l.map (·.1):=by
 unfold has
 rw[List.any_eq_true,List.mem_map]
 exact⟨fun ⟨p,h1,h2⟩=>⟨p,h1,of_decide_eq_true h2⟩,fun ⟨p,h1,h2⟩=>⟨p,h1,decide_eq_true h2⟩⟩
theorem put_nodup {l:List (κ × α)} (h:(l.map (·.1)).Nodup) (k:κ) (v:α):((put l k v).map (·.1)).Nodup:=by
 rw[put_keys]
 split
 · exact h
 · rename_i hk
   rw[List.nodup_append]
   refine⟨h,by simp,fun a ha b hb=>?_⟩
   rw[List.mem_singleton.mp hb]
   rintro rfl
   exact hk (mem_keys.mpr ha)
end
section
variable {κ κ' α:Type} [DecidableEq κ] [DecidableEq κ'] (f:κ→κ') (g:α→D) (hf:∀ a b,f a=f b→a=b)
def enK (l:List (κ × α)):List (κ' × D):=l.map fun p=>(f p.1,g p.2)
@[simp] theorem enK_nil:enK f g ([]:List (κ × α))=[]:=rfl
theorem enK_length (l:List (κ × α)):(enK f g l).length=l.length:=by simp[enK]
include hf
theorem enK_find (l:List (κ × α)) (k:κ):(enK f g l).find? (fun kv=>decide (kv.1=f k))=(l.find? fun p=>decide (p.1=k)).map fun p=>(f p.1,g p.2):=by
 induction l with
 | nil=>rfl
 | cons p l ih =>
   unfold enK at ih ⊢
   rw[List.map_cons,List.find?_cons,List.find?_cons,ih]
   by_cases h:p.1=k
   · simp[h]
   · have:¬ f p.1=f k:=fun z=>h (hf _ _ z)
     simp[h,this]
theorem valK_enK (l:List (κ × α)) (k:κ):valK (enK f g l) (f k)=(look l k).map g:=by
 unfold valK look
 rw[enK_find f g hf,Option.map_map,Option.map_map]
 rfl
theorem any_enK (l:List (κ × α)) (k:κ):((enK f g l).any fun kv=>decide (kv.1=f k))=has l k:=by
 unfold enK has
 rw[List.any_map]
 congr 1
 funext p
 show decide (f p.1=f k)=decide (p.1=k)
 by_cases h:p.1=k
 · simp[h]
 · have:¬ f p.1=f k:=fun z=>h (hf _ _ z)
   simp[h,this]
theorem putKD_enK (l:List (κ × α)) (k:κ) (v:α):putKD (enK f g l) (f k) (g v)=enK f g (put l k v):=by
 unfold putKD put
 rw[any_enK f g hf]
 by_cases h:has l k=true
 · rw[if_pos h,if_pos h]
   unfold enK
   rw[List.map_map,List.map_map]
   apply List.map_congr_left
   intro p _
   show (if f p.1=f k then (f p.1,g v) else (f p.1,g p.2))=(f (if p.1=k then (p.1,v) else p).1,g (if p.1=k then (p.1,v) else p).2)
   by_cases e:p.1=k
   · rw[if_pos (by rw[e]),if_pos e]
   · rw[if_neg (fun z=>e (hf _ _ z)),if_neg e]
 · rw[if_neg h,if_neg h]
   unfold enK
   rw[List.map_append]
   rfl
end
theorem comp_en {α : Type} {g : D → En → AS → Out En} {t : En → AS → Out Bool} {f : En → AS → Out D} {env : En} {gs : Gd} {st : AS} (e : α → D) (p : α → Bool) (h : α → D) (hg : gs.ok st) : ∀ (xs : List α),
   (∀ x∈xs,∃ env1,g (e x) env st = .ok env1 st∧t env1 st = .ok (p x) st∧(p x=true→f env1 st = .ok (h x) st))→compL g t f env gs (xs.map e) st = .ok ((xs.filter p).map h) st
 | [],_=>by rw[List.map_nil,compL,if_pos hg]; rfl
 | x::xs,hx=>by
   obtain⟨env1,e1,e2,e3⟩:=hx x List.mem_cons_self
   have ih:=comp_en e p h hg xs fun y hy=>hx y (List.mem_cons_of_mem _ hy)
   rw[List.map_cons,compL,if_pos hg,e1]
   simp only[Out.ne_ok,Out.bind_ok,e2]
   cases z:p x with
   | false=>simp[ih,z]
   | true=>simp[ih,z,e3 z]
/-- without a condition -/
theorem comp_all {α : Type} {g : D → En → AS → Out En} {t : En → AS → Out Bool} {f : En → AS → Out D} {env : En} {gs : Gd} {st : AS} (e : α → D) (h : α → D) (hg : gs.ok st) (xs : List α)
   (hx:∀ x∈xs,∃ env1,g (e x) env st = .ok env1 st∧t env1 st = .ok true st∧f env1 st = .ok (h x) st):compL g t f env gs (xs.map e) st = .ok (xs.map h) st:=by
 have:=comp_en (g:=g) (t:=t) (f:=f) (env:=env) e (fun _=>true) h hg xs fun x m=>by
   obtain⟨env1,e1,e2,e3⟩:=hx x m
   exact⟨env1,e1,e2,fun _=>e3⟩
 rw[this,List.filter_eq_self.mpr (fun _ _=>rfl)]
theorem ok_nil {st:AS}:Gd.ok [] st:=fun _ h=>nomatch h
theorem ok_one {st:AS} {i:Nat} {c:C} (h:st[i]? = some c):Gd.ok [(i,c)] st:=fun p hp=>by cases List.mem_singleton.mp hp; exact h
end G
namespace KT
/-- what is left of those that end by e -/
def sumE (e:Int):List (Int × Int)→Int
 | []=>0
 | x::t=>(if x.1≤e then x.2 else 0)+sumE e t
theorem sumE_nn {e:Int}:∀ {t:List (Int × Int)},(∀ x∈t,0≤x.2)→0≤sumE e t
 | [],_=>Int.le_refl 0
 | x::t,h=>by
   have h1:=h x List.mem_cons_self
   have h2:=sumE_nn (e:=e) (t:=t) fun y hy=>h y (List.mem_cons_of_mem _ hy)
   unfold sumE
   split <;> omega
theorem sumE_out {e:Int}:∀ {t:List (Int × Int)},(∀ x∈t,e<x.1)→sumE e t=0
 | [],_=>rfl
 | x::t,h=>by
   have h1:=h x List.mem_cons_self
   have h2:=sumE_out (e:=e) (t:=t) fun y hy=>h y (List.mem_cons_of_mem _ hy)
   unfold sumE
   rw[if_neg (by omega),h2]
   rfl
end KT
namespace KT
abbrev Ent:=(Int × Int) × Int
def S (P:Int × Int→Bool):List Ent→Int
 | []=>0
 | x::t=>(if P x.1=true then x.2 else 0)+S P t
theorem S_congr {P Q:Int × Int→Bool}:∀ {L:List Ent},(∀ x∈L,P x.1=Q x.1)→S P L=S Q L
 | [],_=>rfl
 | x::t,h=>by
   unfold S
   rw[h x List.mem_cons_self,S_congr fun y hy=>h y (List.mem_cons_of_mem _ hy)]
theorem S_nn {P:Int × Int→Bool}:∀ {L:List Ent},(∀ x∈L,0≤x.2)→0≤S P L
 | [],_=>Int.le_refl 0
 | x::t,h=>by
   have h1:=h x List.mem_cons_self
   have h2:=S_nn (P:=P) (L:=t) fun y hy=>h y (List.mem_cons_of_mem _ hy)
   unfold S
   split <;> omega
/-- two that never hold together -/
theorem S_or {P Q:Int × Int→Bool}:∀ {L:List Ent},(∀ x∈L,P x.1=true→Q x.1=false)→S (fun k=>P k||Q k) L=S P L+S Q L
 | [],_=>rfl
 | x::t,h=>by
   have h1:=h x List.mem_cons_self
   have h2:=S_or (P:=P) (Q:=Q) (L:=t) fun y hy=>h y (List.mem_cons_of_mem _ hy)
   unfold S
   rw[h2]
   cases hp:P x.1 with
   | true=>simp[h1 hp]; omega
   | false=>cases hq:Q x.1 <;> simp <;> omega
theorem S_mono {P Q:Int × Int→Bool}:∀ {L:List Ent},(∀ x∈L,0≤x.2)→(∀ x∈L,P x.1=true→Q x.1=true)→S P L≤S Q L
 | [],_,_=>Int.le_refl 0
 | x::t,hn,h=>by
   have h0:=hn x List.mem_cons_self
   have h1:=h x List.mem_cons_self
   have h2:=S_mono (P:=P) (Q:=Q) (L:=t) (fun y hy=>hn y (List.mem_cons_of_mem _ hy)) fun y hy=>h y (List.mem_cons_of_mem _ hy)
   unfold S
   cases hp:P x.1 with
   | true=>simp[h1 hp]; omega
   | false=>cases hq:Q x.1 <;> simp <;> omega
theorem S_none {P:Int × Int→Bool}:∀ {L:List Ent},(∀ x∈L,P x.1=false)→S P L=0
 | [],_=>rfl
 | x::t,h=>by
   unfold S
   rw[h x List.mem_cons_self,S_none fun y hy=>h y (List.mem_cons_of_mem _ hy)]
   rfl
/-- one minute: of those that wait,those that end first are laid; the others stay -/
structure Min (F:Int) (t:Int) (L L':List Ent):Prop where
 key:L'.map (·.1)=L.map (·.1)
 nn:∀ x∈L',0≤x.2
 lay:∀ e:Int,S (fun k=>decide (k.1≤t∧t<k.2∧k.2≤e)) L'=max 0 (S (fun k=>decide (k.1≤t∧t<k.2∧k.2≤e)) L-F)
 stay:∀ P:Int × Int→Bool,(∀ x∈L,P x.1=true→¬ (x.1.1≤t∧t<x.1.2))→S P L'=S P L
/-- what is known at a minute,by what there was at first -/
structure Inv (F:Int) (L0:List Ent) (t:Int) (L:List Ent):Prop where
 key:L.map (·.1)=L0.map (·.1)
 nn:∀ x∈L,0≤x.2
 late:S (fun k=>decide (k.2≤t)) L=0
 busy:∀ e:Int,∃ s:Int,s≤t∧S (fun k=>decide (k.1<t∧k.2≤e)) L+F*(t-s)≤S (fun k=>decide (s≤k.1∧k.1<t∧k.2≤e)) L0
 rest:∀ P:Int × Int→Bool,(∀ x∈L0,P x.1=true→t≤x.1.1)→S P L=S P L0
theorem key_mem {L L0:List Ent} (h:L.map (·.1)=L0.map (·.1)) {x:Ent} (hx:x∈L):∃ y∈L0,y.1=x.1:=by
 have:x.1∈L0.map (·.1):=by rw[← h]; exact List.mem_map_of_mem hx
 obtain⟨y,hy,e⟩:=List.mem_map.mp this
 exact⟨y,hy,e⟩
variable {F:Int} {L0:List Ent}
theorem inv_late {t : Int} {L : List Ent} (ok : ∀ x ∈ L0, 0 ≤ x.1.1 ∧ x.1.1 ≤ x.1.2 ∧ 0 ≤ x.2) (nf : ∀ s e : Int, s ≤ e → S (fun k => decide (s ≤ k.1 ∧ k.2 ≤ e)) L0 ≤ F * (e - s)) (key : L.map (·.1) = L0.map (·.1)) (nn : ∀ x ∈ L, 0 ≤ x.2)
   (busy:∃ s:Int,s≤t∧S (fun k=>decide (k.1<t∧k.2≤t)) L+F*(t-s)≤S (fun k=>decide (s≤k.1∧k.1<t∧k.2≤t)) L0)
   (rest:∀ P:Int × Int→Bool,(∀ x∈L0,P x.1=true→t≤x.1.1)→S P L=S P L0):S (fun k=>decide (k.2≤t)) L=0:=by
 obtain⟨s,hs,hb⟩:=busy
 have e1:S (fun k=>decide (k.2≤t)) L=S (fun k=>decide (k.1<t∧k.2≤t)) L+S (fun k=>decide (t≤k.1∧k.2≤t)) L:=by
   rw[← S_or fun x _ h=>by simp at h ⊢; omega]
   refine S_congr fun x _=>?_
   rw[Bool.eq_iff_iff]
   simp
   omega
 have e2:S (fun k=>decide (s≤k.1∧k.2≤t)) L0=S (fun k=>decide (s≤k.1∧k.1<t∧k.2≤t)) L0+S (fun k=>decide (t≤k.1∧k.2≤t)) L0:=by
   rw[← S_or fun x _ h=>by simp at h ⊢; omega]
   refine S_congr fun x _=>?_
   rw[Bool.eq_iff_iff]
   simp
   omega
 have e3:=rest (fun k=>decide (t≤k.1∧k.2≤t)) fun x _ h=>by simp at h; exact h.1
 have n1:=S_nn (P:=fun k=>decide (k.2≤t)) nn
 have f:=nf s t hs
 omega
theorem inv_start (ok:∀ x∈L0,0≤x.1.1∧x.1.1≤x.1.2∧0≤x.2) (nf:∀ s e:Int,s≤e→S (fun k=>decide (s≤k.1∧k.2≤e)) L0≤F*(e-s)):Inv F L0 0 L0:=by
 have bz:∀ e:Int,∃ s:Int,s≤0∧S (fun k=>decide (k.1<0∧k.2≤e)) L0+F*(0-s)≤S (fun k=>decide (s≤k.1∧k.1<0∧k.2≤e)) L0:=fun e=>by
   refine⟨0,Int.le_refl 0,?_⟩
   rw[S_none fun x hx=>by have:=ok x hx; simp; omega,S_none fun x hx=>by have:=ok x hx; simp; omega]
   simp
 exact⟨rfl,fun x hx=>(ok x hx).2.2,inv_late ok nf rfl (fun x hx=>(ok x hx).2.2) (bz 0) fun _ _=>rfl,bz,fun _ _=>rfl⟩
theorem inv_step {t:Int} {L L':List Ent} (f0:0≤F) (ok:∀ x∈L0,0≤x.1.1∧x.1.1≤x.1.2∧0≤x.2) (nf:∀ s e:Int,s≤e→S (fun k=>decide (s≤k.1∧k.2≤e)) L0≤F*(e-s)) (h:Inv F L0 t L) (m:Min F t L L'):Inv F L0 (t+1) L':=by
 have key:=m.key.trans h.key
 have rest:∀ P:Int × Int→Bool,(∀ x∈L0,P x.1=true→t+1≤x.1.1)→S P L'=S P L0:=fun P hP=>by
   rw[m.stay P fun x hx hp=>by
     obtain⟨y,hy,e⟩:=key_mem h.key hx
     have:=hP y hy (by rw[e]; exact hp)
     rw[e] at this
     omega]
   exact h.rest P fun x hx hp=>by have:=hP x hx hp; omega
 have busy:∀ e:Int,∃ s:Int,s≤t+1∧S (fun k=>decide (k.1<t+1∧k.2≤e)) L'+F*(t+1-s)≤S (fun k=>decide (s≤k.1∧k.1<t+1∧k.2≤e)) L0:=fun e=>by
   obtain⟨s,hs,hb⟩:=h.busy e
   -- those that are over have nothing left
   have over:∀ M:List Ent,S (fun k=>decide (k.1<t+1∧k.2≤e)) M=S (fun k=>decide (k.1≤t∧t<k.2∧k.2≤e)) M+S (fun k=>decide (k.1<t+1∧k.2≤e∧k.2≤t)) M:=fun M=>by
     rw[← S_or fun x _ h=>by simp at h ⊢; omega]
     refine S_congr fun x _=>?_
     rw[Bool.eq_iff_iff]
     simp
     omega
   have z1:S (fun k=>decide (k.1<t+1∧k.2≤e∧k.2≤t)) L=0:=by
     have a:=S_mono (P:=fun k=>decide (k.1<t+1∧k.2≤e∧k.2≤t)) (Q:=fun k=>decide (k.2≤t)) h.nn fun x _ q=>by simp at q ⊢; exact q.2.2
     have b:=S_nn (P:=fun k=>decide (k.1<t+1∧k.2≤e∧k.2≤t)) h.nn
     have c:=h.late
     omega
   have z2:S (fun k=>decide (k.1<t+1∧k.2≤e∧k.2≤t)) L'=0:=by
     rw[m.stay _ fun x _ q=>by simp at q; omega]
     exact z1
   have ly:=m.lay e
   have o1:=over L
   have o2:=over L'
   -- those that are new
   have new:∀ M:List Ent,S (fun k=>decide (k.1<t+1∧k.2≤e)) M=S (fun k=>decide (k.1<t∧k.2≤e)) M+S (fun k=>decide (k.1=t∧k.2≤e)) M:=fun M=>by
     rw[← S_or fun x _ h=>by simp at h ⊢; omega]
     refine S_congr fun x _=>?_
     rw[Bool.eq_iff_iff]
     simp
     omega
   have n1:=new L
   have n2:=h.rest (fun k=>decide (k.1=t∧k.2≤e)) fun x _ q=>by simp at q; omega
   by_cases z:S (fun k=>decide (k.1<t+1∧k.2≤e)) L≤F
   · refine⟨t+1,Int.le_refl _,?_⟩
     have nn0:=S_nn (P:=fun k=>decide (t+1≤k.1∧k.1<t+1∧k.2≤e)) (L:=L0) fun x hx=>(ok x hx).2.2
     rw[Int.sub_self,Int.mul_zero]
     omega
   · refine⟨s,by omega,?_⟩
     have sp:S (fun k=>decide (s≤k.1∧k.1<t+1∧k.2≤e)) L0=S (fun k=>decide (s≤k.1∧k.1<t∧k.2≤e)) L0+S (fun k=>decide (k.1=t∧k.2≤e)) L0:=by
       rw[← S_or fun x _ h=>by simp at h ⊢; omega]
       refine S_congr fun x _=>?_
       rw[Bool.eq_iff_iff]
       simp
       omega
     have fm:F*(t+1-s)=F*(t-s)+F:=by
       rw[show t+1-s=(t-s)+1 by omega,Int.mul_add,Int.mul_one]
     omega
 exact⟨key,m.nn,inv_late ok nf key m.nn (busy (t+1)) rest,busy,rest⟩
end KT
namespace KT
theorem least (f:Ent→Int):∀ {M:List Ent},M≠[] → ∃ x∈M,∀ y∈M,f x≤f y
 | [],h=>absurd rfl h
 | [x],_=>⟨x,List.mem_cons_self,fun y hy=>by rw[List.mem_singleton.mp hy]; exact Int.le_refl _⟩
 | x::z::M,_=>by
   obtain⟨w,hw,hm⟩:=least f (M:=z::M) (by simp)
   by_cases q:f x≤f w
   · refine⟨x,List.mem_cons_self,fun y hy=>?_⟩
     rcases List.mem_cons.mp hy with rfl | hy
     · exact Int.le_refl _
     · have:=hm y hy; omega
   · refine⟨w,List.mem_cons_of_mem _ hw,fun y hy=>?_⟩
     rcases List.mem_cons.mp hy with rfl | hy
     · omega
     · exact hm y hy
theorem nf_all {F:Int} {L0:List Ent} (f0:0≤F) (ok:∀ x∈L0,0≤x.1.1∧x.1.1≤x.1.2∧0≤x.2) (h:∀ x∈L0,∀ y∈L0,x.1.1≤y.1.2→S (fun k=>decide (x.1.1≤k.1∧k.2≤y.1.2)) L0≤F*(y.1.2-x.1.1)):∀ s e:Int,s≤e→S (fun k=>decide (s≤k.1∧k.2≤e)) L0≤F*(e-s):=fun s e hse=>by
 obtain⟨M,hM⟩:∃ M,M=L0.filter fun x=>decide (s≤x.1.1∧x.1.2≤e):=⟨_,rfl⟩
 have mem:∀ x,x∈M↔x∈L0∧s≤x.1.1∧x.1.2≤e:=fun x=>by rw[hM,List.mem_filter,decide_eq_true_eq]
 by_cases hn:M=[]
 · rw [S_none fun x hx => by
     rw[decide_eq_false_iff_not]
     intro q
     have:=(mem x).mpr ⟨hx,q⟩
     rw[hn] at this
     cases this]
   exact Int.mul_nonneg f0 (by omega)
 · obtain⟨x,hx,lx⟩:=least (fun x=>x.1.1) hn
   obtain⟨y,hy,ly⟩:=least (fun x=>- x.1.2) hn
   obtain⟨x1,x2,x3⟩:=(mem x).mp hx
   obtain⟨y1,y2,y3⟩:=(mem y).mp hy
   have okx:=ok x x1
   have q1 : -y.1.2 ≤ -x.1.2:=ly x hx
   have xy:x.1.1≤y.1.2:=by omega
   have f:=h x x1 y y1 xy
   have e1:S (fun k=>decide (s≤k.1∧k.2≤e)) L0=S (fun k=>decide (x.1.1≤k.1∧k.2≤y.1.2)) L0:=S_congr fun z hz=>by
     rw[Bool.eq_iff_iff,decide_eq_true_eq,decide_eq_true_eq]
     constructor
     · intro q
       have hm:=(mem z).mpr ⟨hz,q⟩
       have a:x.1.1≤z.1.1:=lx z hm
       have b : -y.1.2 ≤ -z.1.2:=ly z hm
       omega
     · intro q
       omega
   rw[e1]
   have:F*(y.1.2-x.1.1)≤F*(e-s):=Int.mul_le_mul_of_nonneg_left (by omega) f0
   omega
/-- minute by minute -/
theorem inv_all {F:Int} {L0:List Ent} (f0:0≤F) (ok:∀ x∈L0,0≤x.1.1∧x.1.1≤x.1.2∧0≤x.2) (h:∀ x∈L0,∀ y∈L0,x.1.1≤y.1.2→S (fun k=>decide (x.1.1≤k.1∧k.2≤y.1.2)) L0≤F*(y.1.2-x.1.1)) (L:Nat→List Ent) (h0:L 0=L0) (hs:∀ t:Nat,Min F t (L t) (L (t+1))):∀ t:Nat,Inv F L0 t (L t)
 | 0=>by
   rw[h0]
   exact inv_start ok (nf_all f0 ok h)
 | t+1=>inv_step f0 ok (nf_all f0 ok h) (inv_all f0 ok h L h0 hs t) (hs t)
/-- behind all ends nothing is left -/
theorem none_left {F:Int} {L0:List Ent} (f0:0≤F) (ok:∀ x∈L0,0≤x.1.1∧x.1.1≤x.1.2∧0≤x.2) (h:∀ x∈L0,∀ y∈L0,x.1.1≤y.1.2→S (fun k=>decide (x.1.1≤k.1∧k.2≤y.1.2)) L0≤F*(y.1.2-x.1.1)) (L:Nat→List Ent) (h0:L 0=L0) (hs:∀ t:Nat,Min F t (L t) (L (t+1))) {t:Nat} (ht:∀ x∈L0,x.1.2≤t):∀ x∈L t,x.2=0:=by
 have i:=inv_all f0 ok h L h0 hs t
 have z:=i.late
 have all:∀ x∈L t,x.1.2≤t:=fun x hx=>by
   obtain⟨y,hy,e⟩:=key_mem i.key hx
   rw[← e]
   exact ht y hy
 have nn:=i.nn
 generalize L t=M at *
 clear i
 have go:∀ M:List Ent,(∀ x∈M,0≤x.2)→(∀ x∈M,x.1.2≤(t:Int))→S (fun k=>decide (k.2≤(t:Int))) M=0 → ∀ x∈M,x.2=0:=by
   intro M
   induction M with
   | nil=>intro _ _ _ x hx; cases hx
   | cons y M ih =>
     intro nn al z x hx
     have n1:=nn y List.mem_cons_self
     have n2:=S_nn (P:=fun k=>decide (k.2≤(t:Int))) (L:=M) fun w hw=>nn w (List.mem_cons_of_mem _ hw)
     unfold S at z
     rw[if_pos (by simpa using al y List.mem_cons_self)] at z
     rcases List.mem_cons.mp hx with rfl | hx
     · omega
     · exact ih (fun w hw=>nn w (List.mem_cons_of_mem _ hw)) (fun w hw=>al w (List.mem_cons_of_mem _ hw)) (by omega) x hx
 exact go M nn all z
end KT
namespace KT
/-- the jobs of a turn,one after another: room,what is left of each -/
def layI:Int→List Nat→List Int→List Int
 | _,[],l=>l
 | r,j::js,l=>layI (r-min r (l.getD j 0)) js (l.set j (l.getD j 0-min r (l.getD j 0)))
theorem layI_len:∀ (js:List Nat) (r:Int) (l:List Int),(layI r js l).length=l.length
 | [],_,_=>rfl
 | j::js,r,l=>by rw[layI,layI_len js,List.length_set]
/-- one place otherwise -/
theorem S_set (P:Int × Int→Bool):∀ (keys:List (Int × Int)) (l:List Int) (j:Nat) (v:Int),keys.length=l.length→j<l.length→S P (keys.zip (l.set j v))=S P (keys.zip l)+(if P (keys.getD j (0,0))=true then v-l.getD j 0 else 0)
 | [],l,j,v,h,hj=>by
   rw[← h] at hj
   exact absurd hj (Nat.not_lt_zero _)
 | k::keys,[],j,v,h,hj=>absurd hj (Nat.not_lt_zero _)
 | k::keys,x::l,0,v,h,hj=>by
   simp only[List.set_cons_zero,List.zip_cons_cons,S,List.getD_cons_zero]
   split <;> omega
 | k::keys,x::l,j+1,v,h,hj=>by
   have ih:=S_set P keys l j v (by simpa using h) (by simpa using hj)
   simp only[List.set_cons_succ,List.zip_cons_cons,S,List.getD_cons_succ]
   rw[ih]
   omega
theorem getD_set_ne {l:List Int} {i j:Nat} {v:Int} (h:i≠j):(l.set j v).getD i 0=l.getD i 0:=by
 rw[List.getD_eq_getElem?_getD,List.getD_eq_getElem?_getD,List.getElem?_set_ne (fun e=>h e.symm)]
theorem sumE_cons (e:Int) (x:Int × Int) (t:List (Int × Int)):sumE e (x::t)=(if x.1≤e then x.2 else 0)+sumE e t:=rfl
/-- what a turn takes of those that end by e -/
theorem lay_turn (P : Int × Int → Bool) (e : Int) (keys : List (Int × Int)) : ∀ (js : List Nat) (r : Int) (l : List Int), 0 ≤ r → keys.length = l.length → (∀ j ∈ js, j < l.length ∧ 0 ≤ l.getD j 0 ∧ (P (keys.getD j (0, 0)) = true ↔ (keys.getD j (0, 0)).2 ≤ e)) → js.Nodup → js.Pairwise (fun i j => (keys.getD i (0, 0)).2 ≤ (keys.getD j (0, 0)).2) →
   S P (keys.zip (layI r js l))=S P (keys.zip l)-(sumE e (js.map fun j=>((keys.getD j (0,0)).2,l.getD j 0))-max 0 (sumE e (js.map fun j=>((keys.getD j (0,0)).2,l.getD j 0))-r))
 | [],r,l,hr,_,_,_,_=>by
   show S P (keys.zip l)=S P (keys.zip l)-(0-max 0 (0-r))
   omega
 | j::js,r,l,hr,hk,hj,nd,hs=>by
   obtain⟨j1,j2,j3⟩:=hj j List.mem_cons_self
   rw[List.nodup_cons] at nd
   rw[List.pairwise_cons] at hs
   obtain⟨s1,s2⟩:=hs
   have ne:∀ i∈js,i≠j:=fun i hi e=>nd.1 (by rw[← e]; exact hi)
   have st:=S_set P keys l j (l.getD j 0-min r (l.getD j 0)) hk j1
   have ih:=lay_turn P e keys js (r-min r (l.getD j 0)) (l.set j (l.getD j 0-min r (l.getD j 0))) (by omega) (by rw[List.length_set]; exact hk) (fun i hi=>by
     obtain⟨a,b,c⟩:=hj i (List.mem_cons_of_mem _ hi)
     rw[List.length_set,getD_set_ne (ne i hi)]
     exact⟨a,b,c⟩) nd.2 s2
   have em:(js.map fun i=>((keys.getD i (0,0)).2,(l.set j (l.getD j 0-min r (l.getD j 0))).getD i 0))=js.map fun i=>((keys.getD i (0,0)).2,l.getD i 0):=List.map_congr_left fun i hi=>by rw[getD_set_ne (ne i hi)]
   rw[em] at ih
   rw[layI,ih,st,List.map_cons]
   have nn:0≤sumE e (js.map fun i=>((keys.getD i (0,0)).2,l.getD i 0)):=sumE_nn fun x hx=>by
     obtain⟨i,hi,rfl⟩:=List.mem_map.mp hx
     exact (hj i (List.mem_cons_of_mem _ hi)).2.1
   rw[sumE_cons]
   dsimp only
   by_cases z:(keys.getD j (0,0)).2≤e
   · rw[if_pos (j3.mpr z),if_pos z]
     generalize sumE e (js.map fun i=>((keys.getD i (0,0)).2,l.getD i 0))=X at *
     generalize l.getD j 0=y at *
     omega
   · have o : sumE e (js.map fun i => ((keys.getD i (0, 0)).2, l.getD i 0)) = 0 := sumE_out fun x hx => by
       obtain⟨i,hi,rfl⟩:=List.mem_map.mp hx
       have:=s1 i hi
       simp only
       omega
     rw[if_neg (fun q=>z (j3.mp q)),if_neg z,o]
     generalize l.getD j 0=y at *
     omega
end KT
namespace KT
theorem S_range (P:Int × Int→Bool):∀ (keys:List (Int × Int)) (l:List Int),keys.length=l.length→S P (keys.zip l)=((List.range l.length).map fun j=>if P (keys.getD j (0,0))=true then l.getD j 0 else 0).sum
 | [],l,h=>by
   have:l=[]:=List.length_eq_zero_iff.mp h.symm
   subst this
   rfl
 | k::keys,[],h=>by simp at h
 | k::keys,x::l,h=>by
   have ih:=S_range P keys l (by simpa using h)
   rw[List.zip_cons_cons,S,ih,List.length_cons,List.range_succ_eq_map,List.map_cons,List.sum_cons,List.map_map]
   rfl
theorem sum_filter (g:Nat→Int) (q:Nat→Bool):∀ (l:List Nat),(∀ j∈l,q j=false→g j=0)→(l.map g).sum=((l.filter q).map g).sum
 | [],_=>rfl
 | j::l,h=>by
   have ih:=sum_filter g q l fun i hi=>h i (List.mem_cons_of_mem _ hi)
   rw[List.map_cons,List.sum_cons,ih,List.filter_cons]
   cases z:q j with
   | true=>rw[if_pos rfl,List.map_cons,List.sum_cons]
   | false =>
     rw[h j List.mem_cons_self z]
     simp
theorem perm_sum {a b:List Int} (h:a.Perm b):a.sum=b.sum:=by
 induction h with
 | nil=>rfl
 | cons x _ ih=>rw[List.sum_cons,List.sum_cons,ih]
 | swap x y l=>rw[List.sum_cons,List.sum_cons,List.sum_cons,List.sum_cons]; omega
 | trans _ _ ih1 ih2=>exact ih1.trans ih2
theorem sumE_map (e:Int) (f:Nat→Int × Int):∀ js:List Nat,sumE e (js.map f)=(js.map fun j=>if (f j).1≤e then (f j).2 else 0).sum
 | []=>rfl
 | j::js=>by rw[List.map_cons,sumE_cons,sumE_map e f js,List.map_cons,List.sum_cons]
/-- all that wait,each once -/
structure Turn (t:Int) (keys:List (Int × Int)) (l:List Int) (js:List Nat):Prop where
 len:keys.length=l.length
 nn:∀ j,j<l.length→0≤l.getD j 0
 nd:js.Nodup
 up:js.Pairwise fun i j=>(keys.getD i (0,0)).2≤(keys.getD j (0,0)).2
 mem:∀ j,j∈js↔j<l.length∧0<l.getD j 0∧(keys.getD j (0,0)).1≤t∧t<(keys.getD j (0,0)).2
theorem turn_sum {t:Int} {keys:List (Int × Int)} {l:List Int} {js:List Nat} (h:Turn t keys l js) (e:Int):sumE e (js.map fun j=>((keys.getD j (0,0)).2,l.getD j 0))=S (fun k=>decide (k.1≤t∧t<k.2∧k.2≤e)) (keys.zip l):=by
 rw[sumE_map,S_range _ _ _ h.len]
 rw[sum_filter (fun j=>if decide ((keys.getD j (0,0)).1≤t∧t<(keys.getD j (0,0)).2∧(keys.getD j (0,0)).2≤e)=true then l.getD j 0 else 0) (fun j=>decide (j∈js)) (List.range l.length) fun j hj hq=>by
   have h1:j∉js:=of_decide_eq_false hq
   have jl:j<l.length:=List.mem_range.mp hj
   by_cases z:(keys.getD j (0,0)).1≤t∧t<(keys.getD j (0,0)).2∧(keys.getD j (0,0)).2≤e
   · rw[decide_eq_true z,if_pos rfl]
     have n:=h.nn j jl
     have:¬ 0<l.getD j 0:=fun q=>h1 ((h.mem j).mpr ⟨jl,q,z.1,z.2.1⟩)
     omega
   · rw[decide_eq_false z]
     rfl]
 have pm:((List.range l.length).filter fun j=>decide (j∈js)).Perm js:=by
   refine (List.perm_ext_iff_of_nodup (List.nodup_range.sublist List.filter_sublist) h.nd).mpr fun j=>?_
   rw[List.mem_filter,List.mem_range,decide_eq_true_eq]
   exact⟨fun q=>q.2,fun q=>⟨((h.mem j).mp q).1,q⟩⟩
 rw[perm_sum (pm.map _)]
 congr 1
 refine List.map_congr_left fun j hj=>?_
 obtain⟨_,_,a,b⟩:=(h.mem j).mp hj
 by_cases z:(keys.getD j (0,0)).2≤e
 · rw[if_pos z,decide_eq_true ⟨a,b,z⟩,if_pos rfl]
 · rw[if_neg z,decide_eq_false fun q=>z q.2.2]
   rfl
end KT
namespace KT
theorem lay_stay (P:Int × Int→Bool) (keys:List (Int × Int)):∀ (js:List Nat) (r:Int) (l:List Int),keys.length=l.length→(∀ j∈js,j<l.length∧P (keys.getD j (0,0))=false)→S P (keys.zip (layI r js l))=S P (keys.zip l)
 | [],_,_,_,_=>rfl
 | j::js,r,l,hk,hj=>by
   obtain⟨j1,j2⟩:=hj j List.mem_cons_self
   rw[layI,lay_stay P keys js _ _ (by rw[List.length_set]; exact hk) (fun i hi=>by rw[List.length_set]; exact hj i (List.mem_cons_of_mem _ hi)),S_set P keys l j _ hk j1,j2]
   simp
theorem getD_set_eq {l:List Int} {j:Nat} {v:Int} (h:j<l.length):(l.set j v).getD j 0=v:=by
 rw[List.getD_eq_getElem?_getD,List.getElem?_set_self h]
 rfl
theorem lay_nn:∀ (js:List Nat) (r:Int) (l:List Int),0≤r→(∀ j,j<l.length→0≤l.getD j 0)→(∀ j∈js,j<l.length) → ∀ i,i<l.length→0≤(layI r js l).getD i 0
 | [],_,l,_,h,_,i,hi=>h i hi
 | j::js,r,l,hr,h,hj,i,hi=>by
   have jl:=hj j List.mem_cons_self
   have hn:=h j jl
   rw[layI]
   refine lay_nn js _ _ (by omega) (fun k hk=>?_) (fun k hk=>by rw[List.length_set]; exact hj k (List.mem_cons_of_mem _ hk)) i (by rw[List.length_set]; exact hi)
   rw[List.length_set] at hk
   by_cases z:k=j
   · subst z
     rw[getD_set_eq jl]
     omega
   · rw[getD_set_ne z]
     exact h k hk
theorem zip_snd_nn {keys:List (Int × Int)} {l:List Int} (h:∀ j,j<l.length→0≤l.getD j 0):∀ x∈keys.zip l,0≤x.2:=fun x hx=>by
 have:x.2∈l:=(List.of_mem_zip (a:=x.1) (b:=x.2) hx).2
 obtain⟨j,hj,e⟩:=List.mem_iff_getElem.mp this
 have:=h j hj
 rw[List.getD_eq_getElem?_getD,List.getElem?_eq_getElem hj,e] at this
 exact this
theorem turn_min {F t:Int} (f0:0≤F) {keys:List (Int × Int)} {l:List Int} {js:List Nat} (h:Turn t keys l js):Min F t (keys.zip l) (keys.zip (layI F js l)):=by
 have jl:∀ j∈js,j<l.length:=fun j hj=>((h.mem j).mp hj).1
 refine⟨?_,zip_snd_nn fun j hj=>?_,fun e=>?_,fun P hP=>?_⟩
 · rw[List.map_fst_zip (by rw[layI_len,h.len]; exact Nat.le_refl _),List.map_fst_zip (by rw[h.len]; exact Nat.le_refl _)]
 · rw[layI_len] at hj
   exact lay_nn js F l f0 h.nn jl j hj
 · have lt := lay_turn (fun k => decide (k.1 ≤ t ∧ t < k.2 ∧ k.2 ≤ e)) e keys js F l f0 h.len (fun j hj => by
     obtain⟨a,b,c,d⟩:=(h.mem j).mp hj
     refine⟨a,by omega,?_⟩
     rw[decide_eq_true_eq]
     exact⟨fun q=>q.2.2,fun q=>⟨c,d,q⟩⟩) h.nd h.up
   rw[turn_sum h e] at lt
   omega
 · refine lay_stay P keys js F l h.len fun j hj=>⟨jl j hj,?_⟩
   obtain⟨a,b,c,d⟩:=(h.mem j).mp hj
   cases q:P (keys.getD j (0,0)) with
   | false=>rfl
   | true =>
     have hk:j<keys.length:=by rw[h.len]; exact a
     have mz:(keys[j],l[j])∈keys.zip l:=by
       rw[List.mem_iff_getElem]
       exact⟨j,by rw[List.length_zip]; omega,by simp⟩
     have e:keys.getD j (0,0)=keys[j]:=by rw[List.getD_eq_getElem?_getD,List.getElem?_eq_getElem hk]; rfl
     rw[e] at q c d
     exact absurd ⟨c,d⟩ (hP _ mz q)
end KT
namespace KT
def waitsB (t:Int) (keys:List (Int × Int)) (l:List Int) (j:Nat):Bool:=decide (0<l.getD j 0∧(keys.getD j (0,0)).1≤t∧t<(keys.getD j (0,0)).2)
def leTurn (keys:List (Int × Int)) (i j:Nat):Bool:=decide ((keys.getD i (0,0)).2<(keys.getD j (0,0)).2∨(keys.getD i (0,0)).2=(keys.getD j (0,0)).2∧i≤j)
def turnP (t:Int) (keys:List (Int × Int)) (l:List Int):List Nat:=((List.range l.length).filter (waitsB t keys l)).mergeSort (leTurn keys)
theorem turnP_perm (t:Int) (keys:List (Int × Int)) (l:List Int):(turnP t keys l).Perm ((List.range l.length).filter (waitsB t keys l)):=List.mergeSort_perm _ _
theorem turnP_pw (t:Int) (keys:List (Int × Int)) (l:List Int):(turnP t keys l).Pairwise fun i j=>leTurn keys i j=true:=by
 refine List.pairwise_mergeSort (fun a b c h1 h2=>?_) (fun a b=>?_) _
 · unfold leTurn at *
   rw[decide_eq_true_eq] at *
   omega
 · unfold leTurn
   rw[Bool.or_eq_true,decide_eq_true_eq,decide_eq_true_eq]
   omega
theorem turnP_ok {t:Int} {keys:List (Int × Int)} {l:List Int} (hl:keys.length=l.length) (nn:∀ j,j<l.length→0≤l.getD j 0):Turn t keys l (turnP t keys l):=by
 have pm:=turnP_perm t keys l
 refine⟨hl,nn,pm.nodup_iff.mpr (List.nodup_range.sublist List.filter_sublist),(turnP_pw t keys l).imp fun h=>?_,fun j=>?_⟩
 · unfold leTurn at h
   rw[decide_eq_true_eq] at h
   omega
 · rw[pm.mem_iff,List.mem_filter,List.mem_range]
   unfold waitsB
   rw[decide_eq_true_eq]
/-- what is left ahead of minute t -/
def leftP (F:Int) (keys:List (Int × Int)) (p:List Int):Nat→List Int
 | 0=>p
 | t+1=>layI F (turnP t keys (leftP F keys p t)) (leftP F keys p t)
theorem leftP_len (F:Int) (keys:List (Int × Int)) (p:List Int):∀ t,(leftP F keys p t).length=p.length
 | 0=>rfl
 | t+1=>by rw[leftP,layI_len,leftP_len F keys p t]
theorem leftP_nn {F:Int} (f0:0≤F) {keys:List (Int × Int)} {p:List Int} (hl:keys.length=p.length) (nn:∀ j,j<p.length→0≤p.getD j 0):∀ t:Nat,∀ j,j<(leftP F keys p t).length→0≤(leftP F keys p t).getD j 0
 | 0=>nn
 | t+1=>fun j hj=>by
   have ih:=leftP_nn f0 hl nn t
   have tu:=turnP_ok (t:=t) (keys:=keys) (l:=leftP F keys p t) (by rw[leftP_len]; exact hl) ih
   rw[leftP] at hj ⊢
   rw[layI_len] at hj
   exact lay_nn _ F _ f0 ih (fun i hi=>((tu.mem i).mp hi).1) j hj
/-- where nobody waits nothing is laid -/
theorem leftP_idle {F:Int} {keys:List (Int × Int)} {p:List Int} {t:Nat} (h:∀ j,j<(leftP F keys p t).length→waitsB t keys (leftP F keys p t) j=false):leftP F keys p (t+1)=leftP F keys p t:=by
 have e:turnP t keys (leftP F keys p t)=[]:=by
   have pm:=turnP_perm t keys (leftP F keys p t)
   have z:(List.range (leftP F keys p t).length).filter (waitsB t keys (leftP F keys p t))=[]:=by
     rw[List.filter_eq_nil_iff]
     intro j hj
     rw[h j (List.mem_range.mp hj)]
     simp
   rw[z] at pm
   exact List.perm_nil.mp pm
 rw[leftP,e]
 rfl
/-- where no stretch from a begin to an end is full,all is laid by the last end -/
theorem all_laid {F : Int} (f0 : 0 ≤ F) {keys : List (Int × Int)} {p : List Int} (hl : keys.length = p.length) (ok : ∀ k ∈ keys, 0 ≤ k.1 ∧ k.1 ≤ k.2) (nn : ∀ j, j < p.length → 0 ≤ p.getD j 0)
   (h:∀ x∈keys,∀ y∈keys,x.1≤y.2→S (fun k=>decide (x.1≤k.1∧k.2≤y.2)) (keys.zip p)≤F*(y.2-x.1)) {t:Nat} (ht:∀ k∈keys,k.2≤t):∀ j,j<p.length→(leftP F keys p t).getD j 0=0:=fun j hj=>by
 have ll:=leftP_len F keys p
 have mem:∀ x∈keys.zip p,x.1∈keys:=fun x hx=>(List.of_mem_zip (a:=x.1) (b:=x.2) hx).1
 have q:=none_left f0 (L0:=keys.zip p) (fun x hx=>⟨(ok _ (mem x hx)).1,(ok _ (mem x hx)).2,zip_snd_nn nn x hx⟩) (fun x hx y hy=>h x.1 (mem x hx) y.1 (mem y hy)) (fun t=>keys.zip (leftP F keys p t)) rfl (fun t=>turn_min f0 (turnP_ok (by rw[ll]; exact hl) (leftP_nn f0 hl nn t))) (t:=t) fun x hx=>ht _ (mem x hx)
 have j2:j<(leftP F keys p t).length:=by rw[ll]; exact hj
 have hk:j<keys.length:=by rw[hl]; exact hj
 have mz:(keys[j],(leftP F keys p t)[j])∈keys.zip (leftP F keys p t):=by
   rw[List.mem_iff_getElem]
   exact⟨j,by rw[List.length_zip]; omega,by simp⟩
 have:=q _ mz
 rw[List.getD_eq_getElem?_getD,List.getElem?_eq_getElem j2]
 exact this
end KT
namespace G
open PySem VL
theorem eqv_ii (a b:Int):eqvD (.int a) (.int b)=decide (a=b):=by
 simp[eqvD,D.py,PyData.eqv]
 by_cases h:a=b <;> simp[h]
theorem eqv_ss (a b:Str):eqvD (.str a) (.str b)=decide (a=b):=by
 simp[eqvD,D.py,PyData.eqv]
 by_cases h:a=b <;> simp[h]
@[simp] theorem eq_ii (n:Bool) (a b:Int) (st:AS):eqD n (.int a) (.int b) st = .ok (.bl (xor n (decide (a=b)))) st:=by simp[eqD,scalD,eqv_ii]
@[simp] theorem eq_ss (n:Bool) (a b:Str) (st:AS):eqD n (.str a) (.str b) st = .ok (.bl (xor n (decide (a=b)))) st:=by simp[eqD,scalD,eqv_ss]
theorem eqv_ns (b:Str):eqvD .non (.str b)=false:=by simp[eqvD,D.py,PyData.eqv]
theorem eqv_sn (b:Str):eqvD (.str b) .non=false:=by simp[eqvD,D.py,PyData.eqv]
@[simp] theorem eq_ns (n:Bool) (b:Str) (st:AS):eqD n .non (.str b) st = .ok (.bl n) st:=by simp[eqD,scalD,eqv_ns]
@[simp] theorem eq_sn (n:Bool) (b:Str) (st:AS):eqD n (.str b) .non st = .ok (.bl n) st:=by simp[eqD,scalD,eqv_sn]
theorem all_str:∀ xs:List Str,(xs.map D.str).all scalD=true
 | []=>rfl
 | x::xs=>by rw[List.map_cons,List.all_cons,all_str xs]; rfl
theorem any_str (x:Str):∀ xs:List Str,((xs.map D.str).any fun d=>eqvD d (.str x))=decide (x∈xs)
 | []=>by simp
 | y::ys=>by
   rw[List.map_cons,List.any_cons,any_str x ys,eqv_ss]
   by_cases h:y=x
   · simp[h]
   · have h':¬ x=y:=Ne.symm h
     simp[h,h']
/-- x in xs,texts -/
@[simp] theorem in_tup (n:Bool) (x:Str) (xs:List Str) (st:AS):inD n (.str x) (.tup (xs.map D.str)) st = .ok (.bl (xor n (decide (x∈xs)))) st:=by
 have h1:=all_str xs
 have h2:=any_str x xs
 simp only[inD,seqOf,scalD,h1,h2,Bool.and_self,if_true]
@[simp] theorem in_ctp (n:Bool) (x:Str) (xs:List Str) (st:AS):inD n (.str x) (.ctp (xs.map D.str)) st = .ok (.bl (xor n (decide (x∈xs)))) st:=by
 have h1:=all_str xs
 have h2:=any_str x xs
 simp only[inD,seqOf,scalD,h1,h2,Bool.and_self,if_true]
@[simp] theorem in_lst (n:Bool) (x:Str) (xs:List Str) (st:AS):inD n (.str x) (.lst (xs.map D.str)) st = .ok (.bl (xor n (decide (x∈xs)))) st:=by
 have h1:=all_str xs
 have h2:=any_str x xs
 simp only[inD,seqOf,VL.listOf,scalD,h1,h2,Bool.and_self,if_true]
@[simp] theorem ints_of:∀ ns:List Int,intsOf (ns.map D.int)=some ns
 | []=>rfl
 | n::ns=>by rw[List.map_cons,intsOf,ints_of ns]; rfl
@[simp] theorem strs_of:∀ ns:List Str,strsOf (ns.map D.str)=some ns:=strsOf_map
@[simp] theorem sum_lst (ns:List Int) (st:AS):sumD (.lst (ns.map D.int)) st = .ok (.int ns.sum) st:=by simp[sumD,onInts,ints_of]
@[simp] theorem bls_of:∀ ns:List Bool,blsOf (ns.map D.bl)=some ns
 | []=>rfl
 | n::ns=>by rw[List.map_cons,blsOf,bls_of ns]; rfl
@[simp] theorem all_lst (ns:List Bool) (st:AS):onBls (fun bs=>bs.all id) (.lst (ns.map D.bl)) st = .ok (.bl (ns.all id)) st:=by simp[onBls,bls_of]
@[simp] theorem any_lst (ns:List Bool) (st:AS):onBls (fun bs=>bs.any id) (.lst (ns.map D.bl)) st = .ok (.bl (ns.any id)) st:=by simp[onBls,bls_of]
theorem log_lt {m:Int} (h0:0<m) (h:m<4611686018427387904):m.natAbs.log2<9000:=by
 have h1:m.natAbs≠0:=by omega
 have h2:m.natAbs<2^62:=by
   have:(2:Nat)^62=4611686018427387904:=by decide
   omega
 have h3:m.natAbs.log2<62:=(Nat.log2_lt h1).mpr h2
 omega
@[simp] theorem atI_0 {α:Type} (a:α) (l:List α):L2.atI (a::l) 0=some a:=by rw[atI_pos (by decide) (by simp only[List.length_cons]; omega)]; rfl
@[simp] theorem atI_1 {α:Type} (a b:α) (l:List α):L2.atI (a::b::l) 1=some b:=by rw[atI_pos (by decide) (by simp only[List.length_cons]; omega)]; rfl
@[simp] theorem atI_2 {α:Type} (a b c:α) (l:List α):L2.atI (a::b::c::l) 2=some c:=by rw[atI_pos (by decide) (by simp only[List.length_cons]; omega)]; rfl
@[simp] theorem atI_3 {α:Type} (a b c d:α) (l:List α):L2.atI (a::b::c::d::l) 3=some d:=by rw[atI_pos (by decide) (by simp only[List.length_cons]; omega)]; rfl
@[simp] theorem atI_4 {α:Type} (a b c d e:α) (l:List α):L2.atI (a::b::c::d::e::l) 4=some e:=by rw[atI_pos (by decide) (by simp only[List.length_cons]; omega)]; rfl
@[simp] theorem gdOf_tup (ds es:List D):gdOf (.tup ds) es=[]:=rfl
@[simp] theorem gdOf_ctp (ds es:List D):gdOf (.ctp ds) es=[]:=rfl
@[simp] theorem gdOf_lst (ds es:List D):gdOf (.lst ds) es=[]:=rfl
@[simp] theorem gdOf_fzl (ds es:List D):gdOf (.fzl ds) es=[]:=rfl
@[simp] theorem gdOf_ref (i:Nat) (es:List D):gdOf (.ref i) es=[(i,.lst es)]:=rfl
theorem rng1_ok {j:Int} {st:AS} (h0 : -1000000000≤j) (h:j≤1000000000):rng1 [.int j] st = .ok ((List.range j.toNat).map fun (k:Nat)=>D.int (k:Int),[]) st:=by
 unfold rng1
 dsimp only
 rw[if_pos ⟨by omega,by omega⟩]
 simp[rngL]
theorem rng2_ok {i j:Int} {st:AS} (hi : -1000000000≤i∧i≤1000000000) (hj : -1000000000≤j∧j≤1000000000):rng2 [.int i,.int j] st = .ok ((List.range (j-i).toNat).map fun (k:Nat)=>D.int (i+(k:Int)),[]) st:=by
 unfold rng2
 dsimp only
 rw[if_pos ⟨by omega,by omega,by omega,by omega⟩]
 simp[rngL]
end G
namespace VL
open PySem
abbrev XQ:=Str→List (Str × D)→AS→Prop
abbrev noX:XQ:=fun _ _ _=>False
/-- marks: simp does not look into what a type leans on -/
inductive Mk2 {α:Type} (Q:α→AS→Prop) (X:XQ):Type | mk
inductive Mk5 (N:En→AS→Prop) (R:D→AS→Prop) (B T:En→AS→Prop) (X:XQ):Type | mk
/-- what simp leaves alone -/
inductive MkP (p:Prop):Type | mk
abbrev Hold (p:Prop) (_:MkP p:=.mk):Prop:=p
def Out.wp {α:Type} (o:Out α) (Q:α→AS→Prop) (X:XQ) (_:Mk2 Q X:=.mk):Prop:=match o with
 | .ok a s=>Q a s
 | .exc c fs s=>X c fs s
 | .bad=>False
def Fl.wp (o:Fl) (N:En→AS→Prop) (R:D→AS→Prop) (B T:En→AS→Prop) (X:XQ) (_:Mk5 N R B T X:=.mk):Prop:=match o with
 | .nx e s=>N e s
 | .rt d s=>R d s
 | .bk e s=>B e s
 | .ct e s=>T e s
 | .exc c fs s=>X c fs s
 | .bad=>False
section
variable {α β:Type} {Q:α→AS→Prop} {X:XQ} {N B T:En→AS→Prop} {R:D→AS→Prop} {env:En} {st:AS}
@[simp] theorem wp_ok {a:α}:(Out.ok a st).wp Q X=Q a st:=rfl
@[simp] theorem wp_exc {c:Str} {fs:List (Str × D)}:(Out.exc c fs st:Out α).wp Q X=X c fs st:=rfl
@[simp] theorem wp_bad:(Out.bad:Out α).wp Q X=False:=rfl
@[simp] theorem wp_nx:(Fl.nx env st).wp N R B T X=N env st:=rfl
@[simp] theorem wp_rt {d:D}:(Fl.rt d st).wp N R B T X=R d st:=rfl
@[simp] theorem wp_bk:(Fl.bk env st).wp N R B T X=B env st:=rfl
@[simp] theorem wp_ct:(Fl.ct env st).wp N R B T X=T env st:=rfl
@[simp] theorem wp_fexc {c:Str} {fs:List (Str × D)}:(Fl.exc c fs st).wp N R B T X=X c fs st:=rfl
@[simp] theorem wp_fbad:(Fl.bad).wp N R B T X=False:=rfl
theorem A7 {o:Out β} {k:β→AS→Out α}:(o.bind k).wp Q X=o.wp (fun b s=>(k b s).wp Q X) X:=by cases o <;> rfl
theorem wp_ext {o:Out α} {Q':α→AS→Prop} (h:∀ a s,Q a s=Q' a s):o.wp Q X=o.wp Q' X:=by
 cases o with
 | ok a s=>exact h a s
 | exc _ _ _=>rfl
 | bad=>rfl
theorem B1 {o:Out β} {k:β→AS→Fl}:(o.fl k).wp N R B T X=o.wp (fun b s=>(k b s).wp N R B T X) X:=by cases o <;> rfl
theorem wp_ne {o:Out α}:o.ne.wp Q X=o.wp Q noX:=by cases o <;> rfl
theorem wp_fseq {o:Fl} {g:En→AS→Fl}:(o.seq g).wp N R B T X=o.wp (fun e s=>(g e s).wp N R B T X) R B T X:=by cases o <;> rfl
theorem wp_turn {o:Fl} {g:En→AS→Fl}:(o.turn g).wp N R B T X=o.wp (fun e s=>(g e s).wp N R B T X) R N (fun e s=>(g e s).wp N R B T X) X:=by cases o <;> rfl
theorem wp_kill {o:Fl} {ks:List Nat}:(o.kill ks).wp N R B T X=o.wp (fun e s=>N (killE ks e) s) R (fun e s=>B (killE ks e) s) (fun e s=>T (killE ks e) s) X:=by cases o <;> rfl
theorem wp_fin {o:Fl} {frz:Nat} {st0:AS} {Q:D→AS→Prop}:(o.fin frz st0).wp Q X=o.wp (fun _ s=>(ret frz st0 .non s).wp Q X) (fun d s=>(ret frz st0 d s).wp Q X) (fun _ _=>False) (fun _ _=>False) X:=by cases o <;> rfl
theorem B5 {p:Prop} [Decidable p] {a b:Out α}:(if p then a else b).wp Q X=((p→a.wp Q X)∧(¬ p→b.wp Q X)):=by
 by_cases h:p <;> simp[h]
theorem A9 {p:Prop} [Decidable p] {a b:Fl}:(if p then a else b).wp N R B T X=((p→a.wp N R B T X)∧(¬ p→b.wp N R B T X)):=by
 by_cases h:p <;> simp[h]
theorem Out.wp.mono {o:Out α} {Q':α→AS→Prop} {X':XQ} (h:o.wp Q X) (f:∀ a s,Q a s→Q' a s) (g:∀ c fs s,X c fs s→X' c fs s):o.wp Q' X':=by
 cases o with
 | ok a s=>exact f _ _ h
 | exc c fs s=>exact g _ _ _ h
 | bad=>exact h
theorem Out.wp.imp {o:Out α} {Q':α→AS→Prop} (h:o.wp Q X) (f:∀ a s,Q a s→Q' a s):o.wp Q' X:=h.mono f fun _ _ _ h=>h
theorem Fl.wp.imp {o:Fl} {N' B' T':En→AS→Prop} {R':D→AS→Prop} (h:o.wp N R B T X) (hN:∀ e s,N e s→N' e s) (hR:∀ d s,R d s→R' d s) (hB:∀ e s,B e s→B' e s) (hT:∀ e s,T e s→T' e s):o.wp N' R' B' T' X:=by
 cases o with
 | nx e s=>exact hN _ _ h
 | rt e s=>exact hR _ _ h
 | bk e s=>exact hB _ _ h
 | ct e s=>exact hT _ _ h
 | exc c fs s=>exact h
 | bad=>exact h
/-- what is known of it is an equation -/
theorem Out.wp.eq {o:Out α} (h:o.wp Q noX):∃ a s,o = .ok a s∧Q a s:=by
 cases o with
 | ok a s=>exact⟨a,s,rfl,h⟩
 | exc c fs s=>exact h.elim
 | bad=>exact h.elim
theorem wp_of {o:Out α} {a:α} {s:AS} (e:o = .ok a s) (h:Q a s):o.wp Q X:=by rw[e]; exact h
theorem Fl.wp.eq {o:Fl} (h:o.wp N (fun _ _=>False) (fun _ _=>False) (fun _ _=>False) noX):∃ e s,o = .nx e s∧N e s:=by
 cases o with
 | nx e s=>exact⟨e,s,rfl,h⟩
 | _=>exact h.elim
theorem wp_cut {o:Out α} (Q':α→AS→Prop) (h:o.wp Q' X) (g:∀ a s,Q' a s→Q a s):o.wp Q X:=h.imp g
variable {f g:En→AS→Out D} {c t:En→AS→Out Bool} {p q:En→AS→Fl} {fs fk:En→AS→Out (List D)}
theorem D0 {g:D→AS→Out α}:(v1 g f env st).wp Q X=(f env st).wp (fun a s=>(g a s).wp Q X) X:=A7
theorem D6 {h:D→D→AS→Out α}:(v2 h f g env st).wp Q X=(f env st).wp (fun a s=>(g env s).wp (fun b s=>(h a b s).wp Q X) X) X:=by
 exact A7.trans (wp_ext fun a s=>A7)
theorem E4 {Q:Bool→AS→Prop}:(vB f env st).wp Q X=(f env st).wp (fun a s=>(asB a s).wp Q X) X:=A7
theorem F4 {Q:List D→AS→Prop}:(vNil env st).wp Q X=Q [] st:=rfl
theorem E6 {Q:List D→AS→Prop}:(vCons f fs env st).wp Q X=(f env st).wp (fun a s=>(fs env s).wp (fun r s=>Q (a::r) s) X) X:=by
 exact A7.trans (wp_ext fun a s=>A7)
theorem D9 {h:List D→AS→Out α}:(vA h fs env st).wp Q X=(fs env st).wp (fun a s=>(h a s).wp Q X) X:=A7
theorem E3 {Q:Bool→AS→Prop}:(vAnd c t env st).wp Q X=(c env st).wp (fun b s=>(if b=true then t env s else .ok false s).wp Q X) X:=A7
theorem F6 {Q:Bool→AS→Prop}:(vOr c t env st).wp Q X=(c env st).wp (fun b s=>(if b=true then .ok true s else t env s).wp Q X) X:=A7
theorem F5 {Q:Bool→AS→Prop}:(vNot c env st).wp Q X=(c env st).wp (fun b s=>Q (!b) s) X:=A7
theorem E9 {Q:D→AS→Prop}:(vIfE c f g env st).wp Q X=(c env st).wp (fun b s=>(if b=true then f env s else g env s).wp Q X) X:=A7
theorem F9 {Q:D→AS→Prop} {h:D→Option Int→Option Int→AS→Out D} {fl fh:En→AS→Out (Option Int)}:(vSl h f fl fh env st).wp Q X=(f env st).wp (fun x s=>(fl env s).wp (fun l s=>(fh env s).wp (fun z s=>(h x l z s).wp Q X) X) X) X:=by
 exact A7.trans (wp_ext fun a s=>A7.trans (wp_ext fun b s=>A7))
theorem F3 {Q:D→AS→Prop} {h:D→List D→AS→Out D}:(vML h f fs env st).wp Q X=(f env st).wp (fun x s=>(if (listOf s x).isSome=true then (fs env s).bind fun xs s=>h x xs s else .bad).wp Q X) X:=A7
theorem F1 {Q:D→AS→Prop} {h:D→List D→AS→Out D}:(vMD h f fs env st).wp Q X=(f env st).wp (fun x s=>(if isDict s x=true then (fs env s).bind fun xs s=>h x xs s else .bad).wp Q X) X:=A7
theorem E5 {Q:D→AS→Prop} {n m:Nat} {ds:List D} {ss:List Src} {F:List D→AS→Out D}:(vCallA n m ds ss F fs fk env st).wp Q X=(fs env st).wp (fun xs s=>(fk env s).wp (fun zs s=>(if xs.length=n∧zs.length=m then F (asm xs zs ds ss) s else .bad).wp Q X) X) X:=by
 exact A7.trans (wp_ext fun a s=>A7)
theorem F0 {Q:D→AS→Prop} {k:Bool} {vs:List Nat} {fi:En→AS→Out (List D × Gd)} {h:D→En→AS→Out En}:(vLc k vs fi h t f env st).wp Q X=(fi env st).wp (fun p s=>(if p.1.length≤sizeLine then (compL h t f (wipeD env vs) p.2 p.1 s).bind fun ys s=>mk k ys s else .bad).wp Q X) X:=A7
theorem E7 {Q:D→AS→Prop} {prs:List (FE × FE)}:(vDisp prs env st).wp Q X=(vPs prs env st).wp (fun ps s=>(gDisp ps s).wp Q X) X:=A7
theorem F7 {Q:List (D × D)→AS→Prop}:(vPs [] env st).wp Q X=Q [] st:=rfl
theorem F8 {Q:List (D × D)→AS→Prop} {pr:FE × FE} {r:List (FE × FE)}:(vPs (pr::r) env st).wp Q X=(pr.1 env st).wp (fun x s=>(pr.2 env s).wp (fun y s=>(vPs r env s).wp (fun ps s=>Q ((x,y)::ps) s) X) X) X:=by
 show ((pr.1 env st).bind fun x s=>(pr.2 env s).bind fun y s=>(vPs r env s).bind fun ps s=>Out.ok ((x,y)::ps) s).wp Q X=_
 exact A7.trans (wp_ext fun a s=>A7.trans (wp_ext fun b s=>A7))
theorem B7 {Q:En→AS→Prop} {d:D}:(kSub f g d env st).wp Q X=(f env st).wp (fun o s=>(g env s).wp (fun i s=>(setD o i d s).wp (fun _ s=>Q env s) X) X) X:=by
 exact A7.trans (wp_ext fun a s=>A7.trans (wp_ext fun b s=>A7))
theorem B6 {Q:En→AS→Prop} {d:D} {i:Nat}:(kName i d env st).wp Q X=Q (env.set i (some d)) st:=rfl
theorem C6:(sSeq p q env st).wp N R B T X=(p env st).wp (fun e s=>(q e s).wp N R B T X) R B T X:=wp_fseq
theorem B8:(sNext env st).wp N R B T X=N env st:=rfl
theorem C4:(sBreak env st).wp N R B T X=B env st:=rfl
theorem C5:(sCont env st).wp N R B T X=T env st:=rfl
theorem A8:(sExpr f env st).wp N R B T X=(f env st).wp (fun _ s=>N env s) X:=B1
theorem C3:(sRet f env st).wp N R B T X=(f env st).wp (fun d s=>R d s) X:=B1
theorem B4:(sIf c p q env st).wp N R B T X=(c env st).wp (fun b s=>(if b=true then p env s else q env s).wp N R B T X) X:=B1
theorem C7 {i:Nat}:(sSet i f env st).wp N R B T X=(f env st).wp (fun d s=>N (env.set i (some d)) s) X:=B1
theorem A6 {h:D→En→AS→Out En}:(sAsg f h env st).wp N R B T X=(f env st).wp (fun d s=>(h d env s).wp (fun e s=>N e s) X) X:=by
 exact B1.trans (wp_ext fun a s=>B1)
theorem B9 {i j:Nat}:(sPar i j fs env st).wp N R B T X=(fs env st).wp (fun ds s=>(match ds with | [a,b]=>Fl.nx ((env.set i (some a)).set j (some b)) s | _=>.bad).wp N R B T X) X:=B1
theorem C2 {i j l:Nat}:(sPar3 i j l fs env st).wp N R B T X=(fs env st).wp (fun ds s=>(match ds with | [a,b,c]=>Fl.nx (((env.set i (some a)).set j (some b)).set l (some c)) s | _=>.bad).wp N R B T X) X:=B1
theorem C9 {ks:List Nat}:(sKill ks p env st).wp N R B T X=(p env st).wp (fun e s=>N (killE ks e) s) R (fun e s=>B (killE ks e) s) (fun e s=>T (killE ks e) s) X:=wp_kill
theorem C8 {fi:En→AS→Out (List D × Gd)} {h:D→En→AS→Out En}:(sFor fi h p env st).wp N R B T X=(fi env st).wp (fun q s=>(forL h p q.2 q.1 env s).wp N R B T X) X:=B1
theorem E8 {Q:D→AS→Prop} {n frz:Nat} {ds:List D}:(vFn n frz p ds st).wp Q X=(p (ds.map some++List.replicate (n-ds.length) none) st).wp (fun _ s=>(ret frz st .non s).wp Q X) (fun d s=>(ret frz st d s).wp Q X) (fun _ _=>False) (fun _ _=>False) X:=wp_fin
theorem wp_for {h : D → En → AS → Out En} {gs : Gd} (P : List D → En → AS → Prop) : ∀ (ds : List D) (env : En) (st : AS), P ds env st → (∀ ds env st, P ds env st → gs.ok st) →
   (∀ d ds env st,P (d::ds) env st→(h d env st).wp (fun e s=>(p e s).wp (fun e s=>P ds e s) R (fun e s=>N e s) (fun e s=>P ds e s) X) X) →
   (∀ env st,P [] env st→N env st)→(forL h p gs ds env st).wp N R B T X
 | [],env,st,h0,hg,_,hf=>by
   rw[forL,if_pos (hg _ _ _ h0)]
   exact hf env st h0
 | d::ds,env,st,h0,hg,hs,hf=>by
   rw[forL,if_pos (hg _ _ _ h0),B1]
   refine (hs d ds env st h0).imp fun e s h1=>?_
   rw[wp_turn]
   exact h1.imp (fun e s h=>wp_for P ds e s h hg hs hf) (fun _ _ h=>h) (fun _ _ h=>h) (fun e s h=>wp_for P ds e s h hg hs hf)
theorem wp_comp {h : D → En → AS → Out En} {gs : Gd} {Q : List D → AS → Prop} (P : List D → List D → AS → Prop) : ∀ (ds acc : List D) (st : AS), P ds acc st → (∀ ds acc st, P ds acc st → gs.ok st) →
   (∀ d ds acc st,P (d::ds) acc st→(h d env st).wp (fun e s=>(t e s).wp (fun b s=>(b=true→(f e s).wp (fun y s=>P ds (acc++[y]) s) noX)∧(b=false→P ds acc s)) noX) noX) →
   (∀ acc st,P [] acc st→Q acc st)→(compL h t f env gs ds st).wp (fun ys s=>Q (acc++ys) s) X
 | [],acc,st,h0,hg,_,hf=>by
   rw[compL,if_pos (hg _ _ _ h0)]
   simpa using hf acc st h0
 | d::ds,acc,st,h0,hg,hs,hf=>by
   rw[compL,if_pos (hg _ _ _ h0),A7,wp_ne]
   refine (hs d ds acc st h0).mono (fun e s h1=>?_) (fun _ _ _ h=>h.elim)
   rw[A7,wp_ne]
   refine h1.mono (fun b s h2=>?_) (fun _ _ _ h=>h.elim)
   cases b with
   | false=>exact wp_comp P ds acc s (h2.2 rfl) hg hs hf
   | true =>
     rw[if_pos rfl,A7,wp_ne]
     refine (h2.1 rfl).mono (fun y s h3=>?_) (fun _ _ _ h=>h.elim)
     rw[A7]
     refine (wp_comp (Q:=Q) P ds (acc++[y]) s h3 hg hs hf).imp fun ys s h4=>?_
     simpa using h4
end
theorem wp_for0 {h : D → En → AS → Out En} {p : En → AS → Fl} {N B T : En → AS → Prop} {R : D → AS → Prop} {X : XQ} {ds : List D} {env : En} {st : AS} (P : List D → En → AS → Prop) (h0 : P ds env st)
   (hs:∀ d ds env st,P (d::ds) env st→(h d env st).wp (fun e s=>(p e s).wp (fun e s=>P ds e s) R (fun e s=>N e s) (fun e s=>P ds e s) X) X)
   (hf:∀ env st,P [] env st→N env st):(forL h p [] ds env st).wp N R B T X:=wp_for P ds env st h0 (fun _ _ _ _=>gd_nilOk) hs hf
theorem wp_comp0 {h : D → En → AS → Out En} {t : En → AS → Out Bool} {f : En → AS → Out D} {env : En} {X : XQ} {Q : List D → AS → Prop} {ds : List D} {st : AS} (P : List D → List D → AS → Prop) (h0 : P ds [] st)
   (hs:∀ d ds acc st,P (d::ds) acc st→(h d env st).wp (fun e s=>(t e s).wp (fun b s=>(b=true→(f e s).wp (fun y s=>P ds (acc++[y]) s) noX)∧(b=false→P ds acc s)) noX) noX)
   (hf:∀ acc st,P [] acc st→Q acc st):(compL h t f env [] ds st).wp Q X:=by
 have:=wp_comp (X:=X) (Q:=Q) P ds [] st h0 (fun _ _ _ _=>gd_nilOk) hs hf
 simp only[List.nil_append] at this
 exact this
def rgL (n j:Nat):List D:=((List.range n).drop j).map fun (k:Nat)=>D.int (k:Int)
theorem rgL_at {n j:Nat} {d:D} {ds:List D} (h:d::ds=rgL n j):j<n∧d = .int j∧ds=rgL n (j+1):=by
 by_cases hj:j<n
 · have e : (List.range n).drop j = j :: (List.range n).drop (j + 1) := by
     rw[List.drop_eq_getElem_cons (by rw[List.length_range]; exact hj)]
     simp
   unfold rgL at h ⊢
   rw[e,List.map_cons] at h
   injection h with h1 h2
   exact⟨hj,h1,h2⟩
 · unfold rgL at h
   rw[List.drop_eq_nil_of_le (by rw[List.length_range]; omega)] at h
   cases h
theorem rgL_0 {n:Nat}:(List.range n).map (fun (k:Nat)=>D.int (k:Int))=rgL n 0:=rfl
section
variable {st X:AS} {L k:Nat} {c:C}
theorem G6 (ln:st.length=L):(st++X)[L+k]? = X[k]?:=by
 rw[List.getElem?_append_right (by omega),← ln]; congr 1; omega
theorem G7 (ln:st.length=L):(st++X)[L]? = X[0]?:=G6 (k:=0) ln
theorem G8 (ln:st.length=L):(st++X).set (L+k) c=st++X.set k c:=by
 rw[List.set_append_right _ _ (by omega)]; congr 2; omega
theorem G9 (ln:st.length=L):(st++X).set L c=st++X.set 0 c:=G8 (k:=0) ln
theorem G0 {n:Nat} (h:n≤16000000):(n≤sizeLine)=True:=eq_true (by rw[sizeLine_eq]; omega)
theorem G1 {n:Nat} (h:n<16000000):(n<sizeLine)=True:=eq_true (by rw[sizeLine_eq]; omega)
end
end VL
namespace VL
open PySem PySem.Spec PyProof.Rows L2 TB
@[simp] def sRaise1 (c f:Str) (fe:En→AS→Out D) (env:En) (st:AS):Fl:=(fe env st).fl fun d st=>.exc c [(f,d)] st
@[simp] def sRaise2 (c f g:Str) (fs:En→AS→Out (List D)) (env:En) (st:AS):Fl:=(fs env st).fl fun ds st=>match ds with
 | [x,y]=>.exc c [(g,y),(f,x)] st
 | _=>.bad
end VL
namespace VL
open PySem PySem.Spec PyProof.Rows L2 TB
end VL
namespace VL
open PySem PySem.Spec PyProof.Rows L2 TB
section
variable {X:Cx} {E:XK} {es:List Expr} {fs:En→AS→Out (List D)} {t:TA} {pos:Pos}
@[simp] def gTupF (ds:List D) (st:AS):Out D:=if ds.length≤sizeLine then .ok (.ctp ds) st else .bad
end
end VL
namespace VL
open PySem PySem.Spec PyProof.Rows L2 TB
def Fl.quiet:Fl→Fl
 | .exc _ _ _=>.bad
 | o=>o
@[simp] theorem Fl.quiet_nx (env:En) (st:AS):(Fl.nx env st).quiet = .nx env st:=rfl
@[simp] theorem Fl.quiet_rt (d:D) (st:AS):(Fl.rt d st).quiet = .rt d st:=rfl
@[simp] theorem Fl.quiet_bk (env:En) (st:AS):(Fl.bk env st).quiet = .bk env st:=rfl
@[simp] theorem Fl.quiet_ct (env:En) (st:AS):(Fl.ct env st).quiet = .ct env st:=rfl
/-- what is done with an error of the body -/
def Fl.catch (o:Fl) (k:Str→List (Str × D)→AS→Fl):Fl:=match o with
 | .exc c fs st=>k c fs st
 | .nx env st=>.nx env st
 | .rt d st=>.rt d st
 | .bk env st=>.bk env st
 | .ct env st=>.ct env st
 | .bad=>.bad
@[simp] theorem Fl.catch_exc (c:Str) (fs:List (Str × D)) (st:AS) (k:Str→List (Str × D)→AS→Fl):(Fl.exc c fs st).catch k=k c fs st:=rfl
@[simp] theorem Fl.catch_nx (env:En) (st:AS) (k:Str→List (Str × D)→AS→Fl):(Fl.nx env st).catch k = .nx env st:=rfl
@[simp] theorem Fl.catch_rt (d:D) (st:AS) (k:Str→List (Str × D)→AS→Fl):(Fl.rt d st).catch k = .rt d st:=rfl
abbrev Isa:=List (Str × Bool)
/-- try .. except C as n (slot i) -/
@[simp] def sTryAs (i:Nat) (L:Isa) (fb:En→AS→Fl) (fh:Str→List (Str × D)→En→AS→Fl) (env:En) (st:AS):Fl:=(fb env st).catch fun c fs st=>match L.lookup c with
 | some true=>if i<env.length then (fh c fs (env.set i none) st).quiet.kill [i] else .bad
 | some false=>.exc c fs st
 | none=>.bad
/-- try .. except C -/
@[simp] def sTry (L:Isa) (fb:En→AS→Fl) (fh:En→AS→Fl) (env:En) (st:AS):Fl:=(fb env st).catch fun c fs st=>match L.lookup c with
 | some true=>(fh env st).quiet
 | some false=>.exc c fs st
 | none=>.bad
abbrev E0:XK:=fun _ _ _=>False
/-- what is known of the caught one: its slot,its place,its class,its dict; its name,its fields -/
structure Zi where
 i:Nat
 a:Addr
 cls:Value
 d:Option Addr
 c:Str
 fs:List (Str × D)
def ZiOk (K:PySem.W.Frag) (mg:MG) (z:Zi) (β:Bt) (σ:L2.St) (H:Hp):Prop:=σ[z.i]? = some (some (.ref z.a))∧XRep K mg H β z.c z.fs z.cls z.d
theorem XRep.ext {K:PySem.W.Frag} {mg:MG} {β β':Bt} {H H':Hp} {c:Str} {fs:List (Str × D)} {cls:Value} {d:Option Addr} (x:Ext β H β' H') (h:XRep K mg H β c fs cls d):XRep K mg H' β' c fs cls d:=by
 obtain⟨Ca,dx,vs,h1,h2,h3,h4,h5,h6⟩:=h
 obtain⟨k1,k2⟩:=x.kept dx _ h5 h4
 exact⟨Ca,dx,vs,h1,h2,h3,k2,k1,h6.ext x⟩
theorem ZiOk.ext {K:PySem.W.Frag} {mg:MG} {z:Zi} {β β':Bt} {σ:L2.St} {H H':Hp} (x:Ext β H β' H') (h:ZiOk K mg z β σ H):ZiOk K mg z β' σ H':=⟨h.1,h.2.ext x⟩
section
variable {X:Cx} {z:Zi} {oe:Obj} {pn:List (Addr × Obj)} {n f:Str} {eT:Expr} {v:V} {cv:Value} {p pos:Pos}
/-- e.f -/
@[simp] def xFld (Lc:List Str) (c:Str) (fs:List (Str × D)) (f:Str) (_:En) (st:AS):Out D:=if c∈Lc then (match fs.lookup f with
 | some d=>.ok d st
 | none=>.bad) else .bad
/-- isinstance(e,C) -/
@[simp] def xIs (L:Isa) (c:Str) (_:En) (st:AS):Out D:=match L.lookup c with
 | some b=>.ok (.bl b) st
 | none=>.bad
end
end VL
namespace G
open PySem VL
end G
namespace G
open PySem VL
end G
namespace G
open PySem VL
end G
namespace G
open PySem VL
end G
namespace G
open PySem VL
abbrev Menu:=List (Str × Int × List (Int × Int))
abbrev Offs:=List (List Str × Int × Int × Int)
def ePr (p:Int × Int):D:=.tup [.int p.1,.int p.2]
def eRow (r:Str × Int × List (Int × Int)):D:=.tup [.str r.1,.int r.2.1,.tup (r.2.2.map ePr)]
def eMenu (m:Menu):D:=.tup (m.map eRow)
def eOff (o:List Str × Int × Int × Int):D:=.tup [.tup (o.1.map D.str),.int o.2.1,.int o.2.2.1,.int o.2.2.2]
def eOffs (o:Offs):D:=.tup (o.map eOff)
def rowOf (m:Menu) (item:Str):=m.find? fun r=>decide (r.1=item)
def pct (o:Offs) (item:Str) (minute:Int):Int :=
 let ns:=(o.filter fun x=>decide (item∈x.1)&&(decide (x.2.1≤minute)&&decide (minute<x.2.2.1))).map fun x=>x.2.2.2
 if ns=[] then 0 else maxI ns
def lastP (r:Str × Int × List (Int × Int)) (minute:Int):Option Int:=((r.2.2.filter fun p=>decide (p.1≤minute)).map (·.2)).getLast?
def costT (m:Menu) (o:Offs) (item:Str) (minute:Int):Int:=(((rowOf m item).bind fun r=>lastP r minute).getD 0*(100-pct o item minute)+100-1) / 100
end G
namespace G
open PySem VL
def below (limit many hand:Int):Int:=(limit-hand+many-1) / many
def dealT (pence:Int) (many:Nat) (begun:Int):List Int:=(List.range many).map fun (h:Nat)=>below (begun+pence) many h-below begun many h
end G
namespace G
open PySem VL
end G
namespace Kd
open PySem VL G
abbrev feedC (ns:List Int) (a b c:Int):C:=.lst [.lst (ns.map D.int),.int a,.int b,.int c]
theorem pures_ints:∀ ns:List Int,D.pures (ns.map D.int)=true
 | []=>by simp[D.pures]
 | n::ns=>by simp[D.pures,D.pure,pures_ints ns]
theorem pys_ints:∀ ns:List Int,PyData.canLayAll0 (D.pys (ns.map D.int))=true∧PyData.depthAll (D.pys (ns.map D.int))=0
 | []=>by simp[D.pys,PyData.canLayAll0,PyData.depthAll]
 | n::ns=>by simp[D.pys,D.py,PyData.canLayAll0,PyData.canLay0,PyData.depthAll,PyData.depth,pys_ints ns]
theorem fit_ints (ns:List Int):(D.lst (ns.map D.int)).fit=true:=by
 unfold D.fit
 rw[Bool.and_eq_true]
 refine⟨by rw[D.pure]; exact pures_ints ns,?_⟩
 rw[D.py]
 unfold SeqAt.shaped
 simp[PyData.canLay0,PyData.depth,pys_ints ns]
theorem fit_nil:(D.lst []).fit=true:=fit_ints []
end Kd
namespace Kd
open PySem VL G
def letter (c:Nat):Bool:=decide (97≤c)&&decide (c≤122)
def wordS (x:Str):Bool:=decide (1≤x.length)&&(decide (x.length≤8)&&x.cps.toList.all letter)
theorem bls_map {α:Type} (f:α→Bool):∀ l:List α,blsOf (l.map fun c=>D.bl (f c))=some (l.map f)
 | []=>rfl
 | x::l=>by rw[List.map_cons,blsOf,bls_map f l]; rfl
end Kd
namespace TB
open PySem PySem.Spec PyProof.Rows L2
def asc (z:Str):Prop:=∀ c∈z.cps.toList,c<128
mutual
def sz:PyData→Nat
 | .tuple xs=>1+szs xs
 | .list xs=>1+szs xs
 | _=>1
def szs:List PyData→Nat
 | []=>0
 | x::xs=>sz x+szs xs
end
mutual
def Ats (j:Nat):PyData→Prop
 | .none=>True
 | .bool _=>True
 | .int i=>i.natAbs<2^(700+j)
 | .str z=>asc z∧z.length≤20+j
 | .tuple xs=>AtsL j xs
 | .list xs=>AtsL j xs
 | .dict _=>False
def AtsL (j:Nat):List PyData→Prop
 | []=>True
 | x::xs=>Ats j x∧AtsL j xs
end
theorem atsL_iff {j:Nat}:∀ {ds:List PyData},AtsL j ds ↔ ∀ d∈ds,Ats j d
 | []=>⟨fun _ d h=>(by cases h),fun _=>by simp[AtsL]⟩
 | d::ds=>by
   simp only[AtsL,List.mem_cons,forall_eq_or_imp]
   rw[atsL_iff (ds:=ds)]
theorem Ats.tup {j:Nat} {ds:List PyData}:Ats j (.tuple ds) ↔ ∀ d∈ds,Ats j d:=by
 simp only[Ats]
 exact atsL_iff
theorem Ats.lst {j:Nat} {ds:List PyData}:Ats j (.list ds) ↔ ∀ d∈ds,Ats j d:=by
 simp only[Ats]
 exact atsL_iff
mutual
theorem Ats.mono {i j:Nat} (h:i≤j):∀ (d:PyData),Ats i d→Ats j d
 | .none,_=>by simp[Ats]
 | .bool _,_=>by simp[Ats]
 | .int n,a=>by
   simp only[Ats] at a ⊢
   exact Nat.lt_of_lt_of_le a (Nat.pow_le_pow_right (by decide) (by omega))
 | .str z,a=>by
   simp only[Ats] at a ⊢
   exact⟨a.1,by omega⟩
 | .tuple xs,a=>by
   simp only[Ats] at a ⊢
   exact AtsL.mono h xs a
 | .list xs,a=>by
   simp only[Ats] at a ⊢
   exact AtsL.mono h xs a
 | .dict _,a=>by simp[Ats] at a
theorem AtsL.mono {i j:Nat} (h:i≤j):∀ (ds:List PyData),AtsL i ds→AtsL j ds
 | [],_=>by simp[AtsL]
 | d::ds,a=>by
   simp only[AtsL] at a ⊢
   exact⟨Ats.mono h d a.1,AtsL.mono h ds a.2⟩
end
theorem sz_pos (d:PyData):1≤sz d:=by
 cases d <;> simp[sz]
theorem szs_mem:∀ {ds:List PyData} {d:PyData},d∈ds→sz d≤szs ds
 | x::ds,d,h=>by
   simp only[szs]
   rcases List.mem_cons.mp h with rfl | h
   · omega
   · have:=szs_mem h
     omega
theorem szs_len:∀ (ds:List PyData),ds.length≤szs ds
 | []=>Nat.le_refl _
 | x::ds=>by
   have:=szs_len ds
   have:=sz_pos x
   simp only[szs,List.length_cons]
   omega
theorem sz_tup (ds:List PyData):sz (.tuple ds)=1+szs ds:=by simp[sz]
theorem sz_lst (ds:List PyData):sz (.list ds)=1+szs ds:=by simp[sz]
theorem dep_tup (ds:List PyData):PyData.depth (.tuple ds)=PyData.depthAll ds+1:=by simp only[PyData.depth]
theorem dep_lst (ds:List PyData):PyData.depth (.list ds)=PyData.depthAll ds+1:=by simp only[PyData.depth]
theorem dep_all {k:Nat}:∀ {ds:List PyData},PyData.depthAll ds≤k ↔ ∀ d∈ds,PyData.depth d≤k
 | []=>⟨fun _ d h=>(by cases h),fun _=>by simp[PyData.depthAll]⟩
 | x::ds=>by
   simp only[PyData.depthAll,List.mem_cons,forall_eq_or_imp]
   rw[← dep_all (ds:=ds)]
   omega
theorem sh_big {i:Int} (h:i.natAbs<2^1900):Sh 0 1921 (.int i):=by
 have hl:i.natAbs.log2<1920:=by
   by_cases h0:i.natAbs=0
   · rw[h0]; decide
   · exact (Nat.log2_lt h0).2 (Nat.lt_of_lt_of_le h (Nat.pow_le_pow_right (by decide) (by decide)))
 refine⟨by simp only[PyData.showable,decide_eq_true_eq]; exact hl,by simp only[PyData.hasDict],by simp[PyData.depth],?_⟩
 simp only[PyData.shown]
 exact int_text_len_1921 hl
theorem sh_txt {z:Str} (a:asc z):Sh 0 (10*z.length+2) (.str z):=by
 refine⟨rfl,rfl,by simp[PyData.depth],?_⟩
 simp only[PyData.shown]
 exact StrLaws.reprText_len z fun c hc=>Nat.lt_of_lt_of_le (a c hc) (by decide)
mutual
theorem ats_sh {j:Nat} (hj:j≤100):∀ d:PyData,Ats j d→d.showable=true∧d.hasDict=false∧d.shown.length+10≤2000*sz d∧PyData.canLay0 d=true
 | .none,_=>by
   refine⟨rfl,rfl,?_,rfl⟩
   simp only[sz]
   decide
 | .bool b,_=>by
   refine⟨rfl,rfl,?_,rfl⟩
   simp only[sz]
   cases b <;> decide
 | .int i,a=>by
   simp only[Ats] at a
   have s:=sh_big (Nat.lt_of_lt_of_le a (Nat.pow_le_pow_right (show 0<2 by decide) (show 700+j≤1900 by omega)))
   refine⟨s.sh,s.nd,?_,rfl⟩
   have:=s.ln
   simp only[sz]
   omega
 | .str z,a=>by
   simp only[Ats] at a
   have s:=sh_txt a.1
   refine⟨s.sh,s.nd,?_,?_⟩
   · have:=s.ln
     simp only[sz]
     omega
   · show PyData.strOk z=true
     unfold PyData.strOk
     simp only[Array.all_eq_true,Bool.and_eq_true]
     first
       | (intro i hi
          have:=a.1 z.cps[i] (by simp)
          simp
          omega)
       | (have h := a.1
          simp
          omega)
 | .tuple xs,a=>by
   simp only[Ats] at a
   obtain⟨p,q,r,s,t⟩:=ats_shs hj xs a
   refine⟨by simp only[PyData.showable,p],by simp only[PyData.hasDict,q],?_,by simp only[PyData.canLay0,t]⟩
   simp only[PyData.shown,sz]
   have:=tupleText_len_le (PyData.shownAll xs)
   rw[s] at this
   omega
 | .list xs,a=>by
   simp only[Ats] at a
   obtain⟨p,q,r,s,t⟩:=ats_shs hj xs a
   refine⟨by simp only[PyData.showable,p],by simp only[PyData.hasDict,q],?_,by simp only[PyData.canLay0,t]⟩
   simp only[PyData.shown,sz]
   have:=listText_len_le (PyData.shownAll xs)
   rw[s] at this
   omega
 | .dict _,a=>by simp[Ats] at a
theorem ats_shs {j:Nat} (hj:j≤100):∀ ds:List PyData,AtsL j ds→PyData.showableAll ds=true∧PyData.hasDictAll ds=false∧((PyData.shownAll ds).map (·.length)).sum+10*ds.length≤2000*szs ds∧(PyData.shownAll ds).length=ds.length∧PyData.canLayAll0 ds=true
 | [],_=>by simp[PyData.showableAll,PyData.hasDictAll,PyData.shownAll,szs,PyData.canLayAll0]
 | d::ds,a=>by
   simp only[AtsL] at a
   obtain⟨p,q,r,s⟩:=ats_sh hj d a.1
   obtain⟨p',q',r',s',t'⟩:=ats_shs hj ds a.2
   refine⟨by simp only[PyData.showableAll,p,p',Bool.and_self],by simp only[PyData.hasDictAll,q,q',Bool.or_self],?_,by simp only[PyData.shownAll,List.length_cons,s'],by simp only[PyData.canLayAll0,s,t',Bool.and_self]⟩
   simp only[PyData.shownAll,List.map_cons,List.sum_cons,szs,List.length_cons]
   omega
end
/-- of this size,this depth,with such ends -/
structure Fit (m k j:Nat) (d:PyData):Prop where
 sz:sz d≤m
 dp:PyData.depth d≤k
 at_:Ats j d
theorem Fit.mono {m m' k k' j j':Nat} {d:PyData} (h:Fit m k j d) (a:m≤m') (b:k≤k') (c:j≤j'):Fit m' k' j' d:=⟨Nat.le_trans h.sz a,Nat.le_trans h.dp b,Ats.mono c d h.at_⟩
theorem Fit.sh {m k j:Nat} {d:PyData} (h:Fit m k j d) (hj:j≤100):Sh k (2000*m) d:=by
 obtain⟨a,b,c,_⟩:=ats_sh hj d h.at_
 have:=h.sz
 exact⟨a,b,h.dp,by omega⟩
theorem Fit.shaped {m k j:Nat} {d:PyData} (h:Fit m k j d) (hj:j≤100) (hk:k≤60):SeqAt.shaped d=true:=by
 obtain⟨_,_,_,a⟩:=ats_sh hj d h.at_
 have:=h.dp
 unfold SeqAt.shaped
 rw[a,decide_eq_true (by omega)]
 rfl
theorem Fit.mem {m k j:Nat} {ds:List PyData} {d:PyData} (h:Fit m (k+1) j (.tuple ds)) (hm:d∈ds):Fit m k j d:=by
 refine⟨?_,?_,Ats.tup.mp h.at_ d hm⟩
 · have:=h.sz
   rw[sz_tup] at this
   have:=szs_mem hm
   omega
 · have:=h.dp
   rw[dep_tup] at this
   exact dep_all.mp (show PyData.depthAll ds≤k by omega) d hm
theorem fit_tup {m k j:Nat} {ds:List PyData} (hs:szs ds≤m) (h:∀ d∈ds,PyData.depth d≤k∧Ats j d):Fit (m+1) (k+1) j (.tuple ds) :=
 ⟨by rw[sz_tup]; omega,by rw[dep_tup]; have:=dep_all.mpr fun d hd=>(h d hd).1; omega,Ats.tup.mpr fun d hd=>(h d hd).2⟩
theorem fit_lst {m k j:Nat} {ds:List PyData} (hs:szs ds≤m) (h:∀ d∈ds,PyData.depth d≤k∧Ats j d):Fit (m+1) (k+1) j (.list ds) :=
 ⟨by rw[sz_lst]; omega,by rw[dep_lst]; have:=dep_all.mpr fun d hd=>(h d hd).1; omega,Ats.lst.mpr fun d hd=>(h d hd).2⟩
theorem dep_ints (ns:List Int):∀ d∈dInts ns,PyData.depth d=0:=fun d hd=>by
 obtain⟨i,_,rfl⟩:=List.mem_map.mp hd
 simp[PyData.depth]
theorem szs_ints:∀ ns:List Int,szs (dInts ns)=ns.length
 | []=>rfl
 | n::ns=>by
   show sz (.int n)+szs (dInts ns)=_
   rw[szs_ints ns]
   simp[sz]
   omega
theorem fit_ints {ns:List Int} {m j:Nat} (hl:ns.length≤m) (h:∀ n∈ns,n.natAbs<2^(700+j)):Fit (m+1) 1 j (.tuple (dInts ns)) :=
 fit_tup (by rw[szs_ints]; exact hl) fun d hd=>⟨by rw[dep_ints ns d hd]; exact Nat.le_refl _,by
   obtain⟨i,hi,rfl⟩:=List.mem_map.mp hd
   simp only[Ats]
   exact h i hi⟩
end TB
namespace Kd
open PySem VL G
theorem bls_of (f:D→Bool) (ds:List D):blsOf (ds.map fun d=>D.bl (f d))=some (ds.map f):=bls_map f ds
end Kd
namespace Kd
open PySem VL G
mutual
/-- plain: made of ints,texts,truths,None,tuples and lists -/
def pln:D→Bool
 | .tup ds=>plns ds
 | .lst ds=>plns ds
 | .non=>true
 | .bl _=>true
 | .int _=>true
 | .str _=>true
 | _=>false
def plns:List D→Bool
 | []=>true
 | d::ds=>pln d&&plns ds
end
theorem plns_eq:∀ ds:List D,plns ds=ds.all pln
 | []=>by simp[plns]
 | d::ds=>by simp[plns,plns_eq ds]
mutual
theorem pln_pure:∀ {d:D},pln d=true→d.pure=true
 | .tup ds,h=>by rw[pln] at h; rw[D.pure]; exact plns_pure h
 | .lst ds,h=>by rw[pln] at h; rw[D.pure]; exact plns_pure h
 | .non,_=>by simp[D.pure]
 | .bl _,_=>by simp[D.pure]
 | .int _,_=>by simp[D.pure]
 | .str _,_=>by simp[D.pure]
 | .ctp _,h=>by simp[pln] at h
 | .fzl _,h=>by simp[pln] at h
 | .ref _,h=>by simp[pln] at h
 | .cv _,h=>by simp[pln] at h
theorem plns_pure:∀ {ds:List D},plns ds=true→D.pures ds=true
 | [],_=>by simp[D.pures]
 | d::ds,h=>by
   rw[plns,Bool.and_eq_true] at h
   rw[D.pures,pln_pure h.1,plns_pure h.2]
   rfl
end
def strD:D→Bool
 | .str _=>true
 | _=>false
end Kd
namespace Kd
open PySem VL TB G
/-- what is small enough to be looked at -/
structure Ok (m k j:Nat) (d:D):Prop where
 p:pln d=true
 f:Fit m k j d.py
theorem ats_str {j:Nat} {x:Str} (h:Ats j (.str x)):asc x∧x.length≤20+j:=by
 simpa [Ats] using h
/-- the sizes that the looks want -/
def Sml (d:D):Prop:=∀ ds,d = .tup ds→ds.length≤sizeLine ∧ ∀ x,.str x∈ds→x.length≤sizeLine
end Kd
namespace Kd
open PySem VL TB G
/-- small all through: as deep as the looks go -/
structure Sm (d:D):Prop where
 p:pln d=true
 s0:Sml d
 s1:∀ ds,d = .tup ds → ∀ x∈ds,Sml x
 s2:∀ ds,d = .tup ds → ∀ x∈ds,∀ es,x = .tup es → ∀ y∈es,Sml y
end Kd
namespace Kd
open PySem VL TB G
theorem pys_map (ds:List D):D.pys ds=ds.map D.py:=D.pys_eq ds
theorem Ok.mem {m k j:Nat} {ds:List D} (h:Ok m (k+1) j (.tup ds)):∀ x∈ds,Ok m k j x:=fun x hx=>by
 have hp:=h.p
 rw[pln,plns_eq,List.all_eq_true] at hp
 have hf:=h.f
 rw[D.py,pys_map] at hf
 exact⟨hp x hx,hf.mem (List.mem_map_of_mem hx)⟩
theorem Ok.sml {m k j:Nat} {d:D} (h:Ok m k j d) (hm:m≤16000000) (hj:j≤100):Sml d:=fun ds e=>by
 subst e
 have hf:=h.f
 rw[D.py,pys_map] at hf
 have h1:=hf.sz
 rw[sz_tup] at h1
 have h2:=szs_len (ds.map D.py)
 rw[List.length_map] at h2
 refine⟨by rw[sizeLine_eq]; omega,fun x hx=>?_⟩
 have h3:=Ats.tup.mp hf.at_ (.str x) (by
   have:=List.mem_map_of_mem (f:=D.py) hx
   rwa [D.py] at this)
 have:=(ats_str h3).2
 rw[sizeLine_eq]
 omega
theorem Ok.sm {m k j:Nat} {d:D} (h:Ok m (k+3) j d) (hm:m≤16000000) (hj:j≤100):Sm d:=by
 refine⟨h.p,h.sml hm hj,fun ds e x hx=>?_,fun ds e x hx es e2 y hy=>?_⟩
 · subst e
   exact (Ok.mem (k:=k+2) h x hx).sml hm hj
 · subst e
   have h1:=Ok.mem (k:=k+2) h x hx
   subst e2
   exact (Ok.mem (k:=k+1) h1 y hy).sml hm hj
theorem Ok.fit {m k j:Nat} {d:D} (h:Ok m k j d) (hj:j≤100) (hk:k≤60):d.fit=true:=by
 unfold D.fit
 rw[pln_pure h.p,h.f.shaped hj hk]
 rfl
end Kd
namespace G
open PySem VL
end G
namespace Kd
open PySem VL TB G
theorem eqv_lst_nil (ds:List D):eqvD (.lst ds) (.lst [])=decide (ds=[]):=by
 unfold eqvD
 rw[D.py,D.py]
 cases ds with
 | nil=>simp[D.pys,PyData.eqv,PyData.eqvAll]
 | cons n r=>simp[D.pys,PyData.eqv,PyData.eqvAll]
end Kd
namespace Kd
open PySem VL TB G
/-- strictly rising -/
def ris:List Str→Bool
 | x::y::r=>ltStr x y&&ris (y::r)
 | _=>true
end Kd
namespace K02
def Lt (c:Nat):Prop:=97≤c∧c≤122
/-- the next word of as many letters,written backwards -/
def incR:List Nat→List Nat
 | []=>[]
 | [c]=>[if c=122 then 97 else c+1]
 | c::d::r=>if c=122 then 97::incR (d::r) else (c+1)::d::r
def aft (cs:List Nat):List Nat:=if cs.length<8 then cs++[97] else (incR cs.reverse).reverse
/-- a word -/
structure Wd (cs:List Nat):Prop where
 n0:0<cs.length
 n1:cs.length≤8
 lt:∀ c∈cs,Lt c
def it (cs:List Nat):Nat→List Nat
 | 0=>cs
 | k+1=>aft (it cs k)
end K02
namespace Kd
open PySem VL TB G
mutual
theorem pure_low (n:Nat):∀ {d:D},d.pure=true→d.low n=true
 | .tup ds,h=>by rw[D.pure] at h; rw[D.low]; exact pures_low n h
 | .ctp ds,h=>by rw[D.pure] at h; rw[D.low]; exact pures_low n h
 | .lst ds,h=>by rw[D.pure] at h; rw[D.low]; exact pures_low n h
 | .fzl _,h=>by simp[D.pure] at h
 | .ref _,h=>by simp[D.pure] at h
 | .cv _,h=>by simp[D.pure] at h
 | .non,_=>by simp[D.low]
 | .bl _,_=>by simp[D.low]
 | .int _,_=>by simp[D.low]
 | .str _,_=>by simp[D.low]
theorem pures_low (n:Nat):∀ {ds:List D},D.pures ds=true→D.lows n ds=true
 | [],_=>by rw[D.lows]
 | d::ds,h=>by
   rw[D.pures,Bool.and_eq_true] at h
   rw[D.lows,pure_low n h.1,pures_low n h.2]
   rfl
end
theorem map_same {α:Type} {f:α→α}:∀ {l:List α},(∀ x∈l,f x=x)→l.map f=l
 | [],_=>rfl
 | x::l,h=>by rw[List.map_cons,h x List.mem_cons_self,map_same fun y hy=>h y (List.mem_cons_of_mem _ hy)]
theorem pure_frz (st:AS) (n:Nat):∀ (k:Nat) (d:D),d.pure=true→frzD st n k d=d
 | 0,d,_=>rfl
 | k+1,d,h=>by
   cases d with
   | tup ds =>
     rw[D.pure,D.pures_eq,List.all_eq_true] at h
     show D.tup (ds.map (frzD st n k))=_
     rw[map_same fun x hx=>pure_frz st n k x (h x hx)]
   | lst ds =>
     rw[D.pure,D.pures_eq,List.all_eq_true] at h
     show D.lst (ds.map (frzD st n k))=_
     rw[map_same fun x hx=>pure_frz st n k x (h x hx)]
   | ref i=>simp[D.pure] at h
   | _=>rfl
/-- the feed -/
structure Fd (i:Nat) (ns:List Int) (n:Nat) (st:AS):Prop where
 h:∃ a b c,st[i]? = some (feedC ns a b c)∧0≤a∧0≤c∧c≤n
theorem Fd.mono {i:Nat} {ns:List Int} {n m:Nat} {st:AS} (h:Fd i ns n st) (hm:n≤m):Fd i ns m st:=by
 obtain⟨a,b,c,h1,h2,h3,h4⟩:=h.h
 exact⟨a,b,c,h1,h2,h3,by omega⟩
theorem Fd.lt {i:Nat} {ns:List Int} {n:Nat} {st:AS} (h:Fd i ns n st):i<st.length:=by
 obtain⟨a,b,c,h1,_⟩:=h.h
 exact (List.getElem?_eq_some_iff.mp h1).1
theorem Fd.to {i:Nat} {ns:List Int} {n:Nat} {st st':AS} (h:Fd i ns n st) (e:st'[i]? = st[i]?):Fd i ns n st':=by
 obtain⟨a,b,c,h1,h2,h3,h4⟩:=h.h
 exact⟨a,b,c,by rw[e]; exact h1,h2,h3,h4⟩
theorem Fd.push {i:Nat} {ns:List Int} {n:Nat} {st:AS} (h:Fd i ns n st) (c:C):Fd i ns n (st++[c]):=h.to (List.getElem?_append_left h.lt)
theorem Fd.put {i j:Nat} {ns:List Int} {n:Nat} {st:AS} (h:Fd i ns n st) (c:C) (hj:j≠i):Fd i ns n (st.set j c):=h.to (List.getElem?_set_ne hj)
/-- a step that changes the feed alone -/
structure Dr (i:Nat) (ns:List Int) (n:Nat) (st st':AS):Prop where
 fd:Fd i ns n st'
 len:st'.length=st.length
 at_:∀ j,j≠i→st'[j]? = st[j]?
theorem Dr.refl {i:Nat} {ns:List Int} {n:Nat} {st:AS} (h:Fd i ns n st):Dr i ns n st st:=⟨h,rfl,fun _ _=>rfl⟩
theorem Dr.trans {i:Nat} {ns:List Int} {n m:Nat} {a b c:AS} (h:Dr i ns n a b) (k:Dr i ns m b c):Dr i ns m a c:=⟨k.fd,k.len.trans h.len,fun j hj=>(k.at_ j hj).trans (h.at_ j hj)⟩
theorem szs_sub:∀ {a b:List PyData},a.Sublist b→szs a≤szs b:=by
 intro a b h
 induction h with
 | slnil=>exact Nat.le_refl _
 | cons x _ ih=>simp only[szs]; omega
 | cons_cons x _ ih=>simp only[szs]; omega
theorem Ok.lst {m k j:Nat} {ds es:List D} (h:Ok m (k+1) j (.tup ds)) (hs:es.Sublist ds):Ok m (k+1) j (.lst es):=by
 have hp:=h.p
 rw[pln,plns_eq,List.all_eq_true] at hp
 have hf:=h.f
 rw[D.py,pys_map] at hf
 have h1:=hf.sz
 rw[sz_tup] at h1
 refine⟨?_,?_⟩
 · rw[pln,plns_eq,List.all_eq_true]
   exact fun x hx=>hp x (hs.subset hx)
 · rw[D.py,pys_map]
   have hss:=szs_sub (hs.map D.py)
   have h2:=hf.dp
   rw[dep_tup] at h2
   have h3:=dep_all.mp (show PyData.depthAll (ds.map D.py)≤k by omega)
   have h4:=Ats.tup.mp hf.at_
   obtain⟨m',rfl⟩:∃ m',m=m'+1:=⟨m-1,by omega⟩
   refine fit_lst (by omega) fun d hd=>?_
   have hm:d∈ds.map D.py:=(hs.map D.py).subset hd
   exact⟨h3 d hm,h4 d hm⟩
end Kd
namespace VL
open PySem PySem.Spec PyProof.Rows L2 TB
section
variable {X:Cx} {E:XK} {pins:List (Addr × Obj)} {σ:L2.St} {H:Hp} {s:Shared}
def KnT (K:PySem.W.Frag) (H:Hp) (a:Addr) (us:List V):Prop :=
 (∃ (o:Obj) (its:Array Value) (n:Nat),K.lookup a=some o∧o.cls = .type "tuple" ∧ o.dict=none∧o.data = .seq its n∧its.size≤sizeLine∧Vals us its.toList) ∨ ∃ o,H a=some (.frz o (.tup us))∧o.dict=none
theorem KnT.get {a:Addr} {us:List V} (I:Inv X pins σ H s) (h:KnT X.K H a us):∃ its:List Value,Vals us its∧PlainSeq "tuple" s.heap a its.toArray∧us.length≤sizeLine:=by
 rcases h with⟨ob,its,n,h1,h2,h3,h4,h5,h6⟩ | ⟨ob,h1,h3⟩
 · have z:=I.kIn a ob h1
   refine⟨its.toList,h6,⟨ob,n,z,h2,h3,by simpa using h4⟩,?_⟩
   have e:=h6.length
   simp at e
   omega
 · obtain⟨z,hz,its,r,ob',z2,hc,n,hd⟩:=(show ObjOk X.prog X.w H s.heap a (.frz ob (.tup us)) from I.hok a _ h1)
   rw[z] at z2
   cases z2
   exact⟨its,r,⟨ob,n,z,hc,h3,hd⟩,hz⟩
end
end VL
namespace VL
open PySem PySem.Spec PyProof.Rows L2 TB
def ltKy:Key→Key→Bool
 | .inl i,.inl j=>decide (i<j)
 | .inr x,.inr y=>decide (x.cps.toList<y.cps.toList)
 | .inl _,.inr _=>true
 | .inr _,.inl _=>false
abbrev KK:=Key × Key
def lexK (p q:KK):Bool:=if p.1=q.1 then ltKy p.2 q.2 else ltKy p.1 q.1
def leP (p q:KK):Bool:=!lexK q p
def sortP (ps:List KK):List KK:=ps.mergeSort leP
def sameK:Key→Key→Bool
 | .inl _,.inl _=>true
 | .inr _,.inr _=>true
 | _,_=>false
def Typed (ps:List KK):Prop:=∀ p∈ps,∀ q∈ps,sameK p.1 q.1=true∧sameK p.2 q.2=true
instance (ps:List KK):Decidable (Typed ps):=by unfold Typed; infer_instance
theorem Typed.of {ps qs:List KK} (t:Typed ps) (h:∀ q∈qs,q∈ps):Typed qs:=fun p hp q hq=>t p (h p hp) q (h q hq)
def KP (h:Heap) (v:Value) (p:KK):Prop:=∃ a o x y n,v = .ref a∧h.get? a=some o∧o.cls = .type "tuple" ∧ o.data = .seq #[x,y] n∧keyIs p.1 x=true∧keyIs p.2 y=true
theorem KP.fn {h:Heap} {v:Value} {p q:KK} (a:KP h v p) (b:KP h v q):p=q:=by
 obtain⟨a,o,x,y,n,rfl,h1,h2,h3,h4,h5⟩:=a
 obtain⟨b,o',x',y',n',e,g1,g2,g3,g4,g5⟩:=b
 cases e
 rw[h1] at g1
 cases g1
 rw[h3] at g3
 cases g3
 refine Prod.ext ?_ ?_
 · rw[← kOf_is (h:=0) h4,← kOf_is (h:=0) g4]
 · rw[← kOf_is (h:=0) h5,← kOf_is (h:=0) g5]
theorem KP.keeps {h h':Heap} {v:Value} {p:KK} {a:Addr} (k:KP h v p) (hc:∀ o,h.get? a=some o→o.cls ≠ .type "tuple") (hk:∀ b o,b≠a→h.get? b=some o→h'.get? b=some o):KP h' v p:=by
 obtain⟨b,o,x,y,n,rfl,h1,h2,h3,h4,h5⟩:=k
 exact⟨b,o,x,y,n,rfl,hk b o (fun e=>hc o (e ▸ h1) h2) h1,h2,h3,h4,h5⟩
@[simp] def valKeys:List (Key × D)→Option (List KK)
 | []=>some []
 | (k,.int i)::r=>(valKeys r).map ((k,.inl i)::·)
 | (k,.str x)::r=>(valKeys r).map ((k,.inr x)::·)
 | _::_=>none
def pairD (p:KK):D:=.tup [keyV p.1,keyV p.2]
@[simp] def pairOf:D→Option KK
 | .tup [.int i,.int j]=>some (.inl i,.inl j)
 | .tup [.int i,.str y]=>some (.inl i,.inr y)
 | .tup [.str x,.int j]=>some (.inr x,.inl j)
 | .tup [.str x,.str y]=>some (.inr x,.inr y)
 | _=>none
@[simp] def pairsK:List D→Option (List KK)
 | []=>some []
 | d::r=>(match pairOf d with
   | some p=>(pairsK r).map (p::·)
   | none=>none)
@[simp] def sortPD (c:Bool) (x:D) (st:AS):Out D:=match listOf st x with
 | some ds=>(match pairsK ds with
   | some ps=>if Typed ps then mk c ((sortP ps).map pairD) st else .bad
   | none=>.bad)
 | none=>.bad
@[simp] def srtItD (x:D) (st:AS):Out D:=match x with
 | .ref i=>(match st[i]? with
   | some (.dct kvs)=>(match valKeys kvs with
     | some ps=>if Typed ps then .ok (.lst ((sortP ps).map pairD)) st else .bad
     | none=>.bad)
   | _=>.bad)
 | _=>.bad
end VL
namespace G
open PySem VL
end G
namespace W9
open PySem VL G Kd
abbrev Nm:=Int × Int
def eNm (n:Nm):D:=.tup [.int n.1,.int n.2]
def eSe (ss:List Str):D:=.ctp (ss.map D.str)
inductive Dd where
 | sit (s t:Str) | move (s t:Str) | join (t o:Str) | go (s:Str)
 | ask (n:Int) (i:Str) (c:Int) (ss:List Str) | change (n:Int) (i:Str)
 | fire (t:Str) (c:Int) | rush (t:Str) (c:Int) | serve (n:Int) | back (n:Int) | strike (n:Int)
 | pay (s:Str) (p:Int) | take (s o:Str) (p:Int) | even (ss:List Str)
def eDd:Dd→D
 | .sit s t=>.tup [.str "sit",.str s,.str t]
 | .move s t=>.tup [.str "move",.str s,.str t]
 | .join t o=>.tup [.str "join",.str t,.str o]
 | .go s=>.tup [.str "go",.str s]
 | .ask n i c ss=>.tup [.str "ask",.int n,.str i,.int c,eSe ss]
 | .change n i=>.tup [.str "change",.int n,.str i]
 | .fire t c=>.tup [.str "fire",.str t,.int c]
 | .rush t c=>.tup [.str "rush",.str t,.int c]
 | .serve n=>.tup [.str "serve",.int n]
 | .back n=>.tup [.str "back",.int n]
 | .strike n=>.tup [.str "strike",.int n]
 | .pay s p=>.tup [.str "pay",.str s,.int p]
 | .take s o p=>.tup [.str "take",.str s,.str o,.int p]
 | .even ss=>.tup [.str "even",eSe ss]
abbrev Pg:=Nm × Dd
def ePg (p:Pg):D:=.tup [eNm p.1,eDd p.2]
structure Dish where
 course:Int
 seats:List Str
 item:Str
 cost:Int
 state:Str
 past:List (Nm × Str)
structure Fi where
 nm:Nm
 word:Str
 table:Str
 course:Int
 some_:List Int
 bars:List Int
structure Wk where
 menu:Menu
 offs:Offs
 tables:List (Str × Str)
 dishes:List (Int × Nat × Dish)
 entries:List (Nm × Str × Str × Int)
 evens:Int
 firings:List Fi
 reasons:List (Nm × Str)
def eEn (e:Nm × Str × Str × Int):D:=.tup [eNm e.1,.str e.2.1,.str e.2.2.1,.int e.2.2.2]
def ePa (e:Nm × Str):D:=.tup [eNm e.1,.str e.2]
def eFi (f:Fi):D:=.tup [eNm f.nm,.str f.word,.str f.table,.int f.course,.tup (f.some_.map D.int),.tup (f.bars.map D.int)]
abbrev eTab (t:List (Str × Str)):List (L2.Key × D):=enK (κ':=L2.Key) Sum.inr D.str t
abbrev eDis (ds:List (Int × Nat × Dish)):List (L2.Key × D):=enK (κ':=L2.Key) Sum.inl (fun p:Nat × Dish=>D.ref p.1) ds
def cDish (p:Nat) (d:Dish):C:=.obj "Dish" [("course",.int d.course),("seats",eSe d.seats),("item",.str d.item),("cost",.int d.cost),("state",.str d.state),("past",.ref (p+1))]
def cWalk (b:Nat) (w:Wk):C:=.obj "Walk" [("menu",eMenu w.menu),("offs",eOffs w.offs),("tables",.ref (b+1)),("dishes",.ref (b+2)),("entries",.ref (b+3)),("evens",.int w.evens),("firings",.ref (b+4)),("reasons",.ref (b+5))]
/-- the cells tell this walk; lk: whether the dishes are being walked -/
structure Rw (lk:List (L2.Key × D)→C) (st:AS) (b:Nat) (w:Wk):Prop where
 wk:st[b]? = some (cWalk b w)
 tb:st[b+1]? = some (.dct (eTab w.tables))
 di:st[b+2]? = some (lk (eDis w.dishes))
 en:st[b+3]? = some (.lst (w.entries.map eEn))
 fi:st[b+4]? = some (.lst (w.firings.map eFi))
 re:st[b+5]? = some (.lst (w.reasons.map ePa))
 ds:∀ d∈w.dishes,st[d.2.1]? = some (cDish d.2.1 d.2.2)∧st[d.2.1+1]? = some (.lst (d.2.2.past.map ePa))
 po:∀ d∈w.dishes,b+6≤d.2.1
 pd:w.dishes.Pairwise fun x y=>x.2.1+2≤y.2.1
 dn:(w.dishes.map (·.1)).Nodup
/-- how much there is at most -/
structure Few (w:Wk):Prop where
 ta:w.tables.length≤1000
 di:w.dishes.length≤60
 en:w.entries.length≤100000
 fi:w.firings.length≤1000
 re:w.reasons.length≤1000
 se:∀ d∈w.dishes,d.2.2.seats.length≤100∧0<d.2.2.seats.length
 pa:∀ d∈w.dishes,d.2.2.past.length≤100000∧d.2.2.past≠[]
 me:w.menu.length≤1000
 evn:0≤w.evens
/-- where a seat sits -/
def tabT (w:Wk) (s:Str):Str:=(look w.tables s).getD (Str.ofString "")
def sitsT (w:Wk) (s:Str):Bool:=!decide (tabT w s=Str.ofString "")
end W9
namespace W9
open PySem VL G Kd
section
variable {lk:List (L2.Key × D)→C} {st:AS} {b:Nat} {w:Wk}
/-- the table of a dish of these seats -/
def tableT (w:Wk) (ss:List Str):Option Str:=((ss.filter (sitsT w)).map (tabT w)).head?
theorem sits_look {s:Str} (hs:sitsT w s=true):look w.tables s=some (tabT w s):=by
 unfold sitsT tabT at hs
 unfold tabT
 cases e:look w.tables s with
 | none=>rw[e] at hs; simp at hs
 | some t=>rfl
def dishT (w:Wk) (n:Int):Option Dish:=(look w.dishes n).map (·.2)
def atT (w:Wk) (t:Str) (n:Int):Bool:=match dishT w n with
 | some d=>decide (tableT w d.seats=some t)
 | none=>false
def dishesAtT (w:Wk) (t:Str):List Int:=(sortI (w.dishes.map (·.1))).filter (atT w t)
def pickT (w:Wk) (q:Dish→Bool) (n:Int):Bool:=match dishT w n with
 | some d=>q d
 | none=>false
def askedT (w:Wk) (t:Str) (c:Int):List Int:=(dishesAtT w t).filter (pickT w fun d=>decide (d.course=c)&&decide (d.state=Str.ofString "asked"))
def hasItem (w:Wk) (i:Str):Bool:=decide (i∈w.menu.map (·.1))
end
theorem Rw.to {lk:List (L2.Key × D)→C} {st st':AS} {b:Nat} {w:Wk} (h:Rw lk st b w) (e:∀ i,b≤i→i<st.length→st'[i]? = st[i]?):Rw lk st' b w:=by
 have at':∀ {i:Nat} {c:C},b≤i→st[i]? = some c→st'[i]? = some c:=fun {i c} hi hc=>by
   rw[e i hi (List.getElem?_eq_some_iff.mp hc).1]
   exact hc
 exact⟨at' (by omega) h.wk,at' (by omega) h.tb,at' (by omega) h.di,at' (by omega) h.en,at' (by omega) h.fi,at' (by omega) h.re,fun d hd=>⟨at' (by have:=h.po d hd; omega) (h.ds d hd).1,at' (by have:=h.po d hd; omega) (h.ds d hd).2⟩,h.po,h.pd,h.dn⟩
theorem Rw.lt {lk:List (L2.Key × D)→C} {st:AS} {b:Nat} {w:Wk} (h:Rw lk st b w):b+5<st.length:=(List.getElem?_eq_some_iff.mp h.re).1
end W9
namespace W9
open PySem VL G Kd
/-- where each dish begins in its run -/
def begStep (s:List (Int × Int) × List (List Str × Int)) (d:Int × Nat × Dish):List (Int × Int) × List (List Str × Int) :=
 let x:=(look s.2 d.2.2.seats).getD 0
 (put s.1 d.1 x,put s.2 d.2.2.seats (x+d.2.2.cost))
def begT (w:Wk):List (Int × Int) × List (List Str × Int):=w.dishes.foldl begStep ([],[])
theorem look_self {ds:List (Int × Nat × Dish)} (nd:(ds.map (·.1)).Nodup):∀ d∈ds,look ds d.1=some d.2:=by
 induction ds with
 | nil=>intro d hd; cases hd
 | cons x ds ih =>
   intro d hd
   rw[List.map_cons,List.nodup_cons] at nd
   rw[look_cons]
   rcases List.mem_cons.mp hd with rfl | hd
   · rw[if_pos rfl]
   · rw[if_neg (fun (z:x.1=d.1)=>nd.1 (by rw[z]; exact List.mem_map_of_mem hd))]
     exact ih nd.2 d hd
def shareT (d:Dish) (beg:Int) (seat:Str):Int:=(dealT d.cost d.seats.length beg).getD (d.seats.idxOf seat) 0
def livT (s:Str):Bool:=decide (s=Str.ofString "asked")||(decide (s=Str.ofString "fired")||decide (s=Str.ofString "served"))
abbrev Rww:=Nm × Str × Int
def rowT (beg:List (Int × Int)) (seat:Str) (d:Int × Nat × Dish):List Rww:=if (livT d.2.2.state&&decide (seat∈d.2.2.seats))=true then [((d.2.2.past.head?.map (·.1)).getD (0,0),Str.ofString "dish",shareT d.2.2 ((look beg d.1).getD 0) seat)] else []
def accT (w:Wk) (seat:Str):List Rww:=((w.entries.filter fun e=>decide (e.2.2.1=seat)).map fun e=>(e.1,e.2.1,e.2.2.2))++(w.dishes.map (rowT (begT w).1 seat)).flatten
theorem over_app (st:AS) (X:List C):OkOver st (st++X):=fun i c hi e=>by
 rw[List.getElem?_append_left hi] at e
 exact .inl e
theorem ret_app {k:Nat} {st:AS} {d:D} (X:List C) (hp:d.pure=true):VL.ret k st d (st++X) = .ok d st:=by
 unfold VL.ret
 split
 · rename_i h
   have:X=[]:=by
     rw[List.length_append] at h
     exact List.length_eq_zero_iff.mp (by omega)
   rw[this,List.append_nil]
 · rw[pure_frz _ _ _ _ hp,if_pos ⟨pure_low _ hp,over_app _ _⟩,List.take_left]
def toPayT (w:Wk) (seat:Str):Int:=((accT w seat).map (·.2.2)).sum
end W9
namespace W9
open PySem VL G Kd
/-- another table of seats -/
theorem Rw.tabs {lk:List (L2.Key × D)→C} {st:AS} {b:Nat} {w:Wk} (h:Rw lk st b w) (t:List (Str × Str)):Rw lk (st.set (b+1) (.dct (eTab t))) b { w with tables:=t }:=by
 have hl:=h.lt
 have ne:∀ {i:Nat},i≠b+1→(st.set (b+1) (.dct (eTab t)))[i]? = st[i]?:=fun {i} hi=>List.getElem?_set_ne (Ne.symm hi)
 refine⟨(ne (by omega)).trans h.wk,List.getElem?_set_self (by omega),(ne (by omega)).trans h.di,(ne (by omega)).trans h.en,(ne (by omega)).trans h.fi,(ne (by omega)).trans h.re,fun d hd=>?_,h.po,h.pd,h.dn⟩
 have:=h.po d hd
 exact⟨(ne (by omega)).trans (h.ds d hd).1,(ne (by omega)).trans (h.ds d hd).2⟩
/-- what a deed leaves: cells below the walk stay; it gets no shorter -/
structure Af (b:Nat) (st st':AS):Prop where
 len:st.length≤st'.length
 low:∀ i,i<b→st'[i]? = st[i]?
theorem Af.refl (b:Nat) (st:AS):Af b st st:=⟨Nat.le_refl _,fun _ _=>rfl⟩
theorem Af.trans {b:Nat} {x y z:AS} (h:Af b x y) (k:Af b y z):Af b x z:=⟨Nat.le_trans h.len k.len,fun i hi=>(k.low i hi).trans (h.low i hi)⟩
theorem Af.set {b:Nat} (st:AS) {i:Nat} (hi:b≤i) (c:C):Af b st (st.set i c):=⟨by simp,fun j hj=>List.getElem?_set_ne (by omega)⟩
def putTab (w:Wk) (s t:Str):Wk:={ w with tables:=put w.tables s t }
end W9
namespace W9
open PySem VL G Kd
def putDish (w:Wk) (n:Int) (p:Nat) (d:Dish):Wk:={ w with dishes:=put w.dishes n (p,d) }
theorem put_mem {κ α:Type} [DecidableEq κ] {l:List (κ × α)} {k:κ} {v:α} (hk:has l k=true) {x:κ × α} (h:x∈put l k v):x=(k,v)∨(x∈l∧x.1≠k):=by
 unfold put at h
 rw[if_pos hk] at h
 obtain⟨y,hy,e⟩:=List.mem_map.mp h
 by_cases z:y.1=k
 · rw[if_pos z] at e
   left
   rw[← e,z]
 · rw[if_neg z] at e
   right
   rw[← e]
   exact⟨hy,z⟩
theorem has_of {κ α:Type} [DecidableEq κ] {l:List (κ × α)} {k:κ} {v:α} (h:look l k=some v):has l k=true:=by
 rw[has_look,h]
 rfl
theorem pos_far {w:Wk} (pd:w.dishes.Pairwise fun x y=>x.2.1+2≤y.2.1) {x y:Int × Nat × Dish} (hx:x∈w.dishes) (hy:y∈w.dishes) (ne:x.1≠y.1):x.2.1+2≤y.2.1∨y.2.1+2≤x.2.1:=by
 generalize w.dishes=l at *
 induction l with
 | nil=>cases hx
 | cons z l ih =>
   obtain⟨h1,h2⟩:=List.pairwise_cons.mp pd
   rcases List.mem_cons.mp hx with ex | hx'
   · rcases List.mem_cons.mp hy with ey | hy'
     · exact absurd (by rw[ex,ey]) ne
     · exact .inl (by rw[ex]; exact h1 y hy')
   · rcases List.mem_cons.mp hy with ey | hy'
     · exact .inr (by rw[ey]; exact h1 x hx')
     · exact ih h2 hx' hy'
theorem dis_put {ds:List (Int × Nat × Dish)} {n:Int} {p:Nat} {d d':Dish} (nd:(ds.map (·.1)).Nodup) (h:look ds n=some (p,d)):eDis (put ds n (p,d'))=eDis ds:=by
 unfold put
 rw[if_pos (has_of h)]
 show enK _ _ _=enK _ _ _
 unfold enK
 rw[List.map_map]
 apply List.map_congr_left
 rintro⟨m,q,e⟩ hm
 show (_,_)=(_,_)
 by_cases z:m=n
 · subst z
   have:=look_self nd _ hm
   simp only at this
   rw[h] at this
   cases this
   simp
 · simp[z]
theorem Rw.upd {lk:List (L2.Key × D)→C} {st st':AS} {b:Nat} {w:Wk} (h:Rw lk st b w) {n:Int} {p:Nat} {d d':Dish} (e:look w.dishes n=some (p,d)) (h1:st'[p]? = some (cDish p d')) (h2:st'[p+1]? = some (.lst (d'.past.map ePa))) (h3:∀ i,b≤i→i≠p→i≠p+1→st'[i]? = st[i]?):Rw lk st' b (putDish w n p d'):=by
 have hm:=look_mem e
 have hp:=h.po _ hm
 simp only at hp
 have hk:=has_of e
 refine⟨(h3 b (by omega) (by omega) (by omega)).trans h.wk,(h3 (b+1) (by omega) (by omega) (by omega)).trans h.tb,?_,(h3 (b+3) (by omega) (by omega) (by omega)).trans h.en,(h3 (b+4) (by omega) (by omega) (by omega)).trans h.fi,(h3 (b+5) (by omega) (by omega) (by omega)).trans h.re,fun x hx=>?_,fun x hx=>?_,?_,?_⟩
 · show st'[b+2]? = some (lk (eDis (put w.dishes n (p,d'))))
   rw[dis_put h.dn e]
   exact (h3 (b+2) (by omega) (by omega) (by omega)).trans h.di
 · rcases put_mem hk hx with rfl | ⟨hx,ne⟩
   · exact⟨h1,h2⟩
   · have far:=pos_far h.pd hx hm ne
     have px:=h.po _ hx
     simp only at far
     have:=h.ds _ hx
     exact⟨(h3 _ (by omega) (by omega) (by omega)).trans this.1,(h3 _ (by omega) (by omega) (by omega)).trans this.2⟩
 · rcases put_mem hk hx with rfl | ⟨hx,ne⟩
   · exact hp
   · exact h.po _ hx
 · show (put w.dishes n (p,d')).Pairwise _
   unfold put
   rw[if_pos hk,List.pairwise_map]
   have fx:∀ x∈w.dishes,(if x.1=n then (x.1,(p,d')) else x).2.1=x.2.1:=fun x hx=>by
     by_cases z:x.1=n
     · rw[if_pos z]
       have:=look_self h.dn _ hx
       rw[z,e] at this
       cases x
       cases this
       rfl
     · rw[if_neg z]
   exact List.Pairwise.imp_of_mem (fun {x y} hx hy r=>by rw[fx x hx,fx y hy]; exact r) h.pd
 · exact put_nodup h.dn n _
theorem Few.upd {w:Wk} (f:Few w) {n:Int} {p:Nat} {d d':Dish} (e:look w.dishes n=some (p,d)) (hs:d'.seats=d.seats) (hp:d'.past.length≤100000∧d'.past≠[]):Few (putDish w n p d'):=by
 have hk:=has_of e
 have hl:(put w.dishes n (p,d')).length=w.dishes.length:=by
   unfold put
   rw[if_pos hk,List.length_map]
 refine⟨f.ta,by show (put _ _ _).length≤_; rw[hl]; exact f.di,f.en,f.fi,f.re,fun x hx=>?_,fun x hx=>?_,f.me,f.evn⟩
 · rcases put_mem hk hx with rfl | ⟨hx,_⟩
   · show d'.seats.length≤100∧0<d'.seats.length
     rw[hs]
     exact f.se _ (look_mem e)
   · exact f.se _ hx
 · rcases put_mem hk hx with rfl | ⟨hx,_⟩
   · exact hp
   · exact f.pa _ hx
def turnD (d:Dish) (s:Str) (nm:Nm):Dish:={ d with state:=s,past:=d.past++[(nm,s)] }
def turnT (w:Wk) (n:Int) (s:Str) (nm:Nm):Wk:=match look w.dishes n with
 | some (p,d)=>putDish w n p (turnD d s nm)
 | none=>w
theorem Few.turn {w:Wk} (f:Few w) {n:Int} {p:Nat} {d:Dish} (e:look w.dishes n=some (p,d)) (s:Str) (nm:Nm) (hl:d.past.length≤90000):Few (putDish w n p (turnD d s nm)) :=
 f.upd e rfl ⟨by show (d.past++_).length≤_; rw[List.length_append]; show _+1≤_; omega,by show d.past++_≠[]; simp⟩
/-- serve,back,strike -/
inductive Tn where | serve | back | strike
def Tn.dd (t:Tn) (n:Int):Dd:=match t with | .serve=>.serve n | .back=>.back n | .strike=>.strike n
def Tn.pre:Tn→List Str
 | .serve=>["fired"]
 | .back=>["served"]
 | .strike=>["asked","fired"]
end W9
namespace W9
open PySem VL G Kd
end W9
namespace W9
open PySem VL G Kd
end W9
namespace W9
open PySem VL G Kd
def e3 (x:Str × Int × Int):D:=.tup [.str x.1,.int x.2.1,.int x.2.2]
end W9
namespace W9
open PySem VL G Kd
/-- a deed that can be told -/
def Vd:Dd→Prop
 | .ask _ _ _ ss=>ss≠[]∧ss.length≤100
 | .even ss=>0<ss.length∧ss.length≤100
 | _=>True
end W9
namespace W9
open PySem VL G Kd
/-- what is known of each dish -/
def DK (K:Nat) (d:Dish):Prop:=(d.past.length≤K∧d.past≠[])∧(d.seats.length≤100∧0<d.seats.length)
theorem DK.mono {K K':Nat} {d:Dish} (h:DK K d) (hk:K≤K'):DK K' d:=⟨⟨Nat.le_trans h.1.1 hk,h.1.2⟩,h.2⟩
end W9
namespace G
open PySem VL
end G
namespace G
open PySem VL
end G
namespace W9
open PySem VL G Kd
structure Dn where
 nm:Nm
 dd:Dd
 fd:List Int
 mv:List (Str × Int)
def eMv (p:Str × Int):D:=.tup [.str p.1,.int p.2]
def isFire:Dd→Bool
 | .fire _ _=>true
 | .rush _ _=>true
 | _=>false
def enc (i:Dn):List D:=if isFire i.dd=true then i.fd.map D.int else i.mv.map eMv
def So (st:AS) (so:D) (L:List D):Prop:=so = .lst L ∨ ∃ k,so = .ref k∧st[k]? = some (.lst L)
def itR (st:AS) (X:D) (i:Dn):Prop:=∃ so,X = .tup [eNm i.nm,eDd i.dd,so]∧So st so (enc i)
/-- a thing that tells the pages done -/
def DnR (st:AS) (dn:D) (is:List Dn):Prop:=∃ zs:List (D × Dn),(dn = .lst (zs.map (·.1)) ∨ ∃ j,dn = .ref j∧st[j]? = some (.lst (zs.map (·.1))))∧zs.map (·.2)=is ∧ ∀ z∈zs,itR st z.1 z.2
theorem So.low {st st':AS} {so:D} {L:List D} (h:So st so L) (e:∀ i,i<st.length→st'[i]? = st[i]?):So st' so L:=by
 rcases h with h | ⟨k,h1,h2⟩
 · exact .inl h
 · exact .inr ⟨k,h1,by rw[e k (List.getElem?_eq_some_iff.mp h2).1]; exact h2⟩
theorem DnR.low {st st':AS} {dn:D} {is:List Dn} (h:DnR st dn is) (e:∀ i,i<st.length→st'[i]? = st[i]?):DnR st' dn is:=by
 obtain⟨zs,h1,h2,h3⟩:=h
 refine⟨zs,?_,h2,fun z hz=>?_⟩
 · rcases h1 with h | ⟨j,h,k⟩
   · exact .inl h
   · exact .inr ⟨j,h,by rw[e j (List.getElem?_eq_some_iff.mp k).1]; exact k⟩
 · obtain⟨so,a,b⟩:=h3 z hz
   exact⟨so,a,b.low e⟩
def whStep (s:Str) (t:Str) (i:Dn):Str:=match i.dd with
 | .sit a u=>if a=s then u else t
 | .move a u=>if a=s then u else t
 | .go a=>if a=s then Str.ofString "" else t
 | .join u o=>if o=t then u else t
 | _=>t
def whereT (is:List Dn) (s:Str):Str:=is.foldl (whStep s) (Str.ofString "")
structure RowT where
 item:Str
 course:Int
 seats:List Str
 state:Str
 min:Int
abbrev Rows:=List (Int × Nat × RowT)
def rowsStep (rs:List (Int × RowT)) (i:Dn):List (Int × RowT):=match i.dd with
 | .ask n it c ss=>put rs n ⟨it,c,ss,Str.ofString "asked",i.nm.1⟩
 | .change n it=>match look rs n with
   | some r=>put rs n { r with item:=it,min:=i.nm.1 }
   | none=>rs
 | .fire _ _=>i.fd.foldl (fun rs n=>match look rs n with | some r=>put rs n { r with state:=Str.ofString "fired" } | none=>rs) rs
 | .rush _ _=>i.fd.foldl (fun rs n=>match look rs n with | some r=>put rs n { r with state:=Str.ofString "fired" } | none=>rs) rs
 | .serve n=>match look rs n with | some r=>put rs n { r with state:=Str.ofString "served" } | none=>rs
 | .back n=>match look rs n with | some r=>put rs n { r with state:=Str.ofString "back" } | none=>rs
 | .strike n=>match look rs n with | some r=>put rs n { r with state:=Str.ofString "struck" } | none=>rs
 | _=>rs
def rowsT (is:List Dn):List (Int × RowT):=is.foldl rowsStep []
/-- the rows without their places -/
def bare (rs:Rows):List (Int × RowT):=rs.map fun r=>(r.1,r.2.2)
/-- what may be told of a page done: the dishes that it speaks of are there -/
def FitD (rs:List (Int × RowT)) (i:Dn):Prop:=match i.dd with
 | .ask n _ _ _=>has rs n=false
 | .change n _=>has rs n=true
 | .fire _ _=>∀ n∈i.fd,has rs n=true
 | .rush _ _=>∀ n∈i.fd,has rs n=true
 | .serve n=>has rs n=true
 | .back n=>has rs n=true
 | .strike n=>has rs n=true
 | _=>True
end W9
namespace W9
open PySem VL G Kd
end W9
namespace W9
open PySem VL G Kd
end W9
namespace G
open PySem VL
end G
namespace Kd
open PySem VL TB G
theorem eqv_lst_nil2 (ds:List D):eqvD (.lst ds) (.lst [])=ds.isEmpty:=by
 rw[eqv_lst_nil]
 cases ds <;> simp
/-- ds != [] -/
theorem ne_nil {m k j:Nat} {ds:List D} (st:AS) (h:Ok m k j (.lst ds)) (hj:j≤100) (hk:k≤60):eqD true (.lst ds) (.lst []) st = .ok (.bl (!ds.isEmpty)) st:=by
 have h1:=h.fit hj hk
 simp[eqD,scalD,h1,fit_nil,eqv_lst_nil2]
theorem Ok.str {m k j:Nat} {x:Str} (h:Ok m k j (.str x)) (hj:j≤100):asc x∧x.length≤sizeLine:=by
 have:=h.f.at_
 rw[D.py] at this
 obtain⟨h1,h2⟩:=ats_str this
 exact⟨h1,by rw[sizeLine_eq]; omega⟩
theorem Ok.len {m k j:Nat} {ds:List D} (h:Ok m k j (.tup ds)):ds.length+1≤m:=by
 have hf:=h.f
 rw[D.py,pys_map] at hf
 have h1:=hf.sz
 rw[sz_tup] at h1
 have h2:=szs_len (ds.map D.py)
 rw[List.length_map] at h2
 omega
theorem szs_strs:∀ xs:List Str,szs ((xs.map D.str).map D.py)=xs.length
 | []=>by simp[szs]
 | x::xs=>by
   have:=szs_strs xs
   simp only[List.map_cons,szs,List.length_cons,this,D.py,sz]
   omega
theorem pures_strs:∀ xs:List Str,D.pures (xs.map D.str)=true
 | []=>by simp[D.pures]
 | x::xs=>by simp[D.pures,D.pure,pures_strs xs]
theorem fit_strs {j:Nat} (xs:List Str) (hl:xs.length≤15000000) (hj:j≤100) (h:∀ x∈xs,asc x∧x.length≤20+j):(D.lst (xs.map D.str)).fit=true:=by
 unfold D.fit
 rw[D.pure,pures_strs,D.py,pys_map]
 have:Fit (15000000+1) 1 j (.list ((xs.map D.str).map D.py)):=fit_lst (by rw[szs_strs]; exact hl) fun d hd=>by
   simp only[List.mem_map] at hd
   obtain⟨e,⟨x,hx,rfl⟩,rfl⟩:=hd
   rw[D.py]
   exact⟨by simp[PyData.depth],by simp only[Ats]; exact h x hx⟩
 rw[this.shaped hj (by decide)]
 rfl
end Kd
namespace W9
open PySem VL G Kd TB
/-- each page done speaks of dishes that are there -/
def Fits:List (Int × RowT)→List Dn→Prop
 | _,[]=>True
 | rs,i::is=>FitD rs i∧i.fd.length≤1000∧Fits (rowsStep rs i) is
def Ws (x:Str):Prop:=asc x∧x.length≤20
def WsD:Dd→Prop
 | .sit _ t=>Ws t
 | .move _ t=>Ws t
 | .join t _=>Ws t
 | _=>True
def atL (is:List Dn) (ss:List Str):Option Str:=((ss.map (whereT is)).filter fun t=>!decide (t=Str.ofString "")).head?
def rowL (is:List Dn) (n:Int):Option RowT:=look (rowsT is) n
def pickL (is:List Dn) (q:RowT→Bool) (n:Int):Bool:=match rowL is n with
 | some r=>q r
 | none=>false
def hereL (is:List Dn) (t:Str):List Int:=(sortI ((rowsT is).map (·.1))).filter (pickL is fun r=>decide (atL is r.seats=some t))
def someL (is:List Dn) (t:Str) (c:Int):List Int:=(hereL is t).filter (pickL is fun r=>decide (r.course=c)&&decide (r.state=Str.ofString "asked"))
end W9
namespace W9
open PySem VL G Kd
end W9
namespace W9
open PySem VL G Kd
abbrev Ow:=List (Str × Int)
abbrev Ends:=List (List Str × Int)
section
variable {lk:List (L2.Key × D)→C} {st T:AS} {rs:Rows} {ow:Ow} {en:Ends}
theorem put_has {κ α:Type} [DecidableEq κ] {l:List (κ × α)} {k:κ} (v:α) (h:has l k=true):(put l k v).length=l.length:=by
 unfold put
 rw[if_pos h,List.length_map]
end
def penceT (b e m h:Int):Int:=(e+m-1-h) / m-(b+m-1-h) / m
def seatStep (b f:Int) (m:Nat) (lv:Bool) (ow:Ow) (p:Str × Nat):Ow:=if (has ow p.1&&lv)=true then put ow p.1 ((look ow p.1).getD 0+penceT b f m p.2) else ow
def owRow (m:Menu) (o:Offs) (s:Ow × Ends) (r:Int × RowT):Ow × Ends :=
 (r.2.seats.zipIdx.foldl (seatStep ((look s.2 r.2.seats).getD 0) ((look s.2 r.2.seats).getD 0+costT m o r.2.item r.2.min) r.2.seats.length (livT r.2.state)) s.1,put s.2 r.2.seats ((look s.2 r.2.seats).getD 0+costT m o r.2.item r.2.min))
end W9
namespace W9
open PySem VL G Kd
def mvsOf (i:Dn):List (Str × Int):=match i.dd with
 | .take a b p=>[(a,p),(b,-p)]
 | .even _=>i.mv
 | _=>[]
def mvAdd (ow:Ow) (x:Str × Int):Ow:=if has ow x.1=true then put ow x.1 ((look ow x.1).getD 0+x.2) else ow
def payStep (ow:Ow) (i:Dn):Ow:=match i.dd with
 | .pay s p=>if has ow s=true then put ow s ((look ow s).getD 0-p) else ow
 | _=>ow
def mvStep (ow:Ow) (i:Dn):Ow:=(mvsOf i).foldl mvAdd (payStep ow i)
def zeroT (ss:List Str):Ow:=ss.foldl (fun ow s=>put ow s 0) []
def owedT (m:Menu) (o:Offs) (is:List Dn) (ss:List Str):Ow:=is.foldl mvStep ((rowsT is).foldl (owRow m o) (zeroT ss,[])).1
end W9
namespace W9
open PySem VL G Kd
theorem ne_ints {xs:List Int} (n:Bool) (st:AS):eqD n (.lst (xs.map D.int)) (.lst []) st = .ok (.bl (xor n xs.isEmpty)) st:=by
 have f1:=fit_ints xs
 have ev:=eqv_lst_nil (xs.map D.int)
 have e2:decide (xs.map D.int=[])=xs.isEmpty:=by cases xs <;> simp
 rw[e2] at ev
 simp[eqD,scalD,f1,fit_nil,ev]
def wordsOf (m:Menu):List Str:=m.map (·.1)
def Sx (s:String):Str:=Str.ofString s
end W9
namespace W9
open PySem VL G Kd
end W9
namespace W9
open PySem VL G Kd
theorem has_put {κ α:Type} [DecidableEq κ] (l:List (κ × α)) (k:κ) (v:α) (j:κ):has (put l k v) j=(decide (j=k)||has l j):=by
 rw[has_look,look_put,has_look]
 by_cases z:j=k <;> simp[z]
theorem has_zero (s:Str):∀ (ss:List Str) (ow:Ow),(s∈ss∨has ow s=true)→has (ss.foldl (fun ow s=>put ow s 0) ow) s=true
 | [],ow,h=>by
   rcases h with h | h
   · cases h
   · exact h
 | x::ss,ow,h=>has_zero s ss _ (by
   rcases h with h | h
   · rcases List.mem_cons.mp h with rfl | h
     · right; rw[has_put]; simp
     · exact .inl h
   · right; rw[has_put,h,Bool.or_true])
def owedV (m:Menu) (o:Offs) (is:List Dn) (ss:List Str) (s:Str):Int:=(look (owedT m o is ss) s).getD 0
def sitsL (is:List Dn):List Str:=is.filterMap fun i=>match i.dd with
 | .sit s _=>some s
 | _=>none
end W9
namespace W9
open PySem VL G Kd
def isSit:Dd→Bool
 | .sit _ _=>true
 | _=>false
def seatOf:Dd→Str
 | .sit s _=>s
 | _=>Sx ""
theorem sitsL_eq (is:List Dn):sitsL is=((is.filter fun i=>isSit i.dd).map fun i=>seatOf i.dd):=by
 unfold sitsL
 induction is with
 | nil=>rfl
 | cons i is ih =>
   rw[List.filterMap_cons,List.filter_cons]
   cases e:i.dd <;> simp[isSit,seatOf,ih,e]
/-- a deed that may stand in a page -/
def WsDd:Dd→Prop
 | .take a b _=>Ws a∧Ws b
 | .even ss=>ss.length≤1000 ∧ ∀ s∈ss,Ws s
 | .ask _ _ _ ss=>ss.length≤1000
 | _=>True
end W9
namespace W9
open PySem VL G Kd
structure LW where
 is:List Dn
 idl:List (Nm × Str)
 ev:Int
def SoH (st T:AS) (so:D) (L:List D):Prop:=so = .lst L ∨ ∃ k,st.length+2≤k∧so = .ref k∧T[k]? = some (.lst L)
def itH (st T:AS) (X:D) (i:Dn):Prop:=∃ so,X = .tup [eNm i.nm,eDd i.dd,so]∧SoH st T so (enc i)
structure LI (st T:AS) (s:LW):Prop where
 zs:∃ zs:List (D × Dn),T[st.length]? = some (.lst (zs.map (·.1)))∧zs.map (·.2)=s.is ∧ ∀ z∈zs,itH st T z.1 z.2
 id:T[st.length+1]? = some (.lst (s.idl.map ePa))
 low:∀ i,i<st.length→T[i]? = st[i]?
theorem SoH.up {st T T':AS} {so:D} {L:List D} (h:SoH st T so L) (e:∀ i,st.length+2≤i→i<T.length→T'[i]? = T[i]?):SoH st T' so L:=by
 rcases h with h | ⟨k,h0,h1,h2⟩
 · exact .inl h
 · exact .inr ⟨k,h0,h1,by rw[e k h0 (List.getElem?_eq_some_iff.mp h2).1]; exact h2⟩
theorem LI.dn {st T:AS} {s:LW} (h:LI st T s):DnR T (.ref st.length) s.is:=by
 obtain⟨zs,h1,h2,h3⟩:=h.zs
 refine⟨zs,.inr ⟨_,rfl,h1⟩,h2,fun z hz=>?_⟩
 obtain⟨so,a,b⟩:=h3 z hz
 refine⟨so,a,?_⟩
 rcases b with b | ⟨k,_,b,c⟩
 · exact .inl b
 · exact .inr ⟨k,b,c⟩
theorem LI.up {st T T':AS} {s:LW} (h:LI st T s) (e:∀ i,i<T.length→T'[i]? = T[i]?):LI st T' s:=by
 obtain⟨zs,h1,h2,h3⟩:=h.zs
 have l1:=(List.getElem?_eq_some_iff.mp h1).1
 have l2:=(List.getElem?_eq_some_iff.mp h.id).1
 refine⟨⟨zs,by rw[e _ l1]; exact h1,h2,fun z hz=>?_⟩,by rw[e _ l2]; exact h.id,fun i hi=>by rw[e i (by omega)]; exact h.low i hi⟩
 obtain⟨so,a,b⟩:=h3 z hz
 exact⟨so,a,b.up fun i _ hi=>e i hi⟩
theorem LI.done {st T:AS} {s:LW} (h:LI st T s) (hl:s.is.length≤1000) (i:Dn) {so:D} (hso:SoH st T so (enc i)) (ev:Int):∃ T',appD (.ref st.length) [.tup [eNm i.nm,eDd i.dd,so]] T = .ok .non T'∧LI st T' ⟨s.is++[i],s.idl,ev⟩:=by
 obtain⟨zs,h1,h2,h3⟩:=h.zs
 have l1:=(List.getElem?_eq_some_iff.mp h1).1
 have zl:zs.length<sizeLine:=by
   rw[← h2,List.length_map] at hl
   rw[sizeLine_eq]
   omega
 have e:∀ j,j≠st.length → ∀ X,(T.set st.length X)[j]? = T[j]?:=fun j hj X=>List.getElem?_set_ne (Ne.symm hj)
 refine⟨T.set st.length (.lst (zs.map (·.1)++[.tup [eNm i.nm,eDd i.dd,so]])),by simp -implicitDefEqProofs [h1,zl],⟨⟨zs++[(.tup [eNm i.nm,eDd i.dd,so],i)],?_,?_,fun z hz=>?_⟩,?_,fun j hj=>?_⟩⟩
 · rw[List.getElem?_set_self l1,List.map_append]
   rfl
 · rw[List.map_append,h2]
   rfl
 · rcases List.mem_append.mp hz with hz | hz
   · obtain⟨so,a,b⟩:=h3 z hz
     exact⟨so,a,b.up fun j hj _=>e j (by omega) _⟩
   · rw[List.mem_singleton.mp hz]
     exact⟨so,rfl,hso.up fun j hj _=>e j (by omega) _⟩
 · rw[e _ (by omega)]; exact h.id
 · rw[e _ (by omega)]; exact h.low j hj
end W9
namespace W9
open PySem VL G Kd
end W9
namespace W9
open PySem VL G Kd
theorem mem_put {κ α:Type} [DecidableEq κ] {l:List (κ × α)} {k:κ} {v:α} {x:κ × α} (h:x∈put l k v):x∈l∨x=(k,v):=by
 unfold put at h
 split at h
 · obtain⟨y,hy,rfl⟩:=List.mem_map.mp h
   split
   · rename_i e
     right
     rw[e]
   · exact .inl hy
 · rcases List.mem_append.mp h with h | h
   · exact .inl h
   · exact .inr (List.mem_singleton.mp h)
def OkI (m:Menu) (i:Dn):Prop:=match i.dd with
 | .ask _ it _ ss=>(rowOf m it).isSome=true∧0≤i.nm.1∧ss.length≤1000
 | .change _ it=>(rowOf m it).isSome=true∧0≤i.nm.1
 | _=>True
/-- what a page of the book may be -/
structure VdP (pg:Pg):Prop where
 h0:0≤pg.1.1
 dd:WsDd pg.2
 wd:WsD pg.2
 st:isSit pg.2=true→Ws (seatOf pg.2)
end W9
namespace W9
open PySem VL G Kd
end W9
namespace W9
open PySem VL G Kd
def val (ow:Ow) (x:Str):Int:=(look ow x).getD 0
theorem val_put (ow:Ow) (k x:Str) (v:Int):val (put ow k v) x=if x=k then v else val ow x:=by
 unfold val
 rw[look_put]
 split <;> rfl
def sh (b f:Int) (lv:Bool) (x:Str) (m:Nat) (p:Str × Nat):Int:=if p.1=x∧lv=true then penceT b f m p.2 else 0
theorem seatStep_val {b f:Int} {m:Nat} {lv:Bool} {ow:Ow} {x:Str} (h:has ow x=true) (p:Str × Nat):val (seatStep b f m lv ow p) x=val ow x+sh b f lv x m p∧has (seatStep b f m lv ow p) x=true:=by
 unfold seatStep sh
 by_cases e:p.1=x
 · subst e
   cases lv with
   | true=>
     rw[h]
     simp only[Bool.and_self,if_true,and_self]
     refine⟨by rw[val_put,if_pos rfl]; rfl,by rw[has_put]; simp⟩
   | false=>simp[h]
 · rw[if_neg (show ¬ (p.1=x∧lv=true) from fun z=>e z.1)]
   split
   · refine⟨by rw[val_put,if_neg (fun z=>e z.symm)]; omega,by rw[has_put,h,Bool.or_true]⟩
   · exact⟨by omega,h⟩
theorem seats_val {b f:Int} {m:Nat} {lv:Bool} {x:Str}:∀ (ps:List (Str × Nat)) (ow:Ow),has ow x=true→val (ps.foldl (seatStep b f m lv) ow) x=val ow x+(ps.map (sh b f lv x m)).sum∧has (ps.foldl (seatStep b f m lv) ow) x=true
 | [],ow,h=>⟨by simp,h⟩
 | p::ps,ow,h=>by
   obtain⟨e,h1⟩:=seatStep_val (b:=b) (f:=f) (m:=m) (lv:=lv) h p
   obtain⟨e2,h2⟩:=seats_val (b:=b) (f:=f) (m:=m) (lv:=lv) ps _ h1
   refine⟨?_,h2⟩
   rw[List.foldl_cons,e2,e,List.map_cons,List.sum_cons]
   omega
theorem sh_out {b f:Int} {lv:Bool} {x:Str} {m:Nat}:∀ (ss:List Str) (k:Nat),x∉ss→((ss.zipIdx k).map (sh b f lv x m)).sum=0
 | [],k,_=>rfl
 | s::ss,k,h=>by
   rw[List.zipIdx_cons,List.map_cons,List.sum_cons,sh_out ss (k+1) (fun z=>h (List.mem_cons_of_mem _ z))]
   unfold sh
   rw[if_neg (fun z=>h (by rw[← z.1]; exact List.mem_cons_self))]
   rfl
theorem sh_sum {b f:Int} {lv:Bool} {x:Str} {m:Nat}:∀ (ss:List Str) (k:Nat),ss.Nodup→((ss.zipIdx k).map (sh b f lv x m)).sum=if x∈ss∧lv=true then penceT b f m ((k+ss.idxOf x:Nat)) else 0
 | [],k,_=>by simp
 | s::ss,k,h=>by
   obtain⟨h1,h2⟩:=List.nodup_cons.mp h
   rw[List.zipIdx_cons,List.map_cons,List.sum_cons]
   by_cases e:s=x
   · subst e
     rw[sh_out ss (k+1) h1]
     unfold sh
     by_cases l:lv=true <;> simp[l]
   · rw[sh_sum ss (k+1) h2]
     unfold sh
     rw[if_neg (fun z=>e z.1)]
     have:(s::ss).idxOf x=ss.idxOf x+1:=by
       have hb:(s==x)=false:=beq_eq_false_iff_ne.mpr e
       rw[List.idxOf_cons,hb]
       rfl
     rw[this]
     have e':¬ x=s:=fun z=>e z.symm
     have a:k+1+ss.idxOf x=k+(ss.idxOf x+1):=by omega
     rw[a]
     simp[e']
/-- seats,cost,whether it is still to be paid -/
abbrev Tr:=List Str × Int × Bool
def goT:List Tr→Ends→Str→Int
 | [],_,_=>0
 | (ss,c,lv)::rs,en,x=>(if x∈ss∧lv=true then penceT ((look en ss).getD 0) ((look en ss).getD 0+c) ss.length (ss.idxOf x:Nat) else 0)+goT rs (put en ss ((look en ss).getD 0+c)) x
def trL (m:Menu) (o:Offs) (r:Int × RowT):Tr:=(r.2.seats,costT m o r.2.item r.2.min,livT r.2.state)
theorem owRows_val {m:Menu} {o:Offs} {x:Str}:∀ (rs:List (Int × RowT)) (ow:Ow) (en:Ends),(∀ r∈rs,r.2.seats.Nodup)→has ow x=true→val (rs.foldl (owRow m o) (ow,en)).1 x=val ow x+goT (rs.map (trL m o)) en x∧has (rs.foldl (owRow m o) (ow,en)).1 x=true
 | [],ow,en,_,h=>⟨by simp[goT],h⟩
 | r::rs,ow,en,hn,h=>by
   obtain⟨e,h1⟩:=seats_val (b:=(look en r.2.seats).getD 0) (f:=(look en r.2.seats).getD 0+costT m o r.2.item r.2.min) (m:=r.2.seats.length) (lv:=livT r.2.state) r.2.seats.zipIdx ow h
   rw[sh_sum r.2.seats 0 (hn r List.mem_cons_self)] at e
   obtain⟨e2,h2⟩:=owRows_val (m:=m) (o:=o) rs _ (put en r.2.seats ((look en r.2.seats).getD 0+costT m o r.2.item r.2.min)) (fun q hq=>hn q (List.mem_cons_of_mem _ hq)) h1
   refine⟨?_,h2⟩
   rw[List.foldl_cons]
   show val (rs.foldl (owRow m o) (_,_)).1 x=_
   rw[e2,e,List.map_cons]
   show _=val ow x+((if x∈r.2.seats∧livT r.2.state=true then _ else _)+_)
   rw[Nat.zero_add]
   omega
def mvSum (xs:List (Str × Int)) (x:Str):Int:=((xs.filter fun p=>decide (p.1=x)).map (·.2)).sum
theorem mv_val {x:Str}:∀ (xs:List (Str × Int)) (ow:Ow),has ow x=true→val (xs.foldl mvAdd ow) x=val ow x+mvSum xs x∧has (xs.foldl mvAdd ow) x=true
 | [],ow,h=>⟨by simp[mvSum],h⟩
 | p::xs,ow,h=>by
   have h1:has (mvAdd ow p) x=true:=by
     unfold mvAdd
     split
     · rw[has_put,h,Bool.or_true]
     · exact h
   obtain⟨e,h2⟩:=mv_val xs (mvAdd ow p) h1
   refine⟨?_,h2⟩
   rw[List.foldl_cons,e]
   unfold mvSum mvAdd
   rw[List.filter_cons]
   by_cases z:p.1=x
   · subst z
     rw[if_pos h,val_put,if_pos rfl]
     simp[val]
     omega
   · rw[if_neg (show ¬ decide (p.1=x)=true by simp[z])]
     split
     · rw[val_put,if_neg (fun y=>z y.symm)]
     · rfl
/-- what a page done moves for a seat -/
def moveI (i:Dn) (x:Str):Int:=(match i.dd with
 | .pay s p=>if s=x then -p else 0
 | _=>0)+mvSum (mvsOf i) x
def movedL (is:List Dn) (x:Str):Int:=(is.map fun i=>moveI i x).sum
theorem moves_val {x:Str}:∀ (is:List Dn) (ow:Ow),has ow x=true→val (is.foldl mvStep ow) x=val ow x+movedL is x
 | [],ow,_=>by simp[movedL]
 | i::is,ow,h=>by
   have hp:has (payStep ow i) x=true∧val (payStep ow i) x=val ow x+(match i.dd with | .pay s p=>if s=x then -p else 0 | _=>0):=by
     unfold payStep
     cases i.dd with
     | pay s p =>
       dsimp only
       by_cases z:s=x
       · subst z
         rw[if_pos h,if_pos rfl,val_put,if_pos rfl]
         refine⟨by rw[has_put]; simp,?_⟩
         unfold val
         omega
       · rw[if_neg z]
         split
         · exact⟨by rw[has_put,h,Bool.or_true],by rw[val_put,if_neg (fun y=>z y.symm)]; omega⟩
         · exact⟨h,by omega⟩
     | _=>exact⟨h,by simp⟩
   obtain⟨e,h2⟩:=mv_val (mvsOf i) (payStep ow i) hp.1
   have ih:=moves_val is (mvStep ow i) h2
   rw[List.foldl_cons,ih]
   unfold mvStep movedL
   rw[e,hp.2,List.map_cons,List.sum_cons]
   unfold moveI
   omega
theorem zero_val (x:Str):∀ (ss:List Str) (ow:Ow),val ow x=0→val (ss.foldl (fun ow s=>put ow s 0) ow) x=0
 | [],ow,h=>h
 | s::ss,ow,h=>zero_val x ss _ (by rw[val_put]; split <;> simp[h])
theorem owedV_eq {m:Menu} {o:Offs} {is:List Dn} {ss:List Str} {x:Str} (hx:x∈ss) (hn:∀ r∈rowsT is,r.2.seats.Nodup):owedV m o is ss x=goT ((rowsT is).map (trL m o)) [] x+movedL is x:=by
 have h0:has (zeroT ss) x=true:=has_zero x ss [] (.inl hx)
 obtain⟨e,h1⟩:=owRows_val (m:=m) (o:=o) (rowsT is) (zeroT ss) [] hn h0
 show val (owedT m o is ss) x=_
 unfold owedT
 rw[moves_val is _ h1,e]
 have:val (zeroT ss) x=0:=zero_val x ss [] rfl
 omega
end W9
namespace W9
open PySem VL G Kd
def entSum (w:Wk) (x:Str):Int:=((w.entries.filter fun e=>decide (e.2.2.1=x)).map (·.2.2.2)).sum
def trP (d:Int × Nat × Dish):Tr:=(d.2.2.seats,d.2.2.cost,livT d.2.2.state)
theorem share_eq (d:Dish) (b:Int) (x:Str) (h:x∈d.seats):shareT d b x=penceT b (b+d.cost) d.seats.length (d.seats.idxOf x:Nat):=by
 have hl:d.seats.idxOf x<d.seats.length:=List.idxOf_lt_length_of_mem h
 unfold shareT dealT penceT
 rw[List.getD_eq_getElem?_getD,List.getElem?_map,List.getElem?_range hl]
 show below _ _ _-below _ _ _=_
 unfold below
 have e1:b+d.cost-(d.seats.idxOf x:Nat)+(d.seats.length:Int)-1=b+d.cost+d.seats.length-1-(d.seats.idxOf x:Nat):=by omega
 have e2:b-(d.seats.idxOf x:Nat)+(d.seats.length:Int)-1=b+d.seats.length-1-(d.seats.idxOf x:Nat):=by omega
 rw[e1,e2]
theorem beg_keep:∀ (ds:List (Int × Nat × Dish)) (s:List (Int × Int) × List (List Str × Int)) (n:Int),n∉ds.map (·.1)→look (ds.foldl begStep s).1 n=look s.1 n
 | [],s,n,_=>rfl
 | d::ds,s,n,h=>by
   rw[List.foldl_cons,beg_keep ds _ n (fun z=>h (List.mem_cons_of_mem _ z))]
   unfold begStep
   dsimp only
   rw[look_put,if_neg (fun z=>h (by rw[z]; exact List.mem_cons_self))]
theorem rows_go {x:Str}:∀ (ds:List (Int × Nat × Dish)) (s:List (Int × Int) × List (List Str × Int)),(ds.map (·.1)).Nodup→(((ds.map (rowT (ds.foldl begStep s).1 x)).flatten).map (·.2.2)).sum=goT (ds.map trP) s.2 x
 | [],s,_=>rfl
 | d::ds,s,h=>by
   rw[List.map_cons,List.nodup_cons] at h
   have ih:=rows_go (x:=x) ds (begStep s d) h.2
   have lk:look (ds.foldl begStep (begStep s d)).1 d.1=some ((look s.2 d.2.2.seats).getD 0):=by
     rw[beg_keep ds _ d.1 h.1]
     unfold begStep
     dsimp only
     rw[look_put,if_pos rfl]
   rw[List.foldl_cons,List.map_cons,List.flatten_cons,List.map_append,List.sum_append,ih]
   have e2:(begStep s d).2=put s.2 d.2.2.seats ((look s.2 d.2.2.seats).getD 0+d.2.2.cost):=rfl
   rw[e2,List.map_cons]
   show _=(if x∈d.2.2.seats∧livT d.2.2.state=true then _ else _)+_
   congr 1
   unfold rowT
   rw[lk]
   by_cases a:livT d.2.2.state=true
   · by_cases b:x∈d.2.2.seats
     · rw[if_pos (by simp[a,b]),if_pos ⟨b,a⟩]
       show shareT _ _ _+0=_
       rw[Int.add_zero]
       exact share_eq _ _ _ b
     · rw[if_neg (by simp[b]),if_neg (fun z=>b z.1)]
       rfl
   · rw[if_neg (by simp[a]),if_neg (fun z=>a z.2)]
     rfl
theorem toPay_eq {w:Wk} (x:Str) (h:(w.dishes.map (·.1)).Nodup):toPayT w x=entSum w x+goT (w.dishes.map trP) [] x:=by
 unfold toPayT accT
 rw[List.map_append,List.sum_append,List.map_map]
 have:=rows_go (x:=x) w.dishes ([],[]) h
 show _+(((w.dishes.map (rowT (w.dishes.foldl begStep ([],[])).1 x)).flatten).map (·.2.2)).sum=_
 rw[this]
 rfl
/-- dish by dish the same -/
def likeR (m:Menu) (o:Offs) (d:Int × Nat × Dish) (r:Int × RowT):Prop:=d.1=r.1∧d.2.2.item=r.2.item∧d.2.2.course=r.2.course∧d.2.2.seats=r.2.seats∧d.2.2.state=r.2.state∧d.2.2.cost=costT m o r.2.item r.2.min
inductive Like (m:Menu) (o:Offs):List (Int × Nat × Dish)→List (Int × RowT)→Prop
 | nil:Like m o [] []
 | cons {d:Int × Nat × Dish} {r:Int × RowT} {ds:List (Int × Nat × Dish)} {rs:List (Int × RowT)}:likeR m o d r→Like m o ds rs→Like m o (d::ds) (r::rs)
theorem Like.tr {m:Menu} {o:Offs} {ds:List (Int × Nat × Dish)} {rs:List (Int × RowT)} (h:Like m o ds rs):ds.map trP=rs.map (trL m o)∧ds.map (·.1)=rs.map (·.1):=by
 induction h with
 | nil=>exact⟨rfl,rfl⟩
 | cons a _ ih =>
   obtain⟨a1,a2,a3,a4,a5,a6⟩:=a
   rw[List.map_cons,List.map_cons,List.map_cons,List.map_cons,ih.1,ih.2,a1]
   refine⟨?_,rfl⟩
   congr 1
   unfold trP trL
   rw[a4,a5,a6]
/-- the program's walk and the law's hold the same -/
structure Eqv (m:Menu) (o:Offs) (w:Wk) (s:LW):Prop where
 me:w.menu=m
 of:w.offs=o
 tb:∀ x,tabT w x=whereT s.is x
 di:Like m o w.dishes (rowsT s.is)
 mv:∀ x,entSum w x=movedL s.is x
 ev:w.evens=s.ev
 id:w.reasons=s.idl
 se:∀ r∈rowsT s.is,r.2.seats.Nodup
 dn:(w.dishes.map (·.1)).Nodup
 ky:∀ x,x∈w.tables.map (·.1)↔x∈sitsL s.is
 kn:(w.tables.map (·.1)).Nodup
theorem Eqv.pay {m:Menu} {o:Offs} {w:Wk} {s:LW} (h:Eqv m o w s) {ss:List Str} {x:Str} (hx:x∈ss):owedV m o s.is ss x=toPayT w x:=by
 rw[owedV_eq hx h.se,toPay_eq x h.dn,h.di.tr.1,h.mv]
 omega
theorem Eqv.sit {m:Menu} {o:Offs} {w:Wk} {s:LW} (h:Eqv m o w s) (x:Str):sitsT w x=!decide (whereT s.is x=Str.ofString ""):=by
 rw[← h.tb]
 rfl
end W9
namespace W9
open PySem VL G Kd
section
variable {m:Menu} {o:Offs} {w:Wk} {s:LW}
theorem Like.look {ds:List (Int × Nat × Dish)} {rs:List (Int × RowT)} (h:Like m o ds rs) (n:Int):(look ds n=none∧look rs n=none) ∨ ∃ p d r,look ds n=some (p,d)∧look rs n=some r∧likeR m o (n,p,d) (n,r):=by
 induction h with
 | nil=>exact .inl ⟨rfl,rfl⟩
 | cons a _ ih =>
   rename_i d r ds rs _
   rw[look_cons,look_cons]
   obtain⟨a1,a2,a3,a4,a5,a6⟩:=a
   by_cases z:d.1=n
   · rw[if_pos z,if_pos (a1 ▸ z)]
     exact .inr ⟨d.2.1,d.2.2,r.2,rfl,rfl,rfl,a2,a3,a4,a5,a6⟩
   · rw[if_neg z,if_neg (a1 ▸ z)]
     exact ih
theorem Eqv.table (h:Eqv m o w s) (ss:List Str):tableT w ss=atL s.is ss:=by
 unfold tableT atL
 congr 1
 induction ss with
 | nil=>rfl
 | cons x ss ih =>
   rw[List.filter_cons,List.map_cons,List.filter_cons,h.sit x]
   by_cases z:whereT s.is x=Str.ofString ""
   · rw[if_neg (by simp[z]),if_neg (by simp[z])]
     exact ih
   · rw[if_pos (by simp[z]),if_pos (by simp[z]),List.map_cons,ih,h.tb]
theorem Eqv.pick (h:Eqv m o w s) (q:Dish→Bool) (q':RowT→Bool) (hq:∀ p d r n,likeR m o (n,p,d) (n,r)→q d=q' r) (n:Int):pickT w q n=pickL s.is q' n:=by
 unfold pickT dishT pickL rowL
 rcases h.di.look n with⟨a,b⟩ | ⟨p,d,r,a,b,c⟩
 · rw[a,b]; rfl
 · rw[a,b]
   exact hq p d r n c
theorem Eqv.here (h:Eqv m o w s) (t:Str):dishesAtT w t=hereL s.is t:=by
 unfold dishesAtT hereL
 rw[h.di.tr.2]
 exact List.filter_congr fun n _=>h.pick _ _ (fun p d r n c=>by rw[h.table,show d.seats=r.seats from c.2.2.2.1]) n
theorem Eqv.some_ (h:Eqv m o w s) (t:Str) (c:Int):askedT w t c=someL s.is t c:=by
 unfold askedT someL
 rw[h.here]
 exact List.filter_congr fun n _=>h.pick _ _ (fun p d r n k=>by rw[show d.course=r.course from k.2.2.1,show d.state=r.state from k.2.2.2.2.1]) n
theorem Eqv.item (h:Eqv m o w s) (i:Str):hasItem w i=decide (i∈wordsOf m):=by
 unfold hasItem wordsOf
 rw[h.me]
end
end W9
namespace W9
open PySem VL G Kd
theorem where_app (is:List Dn) (i:Dn) (x:Str):whereT (is++[i]) x=whStep x (whereT is x) i:=by
 unfold whereT
 rw[List.foldl_append]
 rfl
theorem rows_app (is:List Dn) (i:Dn):rowsT (is++[i])=rowsStep (rowsT is) i:=by
 unfold rowsT
 rw[List.foldl_append]
 rfl
theorem moved_app (is:List Dn) (i:Dn) (x:Str):movedL (is++[i]) x=movedL is x+moveI i x:=by
 unfold movedL
 rw[List.map_append,List.sum_append]
 show _+(moveI i x+0)=_
 rw[Int.add_zero]
theorem sits_app (is:List Dn) (i:Dn) (x:Str):x∈sitsL (is++[i])↔x∈sitsL is∨(isSit i.dd=true∧seatOf i.dd=x):=by
 rw[sitsL_eq,sitsL_eq,List.filter_append,List.map_append,List.mem_append]
 constructor
 · rintro (a | a)
   · exact .inl a
   · obtain⟨y,hy,rfl⟩:=List.mem_map.mp a
     obtain⟨h1,h2⟩:=List.mem_filter.mp hy
     rw[List.mem_singleton.mp h1] at h2 ⊢
     exact .inr ⟨h2,rfl⟩
 · rintro (a | ⟨a,rfl⟩)
   · exact .inl a
   · right
     exact List.mem_map.mpr ⟨i,List.mem_filter.mpr ⟨List.mem_singleton.mpr rfl,a⟩,rfl⟩
section
variable {m:Menu} {o:Offs} {w:Wk} {s:LW}
/-- only the tables change -/
theorem Eqv.tabs (h:Eqv m o w s) (i:Dn) (tb:List (Str × Str)) (h1:∀ rs,rowsStep rs i=rs) (h2:∀ x,moveI i x=0) (h3:∀ x,(look tb x).getD (Str.ofString "")=whStep x (whereT s.is x) i) (h4:∀ x,x∈tb.map (·.1)↔x∈w.tables.map (·.1)∨(isSit i.dd=true∧seatOf i.dd=x)) (h5:(tb.map (·.1)).Nodup):Eqv m o { w with tables:=tb } ⟨s.is++[i],s.idl,s.ev⟩:=by
 refine⟨h.me,h.of,fun x=>?_,?_,fun x=>?_,h.ev,h.id,?_,h.dn,fun x=>?_,h5⟩
 · rw[where_app]; exact h3 x
 · rw[rows_app,h1]; exact h.di
 · rw[moved_app,h2,Int.add_zero]; exact h.mv x
 · rw[rows_app,h1]; exact h.se
 · rw[sits_app,← h.ky]; exact h4 x
theorem Eqv.key (h:Eqv m o w s) {a:Str} (z:sitsT w a=true):a∈w.tables.map (·.1):=by
 have:=sits_look z
 exact mem_keys.mp (has_of this)
theorem keys_put (l:List (Str × Str)) (k v x:Str):x∈(put l k v).map (·.1)↔x=k∨x∈l.map (·.1):=by
 rw[← mem_keys,← mem_keys,has_put]
 simp
theorem Eqv.put (h:Eqv m o w s) (i:Dn) (a t:Str) (h1:∀ rs,rowsStep rs i=rs) (h2:∀ x,moveI i x=0) (h3:∀ x T,whStep x T i=if a=x then t else T) (h4:(isSit i.dd=true∧seatOf i.dd=a)∨(isSit i.dd=false∧a∈w.tables.map (·.1))):Eqv m o (putTab w a t) ⟨s.is++[i],s.idl,s.ev⟩:=by
 refine h.tabs i (G.put w.tables a t) h1 h2 (fun x=>?_) (fun x=>?_) (put_nodup h.kn a t)
 · rw[h3,look_put,← h.tb]
   by_cases z:x=a
   · rw[if_pos z,if_pos z.symm]; rfl
   · rw[if_neg z,if_neg (fun y=>z y.symm)]; rfl
 · rw[keys_put]
   rcases h4 with⟨b,c⟩ | ⟨b,c⟩
   · rw[c,b]
     constructor
     · rintro (e | e)
       · exact .inr ⟨rfl,e.symm⟩
       · exact .inl e
     · rintro (e | ⟨_,e⟩)
       · exact .inr e
       · exact .inl e.symm
   · constructor
     · rintro (e | e)
       · rw[e]; exact .inl c
       · exact .inl e
     · rintro (e | ⟨e,_⟩)
       · exact .inr e
       · rw[b] at e; cases e
end
end W9
namespace W9
open PySem VL G Kd
theorem Like.map {m:Menu} {o:Offs} {ds:List (Int × Nat × Dish)} {rs:List (Int × RowT)} (h:Like m o ds rs) {f:Int × Nat × Dish→Int × Nat × Dish} {g:Int × RowT→Int × RowT} (k:∀ d r,likeR m o d r→likeR m o (f d) (g r)):Like m o (ds.map f) (rs.map g):=by
 induction h with
 | nil=>exact .nil
 | cons a _ ih=>exact .cons (k _ _ a) ih
theorem Like.put {m:Menu} {o:Offs} {ds:List (Int × Nat × Dish)} {rs:List (Int × RowT)} (h:Like m o ds rs) {n:Int} {p:Nat} {d:Dish} {r:RowT} (k:likeR m o (n,p,d) (n,r)) (hn:has ds n=true):Like m o (G.put ds n (p,d)) (G.put rs n r):=by
 have hr:has rs n=true:=by
   rw[mem_keys,← h.tr.2,← mem_keys]
   exact hn
 unfold G.put
 rw[if_pos hn,if_pos hr]
 refine h.map fun d' r' a=>?_
 have e:d'.1=r'.1:=a.1
 by_cases z:d'.1=n
 · rw[if_pos z,if_pos (e ▸ z)]
   exact⟨e,k.2⟩
 · rw[if_neg z,if_neg (e ▸ z)]
   exact a
section
variable {m:Menu} {o:Offs} {w:Wk} {s:LW}
/-- only the dishes change -/
theorem Eqv.dish (h:Eqv m o w s) (i:Dn) (w':Wk) (h1:Like m o w'.dishes (rowsStep (rowsT s.is) i)) (h2:∀ x,moveI i x=0) (h3:∀ x T,whStep x T i=T) (h4:isSit i.dd=false) (h5:∀ r∈rowsStep (rowsT s.is) i,r.2.seats.Nodup) (h6:(w'.dishes.map (·.1)).Nodup) (e1:w'.menu=w.menu) (e2:w'.offs=w.offs) (e3:w'.tables=w.tables) (e4:w'.entries=w.entries) (e5:w'.evens=w.evens) (e6:w'.reasons=w.reasons):Eqv m o w' ⟨s.is++[i],s.idl,s.ev⟩:=by
 refine⟨e1.trans h.me,e2.trans h.of,fun x=>?_,?_,fun x=>?_,e5.trans h.ev,e6.trans h.id,?_,h6,fun x=>?_,?_⟩
 · rw[where_app,h3,← h.tb]; unfold tabT; rw[e3]
 · rw[rows_app]; exact h1
 · rw[moved_app,h2,Int.add_zero,← h.mv]; unfold entSum; rw[e4]
 · rw[rows_app]; exact h5
 · rw[sits_app,h4,e3,← h.ky]
   simp
 · rw[e3]; exact h.kn
/-- a row put in place of another -/
theorem Eqv.put1 (h : Eqv m o w s) {n : Int} {p : Nat} {d : Dish} {r : RowT} (a : look w.dishes n = some (p, d)) (b : look (rowsT s.is) n = some r) (d' : Dish) (r' : RowT) (k : likeR m o (n, p, d') (n, r')) (hs : r'.seats = r.seats) :
   Like m o (G.put w.dishes n (p,d')) (G.put (rowsT s.is) n r')∧(∀ x∈G.put (rowsT s.is) n r',x.2.seats.Nodup)∧((G.put w.dishes n (p,d')).map (·.1)).Nodup:=by
 refine⟨h.di.put k (has_of a),fun x hx=>?_,put_nodup h.dn _ _⟩
 rcases W9.mem_put hx with hx | rfl
 · exact h.se x hx
 · show r'.seats.Nodup
   rw[hs]
   exact h.se _ (look_mem b)
theorem Eqv.turn (h:Eqv m o w s) (i:Dn) (n:Int) (t:Str) (nm:Nm) (hr:rowsStep (rowsT s.is) i=match look (rowsT s.is) n with | some r=>G.put (rowsT s.is) n { r with state:=t } | none=>rowsT s.is) (h2:∀ x,moveI i x=0) (h3:∀ x T,whStep x T i=T) (h4:isSit i.dd=false):Eqv m o (turnT w n t nm) ⟨s.is++[i],s.idl,s.ev⟩:=by
 rcases h.di.look n with⟨a,b⟩ | ⟨p,d,r,a,b,c⟩
 · rw[b] at hr
   have ht:turnT w n t nm=w:=by unfold turnT; rw[a]
   rw[ht]
   exact h.dish i w (by rw[hr]; exact h.di) h2 h3 h4 (by rw[hr]; exact h.se) h.dn rfl rfl rfl rfl rfl rfl
 · rw[b] at hr
   have ht:turnT w n t nm=putDish w n p (turnD d t nm):=by unfold turnT; rw[a]
   rw[ht]
   obtain⟨q1,q2,q3⟩:=h.put1 a b (turnD d t nm) { r with state:=t } ⟨rfl,c.2.1,c.2.2.1,c.2.2.2.1,rfl,c.2.2.2.2.2⟩ rfl
   exact h.dish i _ (by rw[hr]; exact q1) h2 h3 h4 (by rw[hr]; exact q2) q3 rfl rfl rfl rfl rfl rfl
end
end W9
namespace W9
open PySem VL G Kd
/-- what a deed of the book may be,for the two walks to be the same -/
structure VdQ (dd:Dd):Prop where
 vd:Vd dd
 jo:∀ t ot,dd = .join t ot→ot≠Str.ofString ""
 as:∀ n it c ss,dd = .ask n it c ss→ss.Nodup
end W9
namespace G
open PySem VL
end G
namespace W26
open PySem VL G Kd W9
def fdC (ns:List Int) (a b c:Int):C:=.dct [(.inr (Str.ofString "cells"),.lst (ns.map D.int)),(.inr (Str.ofString "at"),.int a),(.inr (Str.ofString "left"),.int b),(.inr (Str.ofString "turn"),.int c)]
end W26
namespace W26
open PySem VL G Kd W9
structure Fw (i:Nat) (ns:List Int) (n:Nat) (st:AS):Prop where
 h:∃ a b c,st[i]? = some (fdC ns a b c)∧0≤a∧0≤c∧c≤n
 nl:ns.length≤1000000
section
variable {i:Nat} {ns:List Int} {n:Nat} {st:AS}
theorem Fw.mono {m:Nat} (h:Fw i ns n st) (hm:n≤m):Fw i ns m st:=by
 obtain⟨⟨a,b,c,h1,h2,h3,h4⟩,k⟩:=h
 exact⟨⟨a,b,c,h1,h2,h3,by omega⟩,k⟩
theorem Fw.lt (h:Fw i ns n st):i<st.length:=by
 obtain⟨⟨a,b,c,h1,_⟩,_⟩:=h
 exact (List.getElem?_eq_some_iff.mp h1).1
theorem Fw.to {st':AS} (h:Fw i ns n st) (e:st'[i]? = st[i]?):Fw i ns n st':=by
 obtain⟨⟨a,b,c,h1,h2,h3,h4⟩,k⟩:=h
 exact⟨⟨a,b,c,by rw[e]; exact h1,h2,h3,h4⟩,k⟩
theorem Fw.push (h:Fw i ns n st) (X:List C):Fw i ns n (st++X):=h.to (List.getElem?_append_left h.lt)
theorem Fw.put {j:Nat} (h:Fw i ns n st) (c:C) (hj:j≠i):Fw i ns n (st.set j c):=h.to (List.getElem?_set_ne hj)
end
/-- a step that changes the feed alone -/
structure Dw (i:Nat) (ns:List Int) (n:Nat) (st st':AS):Prop where
 fd:Fw i ns n st'
 len:st'.length=st.length
 at_:∀ j,j≠i→st'[j]? = st[j]?
theorem Dw.refl {i:Nat} {ns:List Int} {n:Nat} {st:AS} (h:Fw i ns n st):Dw i ns n st st:=⟨h,rfl,fun _ _=>rfl⟩
theorem Dw.trans {i:Nat} {ns:List Int} {n m:Nat} {a b c:AS} (h:Dw i ns n a b) (k:Dw i ns m b c):Dw i ns m a c:=⟨k.fd,k.len.trans h.len,fun j hj=>(k.at_ j hj).trans (h.at_ j hj)⟩
end W26
namespace WG
open PySem VL G Kd W9 W26
end WG
namespace Kd
open PySem PySem.Spec PyProof.Rows L2 TB VL G K02
def mkS (cs:List Nat):Str:=⟨cs.toArray⟩
theorem mkS_len (cs:List Nat):(mkS cs).length=cs.length:=by
 show cs.toArray.size=_
 simp
theorem mkS_cps (cs:List Nat):(mkS cs).cps.toList=cs:=by
 show cs.toArray.toList=_
 simp
theorem mkS_self (x:Str):mkS x.cps.toList=x:=by
 unfold mkS
 cases x
 simp
theorem word_mk {x:Str} (h:wordS x=true):∃ cs,x=mkS cs∧Wd cs:=by
 unfold wordS at h
 simp only[Bool.and_eq_true,decide_eq_true_eq,List.all_eq_true] at h
 obtain⟨h1,h2,h3⟩:=h
 have hl:x.cps.toList.length=x.length:=by
   rw[Array.length_toList]
   rfl
 refine⟨x.cps.toList,(mkS_self x).symm,by omega,by omega,fun c hc=>?_⟩
 have:=h3 c hc
 simp only[letter,Bool.and_eq_true,decide_eq_true_eq] at this
 exact this
end Kd
namespace Kd
open PySem PySem.Spec PyProof.Rows L2 TB VL G K02
/-- a thing that tells a list of texts: a value,or a cell beside the feed -/
def Wl (i:Nat) (st:AS) (d:D) (xs:List Str):Prop:=d = .lst (xs.map D.str) ∨ ∃ j,d = .ref j∧j≠i∧st[j]? = some (.lst (xs.map D.str))
theorem Wl.seq {i:Nat} {st:AS} {d:D} {xs:List Str} (h:Wl i st d xs):seqOf st d=some (xs.map D.str):=by
 rcases h with rfl | ⟨j,rfl,h2,h3⟩
 · rfl
 · simp[h3]
theorem Wl.len {i:Nat} {st:AS} {d:D} {xs:List Str} (h:Wl i st d xs) (hl:xs.length≤1000):lenD d st = .ok (.int xs.length) st:=by
 have hs:=h.seq
 unfold lenD
 rw[hs]
 have:xs.length≤sizeLine:=by rw[sizeLine_eq]; omega
 simp[this]
theorem Wl.nil {i:Nat} {st:AS} {d:D} {xs:List Str} (h:Wl i st d xs) (hl:xs.length≤1000) (hw:∀ x∈xs,wordS x=true):eqD false d (.lst []) st = .ok (.bl xs.isEmpty) st:=by
 have hx:∀ x∈xs,asc x∧x.length≤20+0:=fun x hx=>by
   obtain⟨cs,rfl,w⟩:=word_mk (hw x hx)
   have:=w.n1
   refine⟨fun c hc=>?_,by rw[mkS_len]; omega⟩
   rw[mkS_cps] at hc
   have:=(w.lt c hc).2
   omega
 have f1:=fit_strs xs (by omega) (by omega) hx
 have ev:=eqv_lst_nil2 (xs.map D.str)
 have hv:valD st d = .lst (xs.map D.str):=by
   rcases h with rfl | ⟨j,rfl,h2,h3⟩
   · rfl
   · simp[h3]
 have sc:scalD d=false:=by
   rcases h with rfl | ⟨j,rfl,h2,h3⟩ <;> rfl
 have e2:(List.map D.str xs).isEmpty=xs.isEmpty:=by cases xs <;> rfl
 unfold eqD
 rw[sc,hv]
 simp[f1,fit_nil,ev,e2]
end Kd
namespace W26
open PySem VL G Kd W9
def abcS:Str:=Str.ofString "abcdefghijklmnopqrstuvwxyz"
def chS (c:Nat):Str:=⟨#[c]⟩
theorem fnd:∀ c:Fin 26,Txt.find abcS (chS (97+c.val))=((c.val:Nat):Int):=by decide +kernel
end W26
namespace W26
open PySem VL G Kd W9
end W26
namespace W26
open PySem VL G Kd W9
end W26
namespace W26
open PySem VL G Kd W9
/-- a word of small letters,at most eight -/
def wdOk (w:Str):Bool:=w.cps.toList.all (fun c=>decide (97≤c∧c<123))&&decide (0<w.length∧w.length≤8)
theorem wdOk_ws {w:Str} (h:wdOk w=true):Ws w:=by
 obtain⟨h1,h2⟩:=Bool.and_eq_true_iff.mp h
 have h3:=of_decide_eq_true h2
 refine⟨fun c hc=>?_,by omega⟩
 have:=of_decide_eq_true (List.all_eq_true.mp h1 c (by simpa using hc))
 omega
theorem wdOk_ne {w:Str} (h:wdOk w=true):w≠Str.ofString "" := by
 rintro rfl
 exact absurd h (by decide +kernel)
end W26
namespace W26
open PySem VL G Kd W9
end W26
namespace W26
open PySem VL G Kd W9
end W26
namespace W26
open PySem VL G Kd W9
end W26
namespace W26
open PySem VL G Kd W9
end W26
namespace W26
open PySem VL G Kd W9
end W26
namespace W26
open PySem VL G Kd W9
theorem pures_mapF {α:Type} (g:α→D) (h:∀ x,(g x).pure=true):∀ l:List α,D.pures (l.map g)=true
 | []=>rfl
 | x::l=>by rw[List.map_cons,D.pures,h x,pures_mapF g h l]; rfl
end W26
namespace WG
open PySem VL G Kd W9 W26
section
variable {α:Type} {dr:List D→AS→Out D} {i L n:Nat} {ns:List Int} {st0 st X S:AS} {m:Int} {Q:D→AS→Prop} {E:XQ}
/-- the feed goes on from st0 to st,all else as it was; L things are behind it -/
structure Fg (i:Nat) (ns:List Int) (n L:Nat) (st0 st:AS):Prop extends Dw i ns n st0 st where
 ln:st.length=L
theorem Fg.lt (f:Fg i ns n L st0 st):i<L:=by rw[← f.ln]; exact f.fd.lt
theorem Fg.start (f:Fw i ns n st):Fg i ns n st.length st st:=⟨Dw.refl f,rfl⟩
theorem Fg.mono {n':Nat} (f:Fg i ns n L st0 st) (h:n≤n'):Fg i ns n' L st0 st:=⟨⟨f.fd.mono h,f.len,f.at_⟩,f.ln⟩
theorem Fg.next (f:Fg i ns n L st0 st) {m:Nat} {st1:AS} (d:Dw i ns m st st1):Fg i ns m L st0 st1:=⟨f.toDw.trans d,by rw[d.len]; exact f.ln⟩
theorem wp_ix {ds:List D} {r:Int} (h0:0≤r) (h1:r<ds.length) (h:∀ d∈ds,Q d st):(ixD (.lst ds) (.int r) st).wp Q E:=by
 have hl:r.toNat<ds.length:=by omega
 have e:L2.atI ds r=some ds[r.toNat]:=by rw[atI_pos h0 h1]; exact List.getElem?_eq_getElem hl
 have:ixD (.lst ds) (.int r) st = .ok ds[r.toNat] st:=by simp[e]
 exact wp_of this (h _ (List.getElem_mem hl))
theorem wp_ixIL (vs:List Int) (k:Nat) {ds:List D} (e:ds=vs.map D.int) (hk:ds.length=k) {r:Int} (h0:0≤r) (h1:r<k) (h:∀ w∈vs,Q (.int w) st):(ixD (.lst ds) (.int r) st).wp Q E:=by
 subst e
 exact wp_ix h0 (by omega) fun d hd=>by
   obtain⟨w,hw,rfl⟩:=List.mem_map.mp hd
   exact h w hw
theorem H9 {x0:D} {l:List D}:ixD (.tup (x0::l)) (.int 0) st = .ok x0 st:=by simp
theorem I6 {x0 x1:D} {l:List D}:ixD (.tup (x0::x1::l)) (.int 1) st = .ok x1 st:=by simp
theorem I7 {x0 x1 x2:D} {l:List D}:ixD (.tup (x0::x1::x2::l)) (.int 2) st = .ok x2 st:=by simp
theorem I8 {x0 x1 x2 x3:D} {l:List D}:ixD (.tup (x0::x1::x2::x3::l)) (.int 3) st = .ok x3 st:=by simp
theorem I9 {x0 x1 x2 x3 x4:D} {l:List D}:ixD (.tup (x0::x1::x2::x3::x4::l)) (.int 4) st = .ok x4 st:=by simp
theorem J0 {x0:D} {l:List D}:ixD (.ctp (x0::l)) (.int 0) st = .ok x0 st:=by simp
theorem J3 {x0 x1:D} {l:List D}:ixD (.ctp (x0::x1::l)) (.int 1) st = .ok x1 st:=by simp
theorem J4 {x0 x1 x2:D} {l:List D}:ixD (.ctp (x0::x1::x2::l)) (.int 2) st = .ok x2 st:=by simp
theorem J5 {x0 x1 x2 x3:D} {l:List D}:ixD (.ctp (x0::x1::x2::x3::l)) (.int 3) st = .ok x3 st:=by simp
theorem J6 {x0 x1 x2 x3 x4:D} {l:List D}:ixD (.ctp (x0::x1::x2::x3::x4::l)) (.int 4) st = .ok x4 st:=by simp
theorem J7 {x0:D} {l:List D}:ixD (.lst (x0::l)) (.int 0) st = .ok x0 st:=by simp
theorem J8 {x0 x1:D} {l:List D}:ixD (.lst (x0::x1::l)) (.int 1) st = .ok x1 st:=by simp
theorem J9 {x0 x1 x2:D} {l:List D}:ixD (.lst (x0::x1::x2::l)) (.int 2) st = .ok x2 st:=by simp
theorem K0 {x0 x1 x2 x3:D} {l:List D}:ixD (.lst (x0::x1::x2::x3::l)) (.int 3) st = .ok x3 st:=by simp
theorem K3 {x0 x1 x2 x3 x4:D} {l:List D}:ixD (.lst (x0::x1::x2::x3::x4::l)) (.int 4) st = .ok x4 st:=by simp
theorem G5 {x m:Int} (h0:0<m) (h1:m<4611686018427387904):L2.CDivW x m=True:=eq_true ⟨h0,log_lt h0 h1⟩
end
end WG
namespace WG
open PySem VL G Kd W9 W26
def tabW:List Str:=["t","tt","a"].map Str.ofString
/-- some seats -/
structure Ss (who ss:List Str):Prop where
 ne:ss≠[]
 nd:ss.Nodup
 ln:ss.length≤30
 mem:∀ s∈ss,s∈who
 up:ss.Pairwise fun a b=>leStr a b=true
/-- a deed that a law draws -/
def DdOk (m:Menu) (who:List Str):Dd→Prop
 | .sit s t=>s∈who∧t∈tabW
 | .move s t=>s∈who∧t∈tabW
 | .join t o=>t∈tabW∧o∈tabW
 | .go s=>s∈who
 | .ask n i c ss=>(0≤n∧n≤999)∧wdOk i=true∧(0≤c∧c≤9)∧Ss who ss
 | .change n i=>(0≤n∧n≤999)∧wdOk i=true
 | .fire t c=>t∈tabW∧0≤c∧c≤9
 | .rush t c=>t∈tabW∧0≤c∧c≤9
 | .serve n=>0≤n∧n≤999
 | .back n=>0≤n∧n≤999
 | .strike n=>0≤n∧n≤999
 | .pay s p=>s∈who∧1≤p∧p≤3000
 | .take s o p=>s∈who∧o∈who∧1≤p∧p≤3000
 | .even ss=>Ss who ss
end WG
namespace WG
open PySem VL G Kd W9 W26
/-- pages that a law draws -/
structure Bk (m:Menu) (who:List Str) (t:Int) (pgs:List Pg):Prop where
 t0:0≤t
 t4:t≤4*pgs.length
 pg:∀ p∈pgs,0≤p.1.1∧p.1.1≤t∧0≤p.1.2∧p.1.2<pgs.length∧DdOk m who p.2
 up:pgs.Pairwise fun p q=>p.1.1≤q.1.1∧p.1.2<q.1.2
theorem Bk.nil (m:Menu) (who:List Str):Bk m who 0 []:=⟨by simp,by simp,by simp,by simp⟩
theorem Bk.dd {m:Menu} {who:List Str} {t:Int} {pgs:List Pg} (h:Bk m who t pgs):∀ p∈pgs,DdOk m who p.2:=fun p hp=>(h.pg p hp).2.2.2.2
end WG
namespace WG
open PySem VL G Kd W9 W26
end WG
namespace WG
open PySem VL G Kd W9 W26
structure PrOk (ps:List (Int × Int)):Prop where
 up:ps.Pairwise fun p q=>p.1<q.1
 bd:∀ p∈ps,(0≤p.1∧p.1≤100)∧0≤p.2∧p.2≤100000
 hd:ps≠[] → ∃ p,p∈ps∧p.1=0
section
variable {dr:List D→AS→Out D} {i n L:Nat} {ns:List Int} {S st:AS} {o:Offs} {a b:Int} {who words:List Str}
theorem PrOk.nil:PrOk []:=⟨by simp,by simp,by simp⟩
end
end WG
namespace W9
open PySem VL G Kd
/-- a page that both walks take -/
structure VdA (pg:Pg):Prop where
 p:VdP pg
 q:VdQ pg.2
end W9
set_option exponentiation.threshold 2000
namespace Kd
open PySem PySem.Spec PyProof.Rows L2 TB VL
end Kd
set_option exponentiation.threshold 2000
namespace WG
open PySem VL G Kd W9 W26 TB
/-- of this size,this depth -/
structure Rz (n k:Nat) (d:D):Prop where
 p:d.pure=true
 f:Fit n k 0 d.py
structure Rzs (n k:Nat) (ds:List D):Prop where
 p:D.pures ds=true
 sz:szs (D.pys ds)≤n
 dp:PyData.depthAll (D.pys ds)≤k
 at_:AtsL 0 (D.pys ds)
section
variable {n m k c N:Nat} {d:D} {ds es:List D} {st:AS}
theorem Rz.mono {n' k':Nat} (h:Rz n k d) (a:n≤n') (b:k≤k'):Rz n' k' d:=⟨h.p,h.f.mono a b (Nat.le_refl 0)⟩
theorem Rzs.mono {n' k':Nat} (h:Rzs n k ds) (a:n≤n') (b:k≤k'):Rzs n' k' ds:=⟨h.p,Nat.le_trans h.sz a,Nat.le_trans h.dp b,h.at_⟩
theorem rz_int {i:Int} (h:i.natAbs<2^700):Rz 1 k (.int i):=⟨by simp[D.pure],⟨by simp[D.py,sz],by simp[D.py,PyData.depth],by simpa [D.py,Ats] using h⟩⟩
theorem rz_i {i:Int} (h0 : -1000000000000≤i) (h1:i≤1000000000000):Rz 1 k (.int i):=rz_int (Nat.lt_of_lt_of_le (show i.natAbs<2^60 by omega) (Nat.pow_le_pow_right (by decide) (by decide)))
theorem rz_str {x:Str} (h:asc x∧x.length≤20):Rz 1 k (.str x):=⟨by simp[D.pure],⟨by simp[D.py,sz],by simp[D.py,PyData.depth],by simpa [D.py,Ats] using h⟩⟩
theorem rz_tup (h:Rzs n k ds):Rz (n+1) (k+1) (.tup ds):=⟨by rw[D.pure]; exact h.p,⟨by rw[D.py]; simp only[sz]; have:=h.sz; omega,by rw[D.py]; simp only[PyData.depth]; have:=h.dp; omega,by rw[D.py]; simp only[Ats]; exact h.at_⟩⟩
theorem rz_ctp (h:Rzs n k ds):Rz (n+1) (k+1) (.ctp ds):=⟨by rw[D.pure]; exact h.p,⟨by rw[D.py]; simp only[sz]; have:=h.sz; omega,by rw[D.py]; simp only[PyData.depth]; have:=h.dp; omega,by rw[D.py]; simp only[Ats]; exact h.at_⟩⟩
theorem rzs_nil:Rzs 0 k []:=⟨by simp[D.pures],by simp[D.pys,szs],by simp[D.pys,PyData.depthAll],by simp[D.pys,AtsL]⟩
theorem rzs_cons (h:Rz n k d) (g:Rzs m k ds):Rzs (n+m) k (d::ds):=⟨by rw[D.pures,h.p,g.p]; rfl,by rw[D.pys]; simp only[szs]; have:=h.f.sz; have:=g.sz; omega,by rw[D.pys]; simp only[PyData.depthAll]; have:=h.f.dp; have:=g.dp; omega,by rw[D.pys]; simp only[AtsL]; exact⟨h.f.at_,g.at_⟩⟩
theorem rzs_map {α:Type} (e:α→D):∀ {l:List α},(∀ x∈l,Rz c k (e x))→Rzs (c*l.length) k (l.map e)
 | [],_=>rzs_nil
 | x::l,h=>(rzs_cons (h x List.mem_cons_self) (rzs_map e fun y hy=>h y (List.mem_cons_of_mem _ hy))).mono (by rw[List.length_cons,Nat.mul_succ]; omega) (Nat.le_refl _)
theorem rzs_mapN {α:Type} (e:α→D) {l:List α} (h:∀ x∈l,Rz c k (e x)) (hl:l.length≤N):Rzs (c*N) k (l.map e):=(rzs_map e h).mono (Nat.mul_le_mul_left c hl) (Nat.le_refl _)
end
theorem rz_wd {k:Nat} {w:Str} (h:wdOk w=true):Rz 1 k (.str w):=rz_str (wdOk_ws h)
theorem rz_tab {k:Nat} {w:Str} (h:w∈tabW):Rz 1 k (.str w):=rz_wd (by
 simp only[tabW,List.map_cons,List.map_nil,List.mem_cons,List.not_mem_nil,or_false] at h
 rcases h with rfl | rfl | rfl <;> decide +kernel)
theorem rz_nm {n:Nm} (h1:0≤n.1∧n.1≤1000000) (h2:0≤n.2∧n.2≤1000000):Rz 3 1 (eNm n):=rz_tup (rzs_cons (rz_i (by omega) (by omega)) (rzs_cons (rz_i (by omega) (by omega)) rzs_nil))
theorem rz_ss {who ss:List Str} (hw:∀ w∈who,wdOk w=true) (h:Ss who ss):Rz 31 1 (eSe ss):=rz_ctp (rzs_mapN (N:=30) D.str (fun w hx=>rz_wd (k:=0) (hw w (h.mem w hx))) h.ln)
theorem lit_wd (s:String) (h:(wdOk (Str.ofString s))=true:=by decide +kernel) {k:Nat}:Rz 1 k (.str (Str.ofString s)):=rz_wd h
theorem rz_dd {m:Menu} {who:List Str} (hw:∀ w∈who,wdOk w=true) {dd:Dd} (h:DdOk m who dd):Rz 40 2 (eDd dd):=by
 cases dd <;> simp only[DdOk] at h <;> unfold eDd
 case sit s t=>exact (rz_tup (rzs_cons (k:=1) (lit_wd "sit") (rzs_cons (rz_wd (hw _ h.1)) (rzs_cons (rz_tab h.2) rzs_nil)))).mono (by omega) (by omega)
 case move s t=>exact (rz_tup (rzs_cons (k:=1) (lit_wd "move") (rzs_cons (rz_wd (hw _ h.1)) (rzs_cons (rz_tab h.2) rzs_nil)))).mono (by omega) (by omega)
 case join s t=>exact (rz_tup (rzs_cons (k:=1) (lit_wd "join") (rzs_cons (rz_tab h.1) (rzs_cons (rz_tab h.2) rzs_nil)))).mono (by omega) (by omega)
 case go s=>exact (rz_tup (rzs_cons (k:=1) (lit_wd "go") (rzs_cons (rz_wd (hw _ h)) rzs_nil))).mono (by omega) (by omega)
 case ask n i c ss=>exact (rz_tup (rzs_cons (k:=1) (lit_wd "ask") (rzs_cons (rz_i (by omega) (by omega)) (rzs_cons (rz_wd h.2.1) (rzs_cons (rz_i (by omega) (by omega)) (rzs_cons (rz_ss hw h.2.2.2) rzs_nil)))))).mono (by omega) (by omega)
 case change n i=>exact (rz_tup (rzs_cons (k:=1) (lit_wd "change") (rzs_cons (rz_i (by omega) (by omega)) (rzs_cons (rz_wd h.2) rzs_nil)))).mono (by omega) (by omega)
 case fire t c=>exact (rz_tup (rzs_cons (k:=1) (lit_wd "fire") (rzs_cons (rz_tab h.1) (rzs_cons (rz_i (by omega) (by omega)) rzs_nil)))).mono (by omega) (by omega)
 case rush t c=>exact (rz_tup (rzs_cons (k:=1) (lit_wd "rush") (rzs_cons (rz_tab h.1) (rzs_cons (rz_i (by omega) (by omega)) rzs_nil)))).mono (by omega) (by omega)
 case serve n=>exact (rz_tup (rzs_cons (k:=1) (lit_wd "serve") (rzs_cons (rz_i (by omega) (by omega)) rzs_nil))).mono (by omega) (by omega)
 case back n=>exact (rz_tup (rzs_cons (k:=1) (lit_wd "back") (rzs_cons (rz_i (by omega) (by omega)) rzs_nil))).mono (by omega) (by omega)
 case strike n=>exact (rz_tup (rzs_cons (k:=1) (lit_wd "strike") (rzs_cons (rz_i (by omega) (by omega)) rzs_nil))).mono (by omega) (by omega)
 case pay s p=>exact (rz_tup (rzs_cons (k:=1) (lit_wd "pay") (rzs_cons (rz_wd (hw _ h.1)) (rzs_cons (rz_i (by omega) (by omega)) rzs_nil)))).mono (by omega) (by omega)
 case take s o p=>exact (rz_tup (rzs_cons (k:=1) (lit_wd "take") (rzs_cons (rz_wd (hw _ h.1)) (rzs_cons (rz_wd (hw _ h.2.1)) (rzs_cons (rz_i (by omega) (by omega)) rzs_nil))))).mono (by omega) (by omega)
 case even ss=>exact (rz_tup (rzs_cons (k:=1) (lit_wd "even") (rzs_cons (rz_ss hw h) rzs_nil))).mono (by omega) (by omega)
/-- a book as drawn: what the walks want of it -/
structure BkOk (m:Menu) (pgs:List Pg):Prop where
 ln:pgs.length≤49
 va:∀ p∈pgs,VdA p
 rz:∀ p∈pgs,Rz 44 3 (ePg p)
 nm:∀ p∈pgs,(0≤p.1.1∧p.1.1≤1000)∧0≤p.1.2∧p.1.2≤1000
 up:pgs.Pairwise fun p q=>p.1.1≤q.1.1∧p.1.2<q.1.2
theorem BkOk.nil (m:Menu):BkOk m []:=⟨by simp,by simp,by simp,by simp,by simp⟩
theorem tab_ws {w:Str} (h:w∈tabW):wdOk w=true:=by
 simp only[tabW,List.map_cons,List.map_nil,List.mem_cons,List.not_mem_nil,or_false] at h
 rcases h with rfl | rfl | rfl <;> decide +kernel
theorem dd_vda {m:Menu} {who:List Str} (hw:∀ w∈who,wdOk w=true) {nm:Nm} {dd:Dd} (h:DdOk m who dd) (h0:0≤nm.1):VdA (nm,dd):=by
 refine⟨⟨h0,?_,?_,?_⟩,⟨?_,?_,?_⟩⟩
 · cases dd <;> simp only[DdOk] at h <;> simp only[WsDd]
   case ask n i c ss=>have:=h.2.2.2.ln; omega
   case take s o p=>exact⟨wdOk_ws (hw _ h.1),wdOk_ws (hw _ h.2.1)⟩
   case even ss=>exact⟨by have:=h.ln; omega,fun s hs=>wdOk_ws (hw _ (h.mem s hs))⟩
 · cases dd <;> simp only[DdOk] at h <;> simp only[WsD]
   case sit s t=>exact wdOk_ws (tab_ws h.2)
   case move s t=>exact wdOk_ws (tab_ws h.2)
   case join s t=>exact wdOk_ws (tab_ws h.1)
 · cases dd <;> simp only[DdOk] at h <;> simp only[isSit,seatOf] <;> try simp
   case sit s t=>exact wdOk_ws (hw _ h.1)
 · cases dd <;> simp only[DdOk] at h <;> simp only[Vd]
   case ask n i c ss=>exact⟨h.2.2.2.ne,by have:=h.2.2.2.ln; omega⟩
   case even ss=>exact⟨List.length_pos_iff.mpr h.ne,by have:=h.ln; omega⟩
 · rintro t ot rfl
   exact wdOk_ne (tab_ws h.2)
 · rintro n it c ss rfl
   exact h.2.2.2.nd
theorem Bk.ok {m:Menu} {who:List Str} {t:Int} {pgs:List Pg} (hw:∀ w∈who,wdOk w=true) (h:Bk m who t pgs) (hl:pgs.length≤49):BkOk m pgs:=by
 have:=h.t4
 refine⟨hl,fun p hp=>?_,fun p hp=>?_,fun p hp=>?_,h.up⟩
 · obtain⟨a,b,c,d,e⟩:=h.pg p hp
   exact dd_vda hw e a
 · obtain⟨a,b,c,d,e⟩:=h.pg p hp
   exact rz_tup (rzs_cons ((rz_nm (by omega) (by omega)).mono (Nat.le_refl 3) (by omega)) (rzs_cons (rz_dd hw e) rzs_nil))
 · obtain⟨a,b,c,d,e⟩:=h.pg p hp
   omega
end WG
namespace WG
open PySem VL G Kd W9 W26 TB
end WG
namespace VL
open PySem PySem.Spec PyProof.Rows L2 TB
end VL
namespace VL
open PySem PySem.Spec PyProof.Rows L2 TB
end VL
namespace VL
open PySem PySem.Spec PyProof.Rows L2 TB
/-- the call of what came -/
@[simp] def vAct (g:AS→Out D) (_:En) (st:AS):Out D:=g st
/-- f(lambda: ..) -/
@[simp] def vLam (F:(AS→Out D)→AS→Out D) (fb:En→AS→Out D) (env:En) (st:AS):Out D:=(F (fun s=>fb env s) st).ne
section
variable {K:PySem.W.Frag} {mg:MG} {β:Bt} {st:AS} {H H1:Hp}
theorem Sim.tabs (S:Sim K mg β st H):LamX.Tabs (tabL K) H:=fun p hp=>by
 obtain⟨_,ps,e,t,k⟩:=S.tab p hp
 refine⟨ps,e,t,fun pos cv hc=>?_⟩
 obtain⟨c,e1,e2,_⟩:=k pos cv hc
 exact⟨c,e1,e2⟩
theorem Sim.noCode (S:Sim K mg β st H) (x:LamX.ExtN H H1) {c:Addr} {q:Str} (h:H1 c=some (LamX.CodeO c q)):β.out c:=by
 refine⟨fun hm=>?_,fun hm=>?_⟩
 · obtain⟨i,hi,e⟩:=List.getElem_of_mem hm
   have hs:i<st.length:=by rw[← S.len]; exact hi
   obtain⟨o,h1,h2,h3⟩:=(S.cell i c st[i] (by rw[List.getElem?_eq_getElem hi,e]) (List.getElem?_eq_getElem hs)).nc
   have h4:=x _ _ h1 h2
   rw[h] at h4
   exact h3 c q (Option.some.inj h4).symm
 · obtain⟨_,o,h1,_,h2,h3⟩:=S.hid c hm
   have h4:=x _ _ h1 h2
   rw[h] at h4
   exact h3 c q (Option.some.inj h4).symm
theorem ext_grown (x:LamX.ExtN H H1):Ext β H β H1:=⟨⟨[],by simp⟩,rfl,fun a o e n t=>⟨x a o e t,n⟩,fun a z u e=>x a _ e fun _ q=>nomatch q⟩
/-- tables have grown -/
theorem Sim.grown (S:Sim K mg β st H) (x:LamX.ExtN H H1) (T:LamX.Tabs (tabL K) H1):Sim K mg β st H1:=by
 refine⟨S.len,S.nd,fun a ha=>?_,fun i a c h1 h2=>?_,fun p hp=>?_⟩
 · obtain⟨n,o,e,t⟩:=S.hid a ha
   exact⟨n,o,x a o e t.2.1,t⟩
 · have q:=S.cell i a c h1 h2
   obtain⟨o,e,nt,_⟩:=q.nc
   exact q.ext (ext_grown x) ((x _ _ e nt).trans e.symm)
 · obtain⟨out,_⟩:=S.tab p hp
   obtain⟨ps,e,t,k⟩:=T p hp
   refine⟨out,ps,e,t,fun pos cv hc=>?_⟩
   obtain⟨c,e1,e2⟩:=k pos cv hc
   exact⟨c,e1,e2,S.noCode x e2⟩
end
/-- what is known of the lambda that came: its place,whence all goes on,what it does -/
structure Lz where
 f:Addr
 β:Bt
 H:Hp
 g:AS→Out D
def LzOk (z:Lz) (β:Bt) (σ:L2.St) (H:Hp):Prop:=σ[0]? = some (some (.ref z.f))∧Ext z.β z.H β H
theorem LzOk.ext {z:Lz} {β β':Bt} {σ:L2.St} {H H':Hp} (x:Ext β H β' H') (h:LzOk z β σ H):LzOk z β' σ H':=⟨h.1,h.2.trans x⟩
end VL
namespace VL
open PySem PySem.Spec PyProof.Rows L2 TB
end VL
namespace VL
open PySem PySem.Spec PyProof.Rows L2 TB
end VL
namespace VL
open PySem PySem.Spec PyProof.Rows L2 TB
/-- f(e) -/
@[simp] def vErr (F:Str→List (Str × D)→AS→Out D) (c:Str) (fs:List (Str × D)) (_:En) (st:AS):Out D:=(F c fs st).ne
end VL
namespace VL
open PySem PySem.Spec PyProof.Rows L2 TB
end VL
namespace VL
open PySem PySem.Spec PyProof.Rows L2 TB
/-- the first place of a thing,in a list of any data -/
@[simp] def idxGD (x:D) (xs:List D) (st:AS):Out D:=match x with
 | .lst ds=>(match xs with
   | [y]=>if ((D.lst ds).fit&&y.fit)=true then (match ds.findIdx? (fun d=>eqvD d y) with
     | some j=>.ok (.int (j:Nat)) st
     | none=>.bad) else .bad
   | _=>.bad)
 | _=>.bad
section
variable {X:Cx} {E:XK}
theorem pure_val {st:AS} {d:D} (h:d.pure=true):valD st d=d:=by
 cases d <;> first | rfl | (rw[D.pure] at h; cases h)
end
end VL
namespace VL
open PySem PySem.Spec PyProof.Rows L2 TB
/-- how often a thing stands in a list of any data -/
@[simp] def cntGD (x:D) (xs:List D) (st:AS):Out D:=match x with
 | .lst ds=>(match xs with
   | [y]=>if ((D.lst ds).fit&&y.fit)=true then .ok (.int (ds.countP (fun d=>eqvD d y):Nat)) st else .bad
   | _=>.bad)
 | _=>.bad
def rCountDD (K:PySem.W.Frag):V→List V→Hp→VK→Prop:=fun x xs H Q=>∃ (a:Addr) (y:V) (d:PyData) (ds:List PyData),x=V.ref a∧xs=[y]∧Dp K H (V.ref a) (.list ds)∧Dp K H y d ∧
 SeqAt.shaped (.list ds)=true∧SeqAt.shaped d=true∧Q (.int (ds.countP (fun z=>PyData.eqv z d):Nat)) H
theorem countP_of_map {α β:Type} {f:α→β} {p:β→Bool} {l:List α} {m:List β} (h:l.map f=m):l.countP (fun u=>p (f u))=m.countP p:=by
 subst h
 induction l with
 | nil=>rfl
 | cons a l ih=>simp only[List.map_cons,List.countP_cons,ih]
section
variable {X:Cx} {E:XK}
theorem mt_countD (hu:X.A.units+65<cLine):MtR X "list.count" (rCountDD X.K):=by
 intro pins s σ H x xs v us Q I rx rxs h
 obtain⟨a,y,d,ds,rfl,rfl,hl,hy,sl,sd,q⟩:=h
 cases rx
 obtain⟨uy,rfl,ry⟩:=rxs.one
 obtain⟨bs,r1⟩:=Dp.reads I d y uy hy ry
 have hxs:PyData.canLayAll0 ds=true:=SeqAt.canLay_of_shaped sl
 have hroom:X.A.units+1+min (PyData.depthAll ds) d.depth<cLine:=room_in_shaped sd hu
 cases hl with
 | lst hs ha =>
   obtain⟨its,rv,⟨⟨cls,dd,data,sls⟩,n,ho,hc,hdn,hdt⟩,hlen⟩:=I.list hs
   simp only at hc hdt
   subst hc hdt
   obtain⟨as,h4⟩:=Dp.readsAll I ds _ its ha rv
   have hmap:its.map (SeqAt.readOf s.heap)=ds:=SeqAt.readsAll_map ds its as hxs h4
   have ec:its.toArray.toList.countP (fun u=>PyData.eqv (SeqAt.readOf s.heap u) d)=ds.countP (fun z=>PyData.eqv z d):=countP_of_map (f:=SeqAt.readOf s.heap) (p:=fun z=>PyData.eqv z d) hmap
   refine call_meets PySem.F.slot_list_count ⟨_,ho,rfl⟩ PySem.F.entry_list_count (PySem.F.args_list_count_2 _ _)
     (SeqAt.list_countAt a its.toArray n dd sls uy (fun u=>PyData.eqv (SeqAt.readOf s.heap u) d)) ⟨ho,SeqAt.items_eqAt (vs:=its.toArray) (show ReadsAll s.heap its.toArray.toList ds as from h4) r1 hxs (SeqAt.canLay_of_shaped sd) hroom,?_⟩
   rw[ec]
   exact⟨.int (ds.countP (fun z=>PyData.eqv z d):Nat),H,I.tok _,⟨_,rfl⟩,q⟩
theorem pys_count {y:D}:∀ ds:List D,(D.pys ds).countP (fun z=>PyData.eqv z y.py)=ds.countP (fun d=>eqvD d y)
 | []=>by rw[D.pys]; rfl
 | d::ds=>by
   have ih:=pys_count (y:=y) ds
   rw[D.pys,List.countP_cons,List.countP_cons,ih]
   rfl
theorem om_countG (hu:X.A.units+65<cLine):OkM X E "list.count" cntGD:=⟨_,mt_countD hu,fun β H st x xs u us Q S rx rs h=>by
 unfold cntGD at h
 cases x with
 | lst ds =>
   dsimp only at h
   split at h
   · rename_i y
     obtain⟨v,rfl,rv⟩:=one_ok rs
     obtain⟨hf,h⟩:=h.ite
     rw[Bool.and_eq_true] at hf
     have p1:(D.lst ds).pure=true:=by
       have:=hf.1
       unfold D.fit at this
       rw[Bool.and_eq_true] at this
       exact this.1
     have p2:y.pure=true:=by
       have:=hf.2
       unfold D.fit at this
       rw[Bool.and_eq_true] at this
       exact this.1
     obtain⟨d1,s1⟩:=fit_dp S rx (by rw[pure_val p1]; exact hf.1)
     obtain⟨d2,s2⟩:=fit_dp S rv (by rw[pure_val p2]; exact hf.2)
     rw[pure_val p1] at d1 s1
     rw[pure_val p2] at d2 s2
     cases rx with
     | lst ho ha hr =>
       rename_i a us
       have e1:(D.lst ds).py = .list (D.pys ds):=by rw[D.py]
       rw[e1] at d1 s1
       refine⟨a,v,y.py,D.pys ds,rfl,rfl,d1,d2,s1,s2,?_⟩
       rw[pys_count]
       exact h.here S (.int _)
   · exact h.elim
 | _=>exact h.elim⟩
end
end VL
namespace VL
open PySem PySem.Spec PyProof.Rows L2 TB
noncomputable def comp1A (g:D→En→AS→Out En) (t:En→AS→Out Bool) (f:En→AS→Out D) (env:En) (gs:Gd):List D→List D→AS→Out (List D)
 | [],ys,st=>if gs.ok st then .ok ys st else .bad
 | d :: ds, ys, st => if gs.ok st then (g d env st).ne.bind fun env1 st => (t env1 st).ne.bind fun b st =>
     if b=true then (f env1 st).ne.bind fun y st=>comp1A g t f env gs ds (ys++[y]) st else comp1A g t f env gs ds ys st
   else .bad
@[simp] noncomputable def innA (vs1:List Nat) (fi1:En→AS→Out (List D × Gd)) (g1:D→En→AS→Out En) (t1:En→AS→Out Bool) (f:En→AS→Out D) (env:En) (ys:List D) (st:AS):Out (List D):=(fi1 env st).ne.bind fun p st =>
 if p.1.length≤1000 then comp1A g1 t1 f (wipeD env vs1) p.2 p.1 ys st else .bad
noncomputable def comp2A (g:D→En→AS→Out En) (t:En→AS→Out Bool) (inn:En→List D→AS→Out (List D)) (env:En) (gs:Gd):List D→List D→AS→Out (List D)
 | [],ys,st=>if gs.ok st then .ok ys st else .bad
 | d :: ds, ys, st => if gs.ok st then (g d env st).ne.bind fun env1 st => (t env1 st).ne.bind fun b st =>
     if b=true then (inn env1 ys st).bind fun ys st=>comp2A g t inn env gs ds ys st else comp2A g t inn env gs ds ys st
   else .bad
@[simp] noncomputable def vLc2 (c:Bool) (vs vs1:List Nat) (fi:En→AS→Out (List D × Gd)) (g:D→En→AS→Out En) (t:En→AS→Out Bool) (fi1:En→AS→Out (List D × Gd)) (g1:D→En→AS→Out En) (t1:En→AS→Out Bool) (f:En→AS→Out D) (env:En) (st:AS):Out D:=(fi env st).bind fun p st =>
 if p.1.length≤1000 then (comp2A g t (innA vs1 fi1 g1 t1 f) (wipeD env vs) p.2 p.1 [] st).bind fun ys st=>mk c ys st else .bad
section
variable {β1 β2 β3:Bt} {H1 H H3:Hp} {Da:Addr} {acc:List V}
theorem keepA (x : Ext (β1.hide Da) (upd H1 Da (.lst [])) (β2.hide Da) (upd H Da (.lst []))) (nl : Da ∉ (β2.hide Da).l) (hD : H Da = some (.lst acc)) (x3 : Ext (β2.hide Da) H β3 H3) :
   ∃ β3':Bt,β3=β3'.hide Da∧H3 Da=some (.lst acc)∧Ext (β1.hide Da) (upd H1 Da (.lst [])) (β3'.hide Da) (upd H3 Da (.lst [])):=by
 have hh:=x3.hid
 obtain⟨l3,h3⟩:=β3
 change h3=Da::β2.h at hh
 subst hh
 obtain⟨q1,q2⟩:=x3.kept0 Da _ hD nl (fun _ z=>nomatch z)
 refine⟨⟨l3,β2.h⟩,rfl,q1,x.trans ⟨x3.pre,rfl,fun a o ha na nt=>?_,fun a w u e=>?_⟩⟩
 · by_cases z:a=Da
   · subst z
     rw[upd_same] at ha ⊢
     exact⟨ha,q2⟩
   · rw[upd_ne z] at ha ⊢
     exact x3.kept0 a o ha na nt
 · by_cases z:a=Da
   · subst z
     rw[upd_same] at e
     cases e
   · rw[upd_ne z] at e ⊢
     exact x3.frz a w u e
theorem xwA (nD:H1 Da=none) (x:Ext (β1.hide Da) (upd H1 Da (.lst [])) (β2.hide Da) (upd H Da (.lst []))):ExtF β1 H1 (β2.hide Da) H:=by
 obtain⟨gx,eg⟩:=x.pre
 refine⟨⟨⟨gx,eg⟩,fun a o ha na nt=>?_⟩,fun a z u e=>?_⟩
 · have ne:a≠Da:=ne_of_none ha nD
   obtain⟨q1,q2⟩:=x.kept a o ((upd_ne ne).trans ha) ⟨na.1,fun z=>(List.mem_cons.mp z).elim ne na.2⟩ nt
   exact⟨(upd_ne ne).symm.trans q1,q2⟩
 · have ne:a≠Da:=ne_of_none e nD
   exact (upd_ne ne).symm.trans (x.frz a z u ((upd_ne ne).trans e))
theorem xsA (nD:H1 Da=none) (x:Ext (β1.hide Da) (upd H1 Da (.lst [])) (β2.hide Da) (upd H Da (.lst []))):Ext β1 H1 β2 H:=by
 obtain⟨gx,eg⟩:=x.pre
 refine⟨⟨gx,eg⟩,List.cons.inj x.hid |>.2,fun a o ha na nt=>?_,fun a z u e=>?_⟩
 · have ne:a≠Da:=ne_of_none ha nD
   obtain⟨q1,q2⟩:=x.kept0 a o ((upd_ne ne).trans ha) na nt
   exact⟨(upd_ne ne).symm.trans q1,q2⟩
 · have ne:a≠Da:=ne_of_none e nD
   exact (upd_ne ne).symm.trans (x.frz a z u ((upd_ne ne).trans e))
theorem ExtF.put {βb:Bt} {Hb:Hp} {o:HO} (x:ExtF βb Hb β2 H) (hm:Da∈βb.h) (hD:H Da=some (.lst acc)):ExtF βb Hb β2 (upd H Da o):=by
 refine⟨⟨x.pre,fun a q ha na nt=>?_⟩,fun a z u e=>?_⟩
 · have ne:a≠Da:=fun e=>na.2 (by rw[e]; exact hm)
   obtain⟨q1,q2⟩:=x.kept a q ha na nt
   exact⟨(upd_ne ne).trans q1,q2⟩
 · have e2:=x.frz a z u e
   have ne:a≠Da:=fun q=>by rw[q,hD] at e2; cases e2
   exact (upd_ne ne).trans e2
theorem ExtF.trans' {βb β4:Bt} {Hb H4:Hp} (a:ExtF βb Hb β2 H) (b:Ext β2 H β4 H4):ExtF βb Hb β4 H4:=⟨a.toExtW.trans b.weak,fun x z u h=>b.frz x z u (a.frz x z u h)⟩
end
section
variable {X:Cx} {E:XK} {tg it elt tg1 it1:Expr} {ifs ifs1:List Expr} {fi fi1:En→AS→Out (List D × Gd)} {g g1:D→En→AS→Out En} {t t1:En→AS→Out Bool} {f:En→AS→Out D} {pos:Pos} {ws vs ws1 vs1:List Nat}
/-- the end of a comprehension: its list,a value or a thing -/
theorem lc_end (c : Bool) {β1 β2 : Bt} {H1 H : Hp} {Da : Addr} {st1 st2 : AS} {acc : List V} {ys : List D} {Q : VK} (nD : H1 Da = none) (s1 : Sim X.K X.mgw β1 st1 H1) (x : Ext (β1.hide Da) (upd H1 Da (.lst [])) (β2.hide Da) (upd H Da (.lst []))) (s2 : Sim X.K X.mgw (β2.hide Da) st2 H) (hD : H Da = some (.lst acc)) (rys : Reps X.K H (β2.hide Da) ys acc)
   (hq:Post X.K X.mgw (rD X.K) E β1 H1 Q (mk c ys st2)):Q (.ref Da) H:=by
 have xs:=xsA nD x
 have su:=s2.unhide
 have nl:Da∉β2.l:=(s2.hid Da List.mem_cons_self).1
 have nb:β1.out Da:=s1.fresh nD
 have nh:Da∉β2.h:=by
   have:=List.cons.inj x.hid |>.2
   rw[this]
   exact nb.2
 have ru:Reps X.K H β2 ys acc:=Reps.weak (β:=β2.hide Da) (β':=β2) (fun _ _ z=>z) (fun _ _ _ z=>Bt.hide_out (β:=β2) z) rys
 cases c with
 | false=>exact hq β2 H (.ref Da) xs su (.lst ⟨nl,nh⟩ hD ru)
 | true =>
   have hl:∀ (i:Nat) a,(β2.hide Da).l[i]? = some a→(β2.push Da).l[i]? = some a:=fun i a z=>by
     have hlt:=(List.getElem?_eq_some_iff.mp z).1
     have hlt:i<β2.l.length:=hlt
     exact (List.getElem?_append_left hlt).trans z
   have ho:∀ a o,H a=some o→(β2.hide Da).out a→(β2.push Da).out a:=fun a o _ n=>⟨fun z=>(List.mem_append.mp z).elim n.1 fun z=>n.2 (by rw[List.mem_singleton.mp z]; exact List.mem_cons_self),fun z=>n.2 (List.mem_cons_of_mem _ z)⟩
   have S':Sim X.K X.mgw (β2.push Da) (st2++[.lst ys]) H:=by
     refine⟨by simp[Bt.push,su.len],?_,fun a ha=>?_,fun j a c' h1 h2=>?_,fun q hq=>(s2.tab q hq).imp fun a u e n=>⟨e,ho a u e n⟩⟩
     · show (β2.l++[Da]).Nodup
       rw[List.nodup_append]
       refine⟨su.nd,by simp,fun a ha b hb=>?_⟩
       rw[List.mem_singleton.mp hb]
       rintro rfl
       exact nl ha
     · obtain⟨n,u,e,t⟩:=su.hid a ha
       refine⟨fun z=>?_,u,e,t⟩
       rcases List.mem_append.mp z with z | z
       · exact n z
       · rw[List.mem_singleton.mp z] at ha
         exact nh ha
     · change (β2.l++[Da])[j]? = some a at h1
       by_cases hj:j<st2.length
       · rw[List.getElem?_append_left (by rw[su.len]; exact hj)] at h1
         rw[List.getElem?_append_left hj] at h2
         exact CellOk.map (β:=β2.hide Da) (fun r=>Reps.weak hl ho r) rfl (s2.cell j a c' h1 h2)
       · have h3:j<(st2++[C.lst ys]).length:=(List.getElem?_eq_some_iff.mp h2).1
         have e:j=st2.length:=by simp at h3; omega
         subst e
         rw[List.getElem?_append_right (by omega),Nat.sub_self] at h2
         rw[List.getElem?_append_right (by rw[su.len]; omega),su.len,Nat.sub_self] at h1
         simp at h1 h2
         subst h1
         subst h2
         exact⟨acc,hD,Reps.weak hl ho rys⟩
   refine hq (β2.push Da) H (.ref Da) ?_ S' (.ref (by rw[← su.len]; simp[Bt.push]))
   obtain⟨gx,eg⟩:=xs.pre
   refine⟨⟨gx++[Da],?_⟩,xs.hid,fun a o ha na nt=>?_,xs.frz⟩
   · show β2.l++[Da]=β1.l++(gx++[Da])
     rw[eg,List.append_assoc]
   · obtain⟨q1,q2⟩:=xs.kept0 a o ha na nt
     refine⟨q1,fun z=>?_⟩
     rcases List.mem_append.mp z with z | z
     · exact q2 z
     · rw[List.mem_singleton.mp z,nD] at ha
       cases ha
theorem ne_bind {α γ δ:Type} {o:Out α} {k:α→AS→Out γ} {k2:γ→AS→Out δ}:((o.ne.bind k).bind k2)=o.ne.bind fun a s=>(k a s).bind k2:=by cases o <;> rfl
theorem use_lc2 (c : Bool) (hw : ∀ j ∈ ws, j ∈ vs) (hw1 : ∀ j ∈ ws1, j ∈ vs1) {σ : L2.St} {H : Hp} {Q : VK} (h : tV X.K X.mgw E (vLc2 c vs vs1 fi g t fi1 g1 t1 f) σ H Q) :
   tLc2 (tG X.K X.mgw (rI X.K X.mgw) E fi) (tVG X.K X.mgw E0 ws g) (tVT X.K X.mgw E0 t) (tG X.K X.mgw (rI X.K X.mgw) E0 fi1) (tVG X.K X.mgw E0 ws1 g1) (tVT X.K X.mgw E0 t1) (tV X.K X.mgw E0 f) vs vs1 σ H Q:=by
 obtain⟨β,env,st,he,hs,h⟩:=h
 refine tG_bind he hs h fun pr st1 β1 H1 J x1 s1 e1 w h1 Da nD=>?_
 obtain⟨items,gs⟩:=pr
 obtain⟨hsz,h1⟩:=h1.ite
 have hsz:items.length≤1000:=hsz
 have sl:1000*1000≤sizeLine:=by rw[sizeLine_eq]; omega
 let WS:Nat→Hp→Prop:=fun i H=>∃ (β':Bt) (st:AS) (acc:List V) (ys:List D),Ext (β1.hide Da) (upd H1 Da (.lst [])) (β'.hide Da) (upd H Da (.lst []))∧Sim X.K X.mgw (β'.hide Da) st H∧EnvR X.K H (β'.hide Da) env σ∧H Da=some (.lst acc)∧Reps X.K H (β'.hide Da) ys acc∧ys.length≤i*1000 ∧
   Post X.K X.mgw (rD X.K) E β1 H1 Q ((comp2A g t (innA vs1 fi1 g1 t1 f) (wipeD env vs) gs (items.drop i) ys st).bind fun ys st=>mk c ys st)
 refine⟨fun i m H=>m=items.length-i∧i≤items.length∧WS i H,⟨_,rfl,Nat.zero_le _,β1,st1,[],[],by rw[upd_upd]; exact Ext.refl _ _,s1.hide nD,⟨e1.len,fun i d q=>?_⟩,upd_same,.nil,Nat.le_refl _,h1⟩,?_⟩
 · obtain⟨u,h1,h2⟩:=e1.get i d q
   exact⟨u,h1,h2.hide nD⟩
 rintro i m H ⟨rfl,hi,β2,st2,acc,ys,x,s2,e2,hD,rys,hly,hq⟩
 have xw:=xwA nD x
 by_cases hlt:i<items.length
 · have ed:items.drop i=items[i]::items.drop (i+1):=List.drop_eq_getElem_cons hlt
   rw[ed,comp2A] at hq
   by_cases gk:gs.ok st2
   · rw[if_pos gk] at hq
     refine .inr ⟨w.go i (β2.hide Da) H st2 xw s2 gk hlt,WS (i+1),?_,fun v H' y=>?_⟩
     · rintro H' z
       exact⟨items.length-(i+1),by omega,rfl,hlt,z⟩
     · obtain⟨sm,d,e3,r⟩:=w.yld i (β2.hide Da) H st2 v H' xw s2 gk hlt y
       have e4:d=items[i]:=by
         rw[List.getElem?_eq_getElem hlt] at e3
         exact (Option.some.inj e3).symm
       rw[← e4,ne_bind] at hq
       have x2:Ext (β2.hide Da) H (β2.hide Da) H':=Ext.same sm
       have a2:EnvR X.K H' (β2.hide Da) env σ:=e2.ext x2
       have nl:Da∉(β2.hide Da).l:=(s2.hid Da List.mem_cons_self).1
       refine⟨β2.hide Da,wipeD env vs,st2,d,a2.wipe vs,s2.same sm,r,?_⟩
       refine post_ne hq fun env1 st3 β3 H3 σ3 x3 s3 e3 h3=>⟨?_,?_⟩
       · have w1:L2.wipe σ3 vs=L2.wipe (L2.wipe σ vs) vs:=wipe_eq e3.2.1 fun j hj=>e3.2.2 j fun z=>hj (hw j z)
         have w2:L2.wipe (L2.wipe σ vs) vs=L2.wipe σ vs:=wipe_eq (wipe_length σ vs) fun j hj=>wipe_out hj
         exact w1.trans w2
       · rw[ne_bind] at h3
         refine⟨β3,env1,st3,e3.1,s3,?_⟩
         refine post_ne h3 fun b st4 β4 H4 b' x4 s4 r4 h4=>?_
         obtain rfl:b=b':=r4
         have xx:=(x2.trans x3).trans x4
         cases b with
         | false =>
           obtain⟨β4',rfl,q1,q2⟩:=keepA x nl hD xx
           exact⟨β4',st4,acc,ys,q2,s4,e2.ext xx,q1,rys.ext xx,by omega,h4⟩
         | true =>
           have h4:Post X.K X.mgw (rD X.K) E β1 H1 Q ((((fi1 env1 st4).ne.bind fun p st=>if p.1.length≤1000 then comp1A g1 t1 f (wipeD env1 vs1) p.2 p.1 ys st else .bad).bind fun ys st=>comp2A g t (innA vs1 fi1 g1 t1 f) (wipeD env vs) gs (items.drop (i+1)) ys st).bind fun ys st=>mk c ys st):=h4
           rw[ne_bind,ne_bind] at h4
           refine⟨β4,env1,st4,e3.1.ext x4,s4,post_ne h4 fun p st5 β5 H5 J1 x5 s5 w1 h5=>?_⟩
           obtain⟨items1,gs1⟩:=p
           have xx5:=xx.trans x5
           obtain⟨β5',rfl,q1,q2⟩:=keepA x nl hD xx5
           have hsz1:items1.length≤1000:=by
             by_cases z:items1.length≤1000
             · exact z
             · rw[if_neg z] at h5; exact h5.elim
           rw[if_pos hsz1] at h5
           have hmb:Da∈(β5'.hide Da).h:=List.mem_cons_self
           let IS:Nat→Hp→Prop:=fun j H=>∃ (β':Bt) (st:AS) (acc:List V) (ys:List D),Ext (β1.hide Da) (upd H1 Da (.lst [])) (β'.hide Da) (upd H Da (.lst []))∧ExtF (β5'.hide Da) H5 (β'.hide Da) H∧Sim X.K X.mgw (β'.hide Da) st H∧EnvR X.K H (β'.hide Da) env σ∧EnvR X.K H (β'.hide Da) env1 σ3∧H Da=some (.lst acc)∧Reps X.K H (β'.hide Da) ys acc∧ys.length≤i*1000+j ∧
             Post X.K X.mgw (rD X.K) E β1 H1 Q (((comp1A g1 t1 f (wipeD env1 vs1) gs1 (items1.drop j) ys st).bind fun ys st=>comp2A g t (innA vs1 fi1 g1 t1 f) (wipeD env vs) gs (items.drop (i+1)) ys st).bind fun ys st=>mk c ys st)
           refine⟨fun j k H=>k=items1.length-j∧j≤items1.length∧IS j H,⟨_,rfl,Nat.zero_le _,β5',st5,acc,ys,q2,ExtF.refl _ _,s5,e2.ext xx5,(e3.1.ext x4).ext x5,q1,rys.ext xx5,by omega,h5⟩,?_⟩
           rintro j k H6 ⟨rfl,hj,β6,st6,acc6,ys6,x6,xf6,s6,e6,e61,hD6,rys6,hly6,hq6⟩
           by_cases hlt1:j<items1.length
           · have ed1:items1.drop j=items1[j]::items1.drop (j+1):=List.drop_eq_getElem_cons hlt1
             rw[ed1,comp1A] at hq6
             by_cases gk1:gs1.ok st6
             · rw[if_pos gk1] at hq6
               refine .inr ⟨w1.go j (β6.hide Da) H6 st6 xf6 s6 gk1 hlt1,IS (j+1),?_,fun v7 H7 y7=>?_⟩
               · rintro H' z
                 exact⟨items1.length-(j+1),by omega,rfl,hlt1,z⟩
               · obtain⟨sm7,d7,e7,r7⟩:=w1.yld j (β6.hide Da) H6 st6 v7 H7 xf6 s6 gk1 hlt1 y7
                 have e8:d7=items1[j]:=by
                   rw[List.getElem?_eq_getElem hlt1] at e7
                   exact (Option.some.inj e7).symm
                 rw[← e8,ne_bind,ne_bind] at hq6
                 have x7:Ext (β6.hide Da) H6 (β6.hide Da) H7:=Ext.same sm7
                 have nl6:Da∉(β6.hide Da).l:=(s6.hid Da List.mem_cons_self).1
                 refine⟨β6.hide Da,wipeD env1 vs1,st6,d7,(e61.ext x7).wipe vs1,s6.same sm7,r7,?_⟩
                 refine post_ne hq6 fun env2 st8 β8 H8 σ8 x8 s8 e9 h8=>⟨?_,?_⟩
                 · have w1':L2.wipe σ8 vs1=L2.wipe (L2.wipe σ3 vs1) vs1:=wipe_eq e9.2.1 fun j hj=>e9.2.2 j fun z=>hj (hw1 j z)
                   have w2:L2.wipe (L2.wipe σ3 vs1) vs1=L2.wipe σ3 vs1:=wipe_eq (wipe_length σ3 vs1) fun j hj=>wipe_out hj
                   exact w1'.trans w2
                 · rw[ne_bind,ne_bind] at h8
                   refine⟨β8,env2,st8,e9.1,s8,?_⟩
                   refine post_ne h8 fun b st10 β10 H10 b' x10 s10 r10 h10=>?_
                   obtain rfl:b=b':=r10
                   have xa:=(x7.trans x8).trans x10
                   cases b with
                   | false =>
                     obtain⟨β10',rfl,p1,p2⟩:=keepA x6 nl6 hD6 xa
                     exact⟨β10',st10,acc6,ys6,p2,xf6.trans' xa,s10,e6.ext xa,e61.ext xa,p1,rys6.ext xa,by omega,h10⟩
                   | true =>
                     have h10:Post X.K X.mgw (rD X.K) E β1 H1 Q ((((f env2 st10).ne.bind fun y st=>comp1A g1 t1 f (wipeD env1 vs1) gs1 (items1.drop (j+1)) (ys6++[y]) st).bind fun ys st=>comp2A g t (innA vs1 fi1 g1 t1 f) (wipeD env vs) gs (items.drop (i+1)) ys st).bind fun ys st=>mk c ys st):=h10
                     rw[ne_bind,ne_bind] at h10
                     refine⟨β10,env2,st10,e9.1.ext x10,s10,post_ne h10 fun yv st11 β11 H11 yu x11 s11 r11 h11=>?_⟩
                     have xb:=xa.trans x11
                     obtain⟨β11',rfl,p1,p2⟩:=keepA x6 nl6 hD6 xb
                     have hm:Da∈(β11'.hide Da).h:=List.mem_cons_self
                     have yl:ys6.length<sizeLine:=by
                       have:i*1000≤999*1000:=Nat.mul_le_mul_right _ (by omega)
                       omega
                     refine⟨acc6,p1,by rw[rys6.length]; exact yl,β11',st11,acc6++[yu],ys6++[yv],by rw[upd_upd]; exact p2,(xf6.trans' xb).put hmb p1,s11.hidden hm,⟨e6.len,fun i d q=>?_⟩,⟨e61.len,fun i d q=>?_⟩,upd_same,?_,by rw[List.length_append,List.length_singleton]; omega,h11⟩
                     · obtain⟨u,h1,h2⟩:=e6.get i d q
                       exact⟨u,h1,Rep.hid hm (h2.ext xb)⟩
                     · obtain⟨u,h1,h2⟩:=e61.get i d q
                       exact⟨u,h1,Rep.hid hm (h2.ext xb)⟩
                     · exact Reps.hid hm ((rys6.ext xb).append (.cons r11 .nil))
             · rw[if_neg gk1] at hq6
               exact hq6.elim
           · have e:j=items1.length:=by omega
             subst e
             rw[List.drop_length,comp1A] at hq6
             by_cases gk1:gs1.ok st6
             · rw[if_pos gk1] at hq6
               exact .inl ⟨w1.stop (β6.hide Da) H6 st6 xf6 s6 gk1,β6,st6,acc6,ys6,x6,s6,e6,hD6,rys6,by rw[Nat.add_mul]; omega,hq6⟩
             · rw[if_neg gk1] at hq6
               exact hq6.elim
   · rw[if_neg gk] at hq
     exact hq.elim
 · have e:i=items.length:=by omega
   subst e
   rw[List.drop_length,comp2A] at hq
   by_cases gk:gs.ok st2
   · rw[if_pos gk] at hq
     exact .inl ⟨w.stop (β2.hide Da) H st2 xw s2 gk,lc_end c nD s1 x s2 hD rys hq⟩
   · rw[if_neg gk] at hq
     exact hq.elim
theorem ve_lc2 (k : Bool) {scope : Scope} {own : List (Str × Nat)} (hw : ∀ j ∈ ws, j ∈ own.map (·.2)) (hw1 : ∀ j ∈ ws1, j ∈ vs1) (hv : ∀ i ∈ vs1, i ∈ own.map (·.2)) (hc : X.calm = true) (hN : X.N.Nodup) (hi : VI X E tg it fi) (ok : BlkOk X.N X.env.scope scope own)
   (hg:∀ (s:Shared) (H:Hp) (C:Addr) (cl:List (Str × Addr)) (fp:List Addr),VG (X.blk s H scope (compEnvC scope cl C X.env) fp) E0 tg ws g) (ht:∀ (s:Shared) (H:Hp) (C:Addr) (cl:List (Str × Addr)) (fp:List Addr),PTs (X.blk s H scope (compEnvC scope cl C X.env) fp) ifs (tVT X.K X.mgw E0 t))
   (hi1:∀ (s:Shared) (H:Hp) (C:Addr) (cl:List (Str × Addr)) (fp:List Addr),VI (X.blk s H scope (compEnvC scope cl C X.env) fp) E0 tg1 it1 fi1)
   (hg1:∀ (s:Shared) (H:Hp) (C:Addr) (cl:List (Str × Addr)) (fp:List Addr),VG (X.blk s H scope (compEnvC scope cl C X.env) fp) E0 tg1 ws1 g1) (ht1:∀ (s:Shared) (H:Hp) (C:Addr) (cl:List (Str × Addr)) (fp:List Addr),PTs (X.blk s H scope (compEnvC scope cl C X.env) fp) ifs1 (tVT X.K X.mgw E0 t1))
   (he:∀ (s:Shared) (H:Hp) (C:Addr) (cl:List (Str × Addr)) (fp:List Addr),VE (X.blk s H scope (compEnvC scope cl C X.env) fp) E0 elt f) (hs:∀ x,foldedSetIterable it X.env x=pure x:=by intro _; rfl) (hs1:∀ env x,foldedSetIterable it1 env x=pure x:=by intro _ _; rfl) :
   VE X E (.ListComp elt [⟨tg,it,ifs,0⟩,⟨tg1,it1,ifs1,0⟩] scope pos) (vLc2 k (own.map (·.2)) vs1 fi g t fi1 g1 t1 f) :=
 weakE (pe_lc2 hc hN hi ok hv hg ht hi1 hg1 ht1 he hs hs1) fun σ H Q h=>use_lc2 k hw hw1 h
end
end VL
namespace G
open PySem VL
noncomputable def B_within : En → AS → Fl :=
   (sRet (vA (g1 sumD) (vCons (vLc false [3,4,5] (v1 itD (vVar 0)) (kTup 3 (kCons (kName 3) (kCons (kName 4) (kCons (kName 5) kNil)))) (vAnd (vB (v2 leD (vVar 1) (vVar 3))) (vB (v2 leD (vVar 4) (vVar 2)))) (vVar 5)) vNil)))
noncomputable def F_within:List D→AS→Out D:=vFn 6 0 B_within
noncomputable def B_excess : En → AS → Fl :=
   (sRet (v2 subD (vCallA 3 0 [] [.pos 0,.pos 1,.pos 2] F_within (vCons (vVar 0) (vCons (vVar 2) (vCons (vVar 3) vNil))) vNil) (v2 (mulD false) (vVar 1) (v2 subD (vVar 3) (vVar 2)))))
noncomputable def F_excess:List D→AS→Out D:=vFn 4 0 B_excess
noncomputable def B_stretches : En → AS → Fl :=
   (sSeq (sSet 1 (v1 (srtSetD false) (vLc false [3,4,5] (v1 itD (vVar 0)) (kTup 3 (kCons (kName 3) (kCons (kName 4) (kCons (kName 5) kNil)))) tYesV (vVar 3))))
   (sSeq (sSet 2 (v1 (srtSetD false) (vLc false [3,4,5] (v1 itD (vVar 0)) (kTup 3 (kCons (kName 3) (kCons (kName 4) (kCons (kName 5) kNil)))) tYesV (vVar 4))))
   (sRet (vLc2 false [3,4] [4] (v1 itD (vVar 1)) (kName 3) tYesV (v1 itD (vVar 2)) (kName 4) (vB (v2 leD (vVar 3) (vVar 4))) (vA gTup (vCons (vVar 3) (vCons (vVar 4) vNil)))))))
noncomputable def F_stretches:List D→AS→Out D:=vFn 6 0 B_stretches
noncomputable def B_full_stretches : En → AS → Fl :=
   (sRet (vLc false [2,3] (v1 itD (vCallA 1 0 [] [.pos 0] F_stretches (vCons (vVar 0) vNil) vNil)) (kTup 2 (kCons (kName 2) (kCons (kName 3) kNil))) (vB (v2 gtD (vCallA 4 0 [] [.pos 0,.pos 1,.pos 2,.pos 3] F_excess (vCons (vVar 0) (vCons (vVar 1) (vCons (vVar 2) (vCons (vVar 3) vNil)))) vNil) (vC (.int 0)))) (vA gTup (vCons (vVar 2) (vCons (vVar 3) vNil)))))
noncomputable def F_full_stretches:List D→AS→Out D:=vFn 4 0 B_full_stretches
end G
namespace G
open PySem VL
noncomputable def B__law_coil : En → AS → Fl :=
   (sRet (vA (gLst true) (vCons (vSl (slD false) (vVar 0) vNoPart (v1 asI (vC (.int 63)))) (vCons (vC (.int 0)) (vCons (vC (.int 0)) (vCons (vC (.int 0)) vNil))))))
noncomputable def F__law_coil:List D→AS→Out D:=vFn 1 0 B__law_coil
noncomputable def B__law_pull : En → AS → Fl :=
   (sSeq (sSet 2 (v2 ixD (vVar 0) (vC (.int 2))))
   (sSeq (sAsg (v2 (addD false) (vVar 2) (vC (.int 1))) (kSub (vVar 0) (vC (.int 2))))
   (sSeq (sIf (vB (v2 gtD (v2 ixD (vVar 0) (vC (.int 1))) (vC (.int 0)))) (sSeq (sSet 3 (v2 modD (v2 ixD (vVar 0) (vC (.int 1))) (vVar 1)))
   (sSeq (sAsg (v2 fdivD (v2 ixD (vVar 0) (vC (.int 1))) (vVar 1)) (kSub (vVar 0) (vC (.int 1))))
   (sRet (vVar 3)))) sNext)
   (sSeq (sSet 4 (v2 ixD (vVar 0) (vC (.int 3))))
   (sSeq (sAsg (v2 (addD false) (vVar 4) (vC (.int 1))) (kSub (vVar 0) (vC (.int 3))))
   (sSeq (sSet 5 (vIfE (vB (v2 (eqD true) (v2 ixD (vVar 0) (vC (.int 0))) (vA (gLst false) vNil))) (v2 ixD (v2 ixD (vVar 0) (vC (.int 0))) (v2 modD (vVar 4) (vA (g1 lenD) (vCons (v2 ixD (vVar 0) (vC (.int 0))) vNil)))) (vC (.int 8))))
   (sSeq (sIf (vAnd (vB (v2 geD (vVar 5) (v2 powD (vC (.int 10)) (vC (.int 18))))) (vB (v2 ltD (vVar 4) (vA (g1 lenD) (vCons (v2 ixD (vVar 0) (vC (.int 0))) vNil))))) (sSeq (sAsg (v2 fdivD (vVar 5) (vVar 1)) (kSub (vVar 0) (vC (.int 1))))
   (sRet (v2 modD (vVar 5) (vVar 1)))) sNext)
   (sSeq (sSet 6 (v2 (addD false) (v2 (addD false) (v2 (addD false) (v2 modD (vVar 5) (vC (.int 2147483549))) (v2 (mulD false) (v2 (mulD false) (vC (.int 6733)) (vVar 2)) (vVar 2))) (v2 (mulD false) (vC (.int 401)) (vVar 2))) (vC (.int 173))))
   (sSeq (sSet 6 (v2 modD (v2 (addD false) (v2 (addD false) (v2 (mulD false) (vVar 6) (vVar 6)) (v2 (mulD false) (vC (.int 39119)) (vVar 2))) (vC (.int 41))) (vC (.int 2147483629))))
   (sRet (v2 modD (v2 fdivD (v2 modD (v2 (addD false) (v2 (mulD false) (vVar 6) (vVar 6)) (v2 (mulD false) (vC (.int 17)) (vVar 6))) (vC (.int 2147483563))) (vC (.int 64))) (vVar 1))))))))))))
noncomputable def F__law_pull:List D→AS→Out D:=vFn 7 0 B__law_pull
noncomputable def B__law_jobs_09f3 : En → AS → Fl :=
   (sSeq (sSet 2 (v2 ixD (vA (gLst false) (vCons (vC (.int 0)) (vCons (vCallA 2 0 [] [.pos 0,.pos 1] F__law_pull (vCons (vVar 0) (vCons (vC (.int 30)) vNil)) vNil) (vCons (vC (.int 380)) vNil)))) (vCallA 2 0 [] [.pos 0,.pos 1] F__law_pull (vCons (vVar 0) (vCons (vC (.int 3)) vNil)) vNil)))
   (sSeq (sSet 3 (vA (gLst true) vNil))
   (sSeq (sFor (vA rng1 (vCons (vCallA 2 0 [] [.pos 0,.pos 1] F__law_pull (vCons (vVar 0) (vCons (v2 (addD false) (vVar 1) (vC (.int 1))) vNil)) vNil) vNil)) (kName 4) (sKill [4,5,6] (sSeq (sSet 5 (v2 (addD false) (vVar 2) (vCallA 2 0 [] [.pos 0,.pos 1] F__law_pull (vCons (vVar 0) (vCons (vC (.int 7)) vNil)) vNil)))
   (sSeq (sSet 6 (v2 (addD false) (vVar 5) (v2 ixD (vA (gLst false) (vCons (vC (.int 1)) (vCons (vC (.int 2)) (vCons (vC (.int 3)) (vCons (vC (.int 4)) (vCons (vC (.int 6)) (vCons (v2 (addD false) (vC (.int 1)) (vCallA 2 0 [] [.pos 0,.pos 1] F__law_pull (vCons (vVar 0) (vCons (vC (.int 9)) vNil)) vNil)) vNil))))))) (vCallA 2 0 [] [.pos 0,.pos 1] F__law_pull (vCons (vVar 0) (vCons (vC (.int 6)) vNil)) vNil))))
   (sSeq (sIf (vB (v2 (eqD false) (vCallA 2 0 [] [.pos 0,.pos 1] F__law_pull (vCons (vVar 0) (vCons (vC (.int 16)) vNil)) vNil) (vC (.int 0)))) (sSet 6 (vVar 5)) sNext)
   (sExpr (vML appD (vVar 3) (vCons (vA gTup (vCons (vVar 5) (vCons (vVar 6) (vCons (v2 ixD (vA (gLst false) (vCons (vCallA 2 0 [] [.pos 0,.pos 1] F__law_pull (vCons (vVar 0) (vCons (vC (.int 6)) vNil)) vNil) (vCons (vC (.int 1)) (vCons (vC (.int 2)) (vCons (vC (.int 0)) (vCons (vC (.int 3)) (vCons (vC (.int 7)) vNil))))))) (vCallA 2 0 [] [.pos 0,.pos 1] F__law_pull (vCons (vVar 0) (vCons (vC (.int 6)) vNil)) vNil)) vNil)))) vNil))))))))
   (sRet (vA (g1 tupD) (vCons (vVar 3) vNil))))))
noncomputable def F__law_jobs_09f3:List D→AS→Out D:=vFn 7 0 B__law_jobs_09f3
end G
namespace VL
open PySem PySem.Spec PyProof.Rows L2 TB
/-- the keys of a dict,where they are pairs -/
def pairKs:List (List Key × D)→Option (List KK)
 | []=>some []
 | ([a,b],_)::r=>(pairKs r).map ((a,b)::·)
 | _=>none
open Classical in
@[simp] noncomputable def sortTD (x:D) (st:AS):Out D:=match x with
 | .ref i=>(match st[i]? with
   | some (.dtt kvs)=>(match pairKs kvs with
     | some ps=>if Typed ps then .ok (.lst ((sortP ps).map pairD)) st else .bad
     | none=>.bad)
   | _=>.bad)
 | _=>.bad
end VL
namespace VL
open PySem PySem.Spec PyProof.Rows L2 TB
@[simp] def lstVD (d:D) (st:AS):Out D:=match d with
 | .ref i=>(match st[i]? with
   | some (.dct kvs)=>.ok (.lst (kvs.map (·.2))) st
   | _=>.bad)
 | _=>.bad
@[simp] def sumVD (d:D) (st:AS):Out D:=match d with
 | .ref i=>(match st[i]? with
   | some (.dct kvs)=>(match intsOf (kvs.map (·.2)) with
     | some ns=>.ok (.int ns.sum) st
     | none=>.bad)
   | _=>.bad)
 | _=>.bad
@[simp] def addCD (x y:D) (st:AS):Out D:=match x,y with
 | .ctp a,.tup b=>if b.isEmpty=true then .bad else if a.length+b.length≤sizeLine then .ok (.tup (a++b)) st else .bad
 | _,_=>.bad
end VL
namespace VL
open PySem PySem.Spec PyProof.Rows L2 TB
open PySem.W (EachIs AllAlike Sortable dataLe dataKind sortVals Reads.keepBut)
open PySem (Reads)
theorem vals_each {β:Type} {f:β→V}:∀ {its:List Value} {bs:List β},Vals (bs.map f) its→EachIs (fun v b=>RelV (f b) v) its bs
 | _,[],.nil=>.nil
 | _,b::bs,.cons h t=>.cons h (vals_each t)
theorem each_vals {β:Type} {f:β→V}:∀ {its:List Value} {bs:List β},EachIs (fun v b=>RelV (f b) v) its bs→Vals (bs.map f) its
 | _,_,.nil=>.nil
 | _,_,.cons h t=>.cons h (each_vals t)
theorem each_imp {α β:Type} {R S:α→β→Prop}:∀ {as:List α} {bs:List β},EachIs R as bs→(∀ a b,b∈bs→R a b→S a b)→EachIs S as bs
 | _,_,.nil,_=>.nil
 | _,_,.cons h t,f=>.cons (f _ _ List.mem_cons_self h) (each_imp t fun a b hb=>f a b (List.mem_cons_of_mem _ hb))
section
variable {X:Cx}
theorem cr_sortedAny (hu : X.A.units + 64 < cLine) : CallR X (.builtin "sorted") (fun xs H Q => ∃ (a : Addr) (bs : List (V × D)), xs = [.ref a] ∧ SqL X.K H a (bs.map (·.1)) ∧ (∀ b ∈ bs, Dp X.K H b.1 b.2.py) ∧ AllAlike (bs.map fun b => b.2.py) ∧ Sortable (bs.map fun b => b.2.py) ∧ (∀ b ∈ bs, b.2.py.depth ≤ 60) ∧
   ∀ p,H p=none→Q (.ref p) (upd H p (.lst ((bs.mergeSort (dataLe false fun b=>b.2.py)).map (·.1))))):=by
 intro pins s σ H xs us Q I r hq
 obtain⟨a,bs,rfl,hl,hd,al,so,dp,fin⟩:=hq
 obtain⟨u,rfl,rx⟩:=vals1 r
 cases rx
 obtain⟨its,rv,pl,hz⟩:=I.list hl
 rw[List.length_map] at hz
 have e1:=vals_each rv
 have il:its.length=bs.length:=by have:=Paired.length rv; rw[List.length_map] at this; omega
 have old:∀ b o,s.heap.get? b=some o→(PySem.W.sortingHeap (PySem.W.copyHeap s.heap its) (s.heap.objs.size+1) its).get? b=some o:=fun b o e=>PySem.W.sorting_copy_old e
 have e2:EachIs (fun (v:Value) (b:V × D)=>∃ as,PySem.Reads (PySem.W.sortingHeap (PySem.W.copyHeap s.heap its) (s.heap.objs.size+1) its) v b.2.py as) its bs:=each_imp e1 fun v b hb h=>by
   obtain⟨as,h2⟩:=Dp.reads I b.2.py b.1 v (hd b hb) h
   exact⟨as,Reads.keeps old h2⟩
 have S:=PySem.W.SortsAt.data (prog:=X.prog) (w:=X.w) (A:=X.A.in1.in1) (s:={ s with heap:=PySem.W.sortingHeap (PySem.W.copyHeap s.heap its) (s.heap.objs.size+1) its }) (PySem.W.each_map (fun b:V × D=>b.2.py) e2) al so fun d hd2=>by
   obtain⟨b,hb,rfl⟩:=List.mem_map.mp hd2
   have:=dp b hb
   show X.A.units+1+1+_<cLine
   omega
 have out:=PySem.W.sortVals_data (enc:=fun b:V × D=>b.2.py) false e1 e2 al
 refine PySem.W.sorted_vals pl.isList S (by omega) ?_
 dsimp only
 generalize sortVals (dataKind (PySem.W.sortingHeap (PySem.W.copyHeap s.heap its) (s.heap.objs.size+1) its) (bs.map fun b=>b.2.py)) false its its=ot at *
 obtain⟨c,hcc⟩:=sortedAll_at s.heap its ot.toArray
 have ol:=each_vals out
 obtain⟨hn,J⟩:=Inv.grown (s':={ s with heap:=sortedAll s.heap its ot.toArray }) (p:=s.heap.objs.size+1) (xs:=(bs.mergeSort (dataLe false fun b=>b.2.py)).map (·.1)) (out:=ot.toArray) (c:=c) I (fun b o e=>sortedAll_old e) rfl rfl (Nat.le_succ _) hcc (by rw[List.length_map,List.length_mergeSort]; omega) (by
   show Vals _ ot
   exact ol)
 exact⟨.ref (s.heap.objs.size+1),_,J,rfl,fin _ hn⟩
end
/-- sorted(xs) of alike data -/
noncomputable instance (ds:List PyData):Decidable (AllAlike ds):=Classical.propDecidable _
noncomputable instance (ds:List PyData):Decidable (Sortable ds):=Classical.propDecidable _
@[simp] noncomputable def sortAD (c:Bool) (x:D) (st:AS):Out D:=match listOf st x with
 | some ds=>if D.pures ds=true∧AllAlike (ds.map D.py)∧Sortable (ds.map D.py) ∧ ∀ d∈ds,d.py.depth≤60 then mk c (ds.mergeSort (dataLe false D.py)) st else .bad
 | none=>.bad
theorem repsA_zip {K:PySem.W.Frag} {H:Hp} {β:Bt}:∀ {ds:List D} {us:List V},Reps K H β ds us → ∃ bs:List (V × D),us=bs.map (·.1)∧ds=bs.map (·.2) ∧ ∀ b∈bs,Rep K H β b.2 b.1
 | _,_,.nil=>⟨[],rfl,rfl,fun b h=>nomatch h⟩
 | _,_,.cons (u:=v) (d:=d) r t=>by
   obtain⟨bs,e1,e2,h⟩:=repsA_zip t
   exact⟨(v,d)::bs,by rw[e1]; rfl,by rw[e2]; rfl,fun b hb=>by
     rcases List.mem_cons.mp hb with rfl | hb
     · exact r
     · exact h b hb⟩
theorem zipA_reps {K:PySem.W.Frag} {H:Hp} {β:Bt}:∀ (l:List (V × D)),(∀ b∈l,Rep K H β b.2 b.1)→Reps K H β (l.map (·.2)) (l.map (·.1))
 | [],_=>.nil
 | b::l,h=>.cons (h b List.mem_cons_self) (zipA_reps l fun z hz=>h z (List.mem_cons_of_mem _ hz))
theorem ob_sortedA {X:Cx} {E:XK} (hu:X.A.units+65<cLine) (c:Bool):OkB X E (.builtin "sorted") (g1 (sortAD c)):=⟨_,cr_sortedAny (Nat.lt_of_le_of_lt (by omega) hu),fun β H st xs us Q S r h=>by
 obtain⟨x,u,rfl,rx,h⟩:=g1_ok r h
 unfold sortAD at h
 split at h
 · rename_i ds e
   obtain⟨⟨pu,al,so,dp⟩,h⟩:=h.ite
   obtain⟨a,us,rfl,hq,r⟩:=S.lists rx e
   obtain⟨bs,rfl,rfl,hr⟩:=repsA_zip r
   rw[List.map_map] at al so
   have pb:∀ b∈bs,b.2.pure=true:=fun b hb=>by
     rw[D.pures_eq,List.all_map,List.all_eq_true] at pu
     exact pu b hb
   refine⟨a,bs,rfl,hq,fun b hb=>(hr b hb).dp (pb b hb),al,so,fun b hb=>dp _ (List.mem_map_of_mem hb),fun p hn=>?_⟩
   have es:(bs.map (·.2)).mergeSort (dataLe false D.py)=(bs.mergeSort (dataLe false fun b=>b.2.py)).map (·.2):=(List.map_mergeSort (r:=dataLe false fun b:V × D=>b.2.py) (s:=dataLe false D.py) (f:=fun b:V × D=>b.2) fun a _ b _=>rfl).symm
   rw[es] at h
   exact new_lst h S (zipA_reps _ fun b hb=>hr b ((List.mergeSort_perm _ _).mem_iff.mp hb)) p hn
 · exact h.elim⟩
end VL
namespace G
open PySem VL
noncomputable def B_next_minute : En → AS → Fl :=
   (sSeq (sSet 3 (vLc false [4,5,6,7] (vA zipD (vCons (vVar 0) (vCons (vVar 1) vNil))) (kTup 2 (kCons (kTup 3 (kCons (kName 5) (kCons (kName 6) (kCons (kName 7) kNil)))) (kCons (kName 4) kNil))) (vAnd (vB (v2 gtD (vVar 4) (vC (.int 0)))) (vB (v2 ltD (vA maxD (vCons (vVar 5) (vCons (vVar 2) vNil))) (vVar 6)))) (vA maxD (vCons (vVar 5) (vCons (vVar 2) vNil)))))
   (sRet (vMinDf (vCons (vVar 3) vNil) (vC .non))))
noncomputable def F_next_minute:List D→AS→Out D:=vFn 8 0 B_next_minute
noncomputable def B_waiting : En → AS → Fl :=
   (sSeq (sSet 3 (vLc false [4,5,6,7] (vA enumD (vCons (vVar 0) vNil)) (kTup 2 (kCons (kName 4) (kCons (kTup 3 (kCons (kName 5) (kCons (kName 6) (kCons (kName 7) kNil)))) kNil))) (vAnd (vB (v2 gtD (v2 ixD (vVar 1) (vVar 4)) (vC (.int 0)))) (vB (vChain leD ltD (vVar 5) (vVar 2) (vVar 6)))) (vA gTup (vCons (vVar 6) (vCons (vVar 4) vNil)))))
   (sRet (vLc false [6,4] (v1 itD (vA (g1 (sortAD false)) (vCons (vVar 3) vNil))) (kTup 2 (kCons (kName 6) (kCons (kName 4) kNil))) tYesV (vVar 4))))
noncomputable def F_waiting:List D→AS→Out D:=vFn 8 0 B_waiting
noncomputable def B_laid : En → AS → Fl :=
   (sSeq (sSet 2 (vLc true [9,10,8] (v1 itD (vVar 0)) (kTup 3 (kCons (kName 9) (kCons (kName 10) (kCons (kName 8) kNil)))) tYesV (vVar 8)))
   (sSeq (sSet 3 (vA (gLst true) vNil))
   (sSeq (sSet 4 (vCallA 3 0 [] [.pos 0,.pos 1,.pos 2] F_next_minute (vCons (vVar 0) (vCons (vVar 2) (vCons (vC (.int 0)) vNil))) vNil))
   (sSeq (sWhile (vB (v2 (isND true) (vVar 4) (vC .non))) (sKill [5,6,7,8] (sSeq (sSet 5 (vVar 1))
   (sSeq (sSet 6 (vCallA 3 0 [] [.pos 0,.pos 1,.pos 2] F_waiting (vCons (vVar 0) (vCons (vVar 2) (vCons (vVar 4) vNil))) vNil))
   (sSeq (sFor (v1 itD (vVar 6)) (kName 7) (sKill [7,8] (sSeq (sSet 8 (vA minD (vCons (vVar 5) (vCons (v2 ixD (vVar 2) (vVar 7)) vNil))))
   (sSeq (sIf (vB (v2 gtD (vVar 8) (vC (.int 0)))) (sExpr (vML appD (vVar 3) (vCons (vA gTup (vCons (vVar 4) (vCons (vVar 7) (vCons (vVar 8) vNil)))) vNil))) sNext)
   (sSeq (sAugS (vVar 2) (vVar 7) (iiD fun a b=>.int (a-b)) (vVar 8))
   (sAug 5 (iiD fun a b=>.int (a-b)) (vVar 8)))))))
   (sSet 4 (vCallA 3 0 [] [.pos 0,.pos 1,.pos 2] F_next_minute (vCons (vVar 0) (vCons (vVar 2) (vCons (v2 (addD false) (vVar 4) (vC (.int 1))) vNil))) vNil)))))))
   (sRet (vA (g1 tupD) (vCons (vA (g1 (sortAD false)) (vCons (vVar 3) vNil)) vNil)))))))
noncomputable def F_laid:List D→AS→Out D:=vFn 11 0 B_laid
noncomputable def B_kitchen : En → AS → Fl :=
   (sSeq (sSet 2 (vCallA 2 0 [] [.pos 0,.pos 1] F_full_stretches (vCons (vVar 0) (vCons (vVar 1) vNil)) vNil))
   (sSeq (sIf (v1 truD (vVar 2)) (sRet (vA gTup (vCons (vC (.str "full")) (vCons (v2 ixD (vVar 2) (vC (.int 0))) vNil)))) sNext)
   (sRet (vA gTup (vCons (vC (.str "row")) (vCons (vCallA 2 0 [] [.pos 0,.pos 1] F_laid (vCons (vVar 0) (vCons (vVar 1) vNil)) vNil) vNil))))))
noncomputable def F_kitchen:List D→AS→Out D:=vFn 3 0 B_kitchen
end G
namespace G
open PySem VL
end G
namespace G
open PySem VL
end G
namespace G
open PySem VL
end G
namespace G
open PySem VL
end G
namespace KT
open PySem VL G Kd W9 W26 WG TB
/-- the coil: the cells,what is left,how many draws,how many cells were taken -/
def coC (ns:List Int) (B C A:Int):VL.C:=.lst [.lst (ns.map D.int),.int B,.int C,.int A]
section
variable {ns:List Int} {A B C m:Int} {X:AS}
theorem co_0:ixD (.ref 0) (.int 0) (coC ns B C A::X) = .ok (.lst (ns.map D.int)) (coC ns B C A::X):=by simp[coC]
theorem co_1:ixD (.ref 0) (.int 1) (coC ns B C A::X) = .ok (.int B) (coC ns B C A::X):=by simp[coC]
theorem co_2:ixD (.ref 0) (.int 2) (coC ns B C A::X) = .ok (.int C) (coC ns B C A::X):=by simp[coC]
theorem co_3:ixD (.ref 0) (.int 3) (coC ns B C A::X) = .ok (.int A) (coC ns B C A::X):=by simp[coC]
theorem so_1 {x:Int}:setD (.ref 0) (.int 1) (.int x) (coC ns B C A::X) = .ok () (coC ns x C A::X):=by simp[coC,show L2.ixN 4 1=some 1 from rfl]
theorem so_2 {x:Int}:setD (.ref 0) (.int 2) (.int x) (coC ns B C A::X) = .ok () (coC ns B x A::X):=by simp[coC,show L2.ixN 4 2=some 2 from rfl]
theorem so_3 {x:Int}:setD (.ref 0) (.int 3) (.int x) (coC ns B C A::X) = .ok () (coC ns B C x::X):=by simp[coC,show L2.ixN 4 3=some 3 from rfl]
theorem pull_ok (h0 : 0 < m) (h1 : m < 4611686018427387904) (hA : 0 ≤ A) (C0 : 0 ≤ C) (C1 : C ≤ 100000) :
   (F__law_pull [.ref 0,.int m] (coC ns B C A::X)).wp (fun d S=>Hold (∃ r A' B',d = .int r∧S=coC ns B' (C+1) A'::X∧0≤r∧r<m∧0≤A')) noX:=by
 have dm:∀ x:Int,L2.CDivW x m=True:=fun x=>G5 h0 h1
 have ne:=fun S=>ne_ints (xs:=ns) true S
 have pw:L2.CPow 10 18=True:=eq_true ⟨by decide,by decide,by decide⟩
 have hm:(0<m)=True:=eq_true h0
 have ln:∀ S:AS,lenD (.lst (ns.map D.int)) S = .ok (.int ns.length) S:=fun S=>by simp
 have mo1:VL.MulOk 6733 C=True:=eq_true (.inl (.inl ⟨by omega,by omega⟩))
 have cc:0≤6733*C∧6733*C≤673300000:=by omega
 have mo2:VL.MulOk (6733*C) C=True:=eq_true (.inl (.inl ⟨by omega,by omega⟩))
 have ccc:0≤6733*C*C∧6733*C*C≤673300000*100000:=⟨Int.mul_nonneg cc.1 C0,Int.mul_le_mul cc.2 C1 C0 (by decide)⟩
 have mo3:VL.MulOk 401 C=True:=eq_true (.inl (.inl ⟨by omega,by omega⟩))
 have mo4:VL.MulOk 39119 C=True:=eq_true (.inl (.inl ⟨by omega,by omega⟩))
 have em1:∀ z:Int,0≤z % 2147483549+6733*C*C+401*C+173∧z % 2147483549+6733*C*C+401*C+173<100000000000000:=fun z=>by
   generalize 6733*C*C=u at *
   omega
 have mo5:∀ z:Int,VL.MulOk (z % 2147483549+6733*C*C+401*C+173) (z % 2147483549+6733*C*C+401*C+173)=True:=fun z=>eq_true (.inl (.inl ⟨by have:=em1 z; omega,by have:=em1 z; omega⟩))
 have mo6:∀ z:Int,VL.MulOk (z % 2147483629) (z % 2147483629)=True:=fun z=>eq_true (.inl (.inl ⟨by omega,by omega⟩))
 have mo7:∀ z:Int,VL.MulOk 17 (z % 2147483629)=True:=fun z=>eq_true (.inl (.inl ⟨by omega,by omega⟩))
 have rt:∀ (d:D) (a b:VL.C),VL.ret 0 (a::X) d (b::X) = .ok d (b::X):=fun _ _ _=>ret_len rfl
 unfold F__law_pull
 rw[E8]; simp only[List.map_cons,List.map_nil,List.length_cons,List.length_nil,Nat.reduceAdd,Nat.reduceSub,List.replicate_succ,List.replicate_zero,List.cons_append,List.nil_append]
 unfold B__law_pull
 try simp -dsimp -implicitDefEqProofs [-ixD,-Int.toNat_natCast,-vIfE,↓A7,↓B1,↓B5,↓A9,↓D0,↓D6,↓E4,↓F4,↓E6,↓D9,↓E3,↓F6,↓F5,↓F9,↓F3,↓F1,↓E5,↓F0,↓E7,↓F7,↓F8,↓B7,↓B6,↓C6,↓B8,↓C4,↓C5,↓A8,↓C3,↓B4,↓C7,↓A6,↓B9,↓C2,↓C9,↓C8,↓E8,mk,G0,G1,G5,G6,G7,G8,G9,H9,I6,I7,I8,I9,J0,J3,J4,J5,J6,J7,J8,J9,K0,K3,-setD,-lenD,co_0,co_1,co_2,co_3,so_1,so_2,so_3,hm,dm,rt]
 refine⟨fun z=>⟨B % m,A,B / m,rfl,rfl,Int.emod_nonneg _ (by omega),Int.emod_lt_of_pos _ h0,hA⟩,fun z=>?_⟩
 refine wp_cut (fun d s=>Hold (∃ z,d = .int z∧s=coC ns B (C+1) (A+1)::X)) ?_ ?_
 · by_cases e:ns=[]
   · subst e
     have q:=ne (coC [] B (C+1) (A+1)::X)
     simp only[List.map_nil,List.isEmpty_nil] at q
     try simp -dsimp -implicitDefEqProofs [-ixD,-Int.toNat_natCast,↓A7,↓B1,↓B5,↓A9,↓D0,↓D6,↓E4,↓F4,↓E6,↓D9,↓E3,↓F6,↓F5,↓E9,↓F9,↓F3,↓F1,↓E5,↓F0,↓E7,↓F7,↓F8,↓B7,↓B6,↓C6,↓B8,↓C4,↓C5,↓A8,↓C3,↓B4,↓C7,↓A6,↓B9,↓C2,↓C9,↓C8,↓E8,mk,G0,G1,G5,G6,G7,G8,G9,H9,I6,I7,I8,I9,J0,J3,J4,J5,J6,J7,J8,J9,K0,K3,-eqD,co_0,q]
     all_goals exact⟨8,rfl,rfl⟩
   · have hp:0<ns.length:=List.length_pos_iff.mpr e
     have em:ns.isEmpty=false:=by cases ns <;> simp_all
     have q:=ne (coC ns B (C+1) (A+1)::X)
     rw[em] at q
     try simp -dsimp -implicitDefEqProofs [-ixD,-Int.toNat_natCast,↓A7,↓B1,↓B5,↓A9,↓D0,↓D6,↓E4,↓F4,↓E6,↓D9,↓E3,↓F6,↓F5,↓E9,↓F9,↓F3,↓F1,↓E5,↓F0,↓E7,↓F7,↓F8,↓B7,↓B6,↓C6,↓B8,↓C4,↓C5,↓A8,↓C3,↓B4,↓C7,↓A6,↓B9,↓C2,↓C9,↓C8,↓E8,mk,G0,G1,G5,G6,G7,G8,G9,H9,I6,I7,I8,I9,J0,J3,J4,J5,J6,J7,J8,J9,K0,K3,-eqD,-lenD,ln,co_0,q,hp]
     have h1:=Int.emod_nonneg A (show (ns.length:Int)≠0 by omega)
     have h2:=Int.emod_lt_of_pos A (show (0:Int)<ns.length by omega)
     refine wp_ix h1 (by rw[List.length_map]; exact h2) ?_
     intro d hd
     obtain⟨v,_,rfl⟩:=List.mem_map.mp hd
     exact⟨v,rfl,rfl⟩
 rintro d s ⟨z2,e1,e2⟩
 subst e1
 subst e2
 try simp -dsimp -implicitDefEqProofs [-ixD,-Int.toNat_natCast,↓A7,↓B1,↓B5,↓A9,↓D0,↓D6,↓E4,↓F4,↓E6,↓D9,↓E3,↓F6,↓F5,↓E9,↓F9,↓F3,↓F1,↓E5,↓F0,↓E7,↓F7,↓F8,↓B7,↓B6,↓C6,↓B8,↓C4,↓C5,↓A8,↓C3,↓B4,↓C7,↓A6,↓B9,↓C2,↓C9,↓C8,↓E8,mk,G0,G1,G5,G6,G7,G8,G9,H9,I6,I7,I8,I9,J0,J3,J4,J5,J6,J7,J8,J9,K0,K3,-setD,-lenD,ln,co_0,so_1,pw,mo1,mo2,mo3,mo4,mo5,mo6,mo7,hm,dm,rt]
 refine⟨fun y1=>⟨fun y2=>?_,fun y2=>?_⟩,fun y1=>?_⟩
 · exact⟨z2 % m,A+1,z2 / m,rfl,rfl,Int.emod_nonneg _ (by omega),Int.emod_lt_of_pos _ h0,by omega⟩
 · exact⟨_,A+1,B,rfl,rfl,Int.emod_nonneg _ (by omega),Int.emod_lt_of_pos _ h0,by omega⟩
 · exact⟨_,A+1,B,rfl,rfl,Int.emod_nonneg _ (by omega),Int.emod_lt_of_pos _ h0,by omega⟩
end
/-- the coil stands first,then X; so many draws were made at most -/
structure Cq (ns:List Int) (n:Nat) (X S:AS):Prop where
 ln:S.length=X.length+1
 ex:∃ A B C,S=coC ns B C A::X∧0≤A∧0≤C∧C≤n
theorem Cq.mono {ns:List Int} {n k:Nat} {X S:AS} (q:Cq ns n X S) (h:n≤k):Cq ns k X S:=by
 obtain⟨l,A,B,C,e,a,b,c⟩:=q
 exact⟨l,A,B,C,e,a,b,by omega⟩
section
variable {ns:List Int} {n:Nat} {m:Int} {S X Y:AS} {Q:D→AS→Prop} {E:XQ}
theorem Cq.push (q:Cq ns n X S) (Y:AS):Cq ns n (X++Y) (S++Y):=by
 obtain⟨l,A,B,C,rfl,a,b,c⟩:=q
 exact⟨by simp,A,B,C,rfl,a,b,c⟩
theorem Cq.pop (q:Cq ns n (X++Y) S):∃ S1,S=S1++Y∧Cq ns n X S1:=by
 obtain⟨l,A,B,C,rfl,a,b,c⟩:=q
 exact⟨coC ns B C A::X,rfl,rfl,A,B,C,rfl,a,b,c⟩
theorem wp_pull (q : Cq ns n X S) (hn : n < 100000) (h0 : 0 < m) (h1 : m < 4611686018427387904)
   (h:∀ r S1,0≤r→r<m→S1.length=X.length+1→Cq ns (n+1) X S1→Q (.int r) (S1++Y)):(F__law_pull [.ref 0,.int m] (S++Y)).wp Q E:=by
 obtain⟨l,A,B,C,rfl,a,b,c⟩:=q
 obtain⟨d,S',e,r,A',B',rfl,rfl,r0,r1,a'⟩:=(pull_ok (ns:=ns) (B:=B) (X:=X++Y) h0 h1 a b (by omega:C≤100000)).eq
 exact wp_of e (h r (coC ns B' (C+1) A'::X) r0 r1 rfl ⟨rfl,A',B',C+1,rfl,a',by omega,by omega⟩)
theorem wp_pull0 (q : Cq ns n X S) (hn : n < 100000) (h0 : 0 < m) (h1 : m < 4611686018427387904)
   (h:∀ r S1,0≤r→r<m→S1.length=X.length+1→Cq ns (n+1) X S1→Q (.int r) S1):(F__law_pull [.ref 0,.int m] S).wp Q E:=by
 have:=wp_pull (Y:=[]) (Q:=Q) (E:=E) q hn h0 h1 (by simpa using h)
 simpa using this
theorem co_low {B C A:Int} {k:Nat}:(coC ns B C A).low k=true:=by
 have h:∀ l:List Int,D.lows k (l.map D.int)=true:=fun l=>pures_low _ (by
   induction l with
   | nil=>rfl
   | cons x l ih=>rw[List.map_cons,D.pures,ih]; rfl)
 simp[coC,VL.C.low,D.lows,D.low,h]
theorem ret_co {frz:Nat} {S0:AS} {d:D} {n0:Nat} (q0:Cq ns n0 X S0) (q:Cq ns n X S) (hp:d.pure=true):VL.ret frz S0 d (S++Y) = .ok d S:=by
 obtain⟨l0,A0,B0,C0,rfl,_,_,_⟩:=q0
 obtain⟨l,A,B,C,rfl,_,_,_⟩:=q
 cases Y with
 | nil =>
   rw[List.append_nil]
   exact ret_len rfl
 | cons y Y =>
   unfold VL.ret
   have ov:OkOver (coC ns B0 C0 A0::X) (coC ns B C A::X++y::Y):=fun i c hi hc=>by
     cases i with
     | zero =>
       right
       obtain rfl:coC ns B C A=c:=by simpa using hc
       exact co_low
     | succ i =>
       left
       rw[List.cons_append,List.getElem?_cons_succ,List.getElem?_append_left (by simpa using hi)] at hc
       exact hc
   rw[if_neg (by simp),pure_frz _ _ _ _ hp,if_pos ⟨pure_low _ hp,ov⟩]
   exact congrArg (Out.ok d) (List.take_left (l₁:=coC ns B C A::X) (l₂:=y::Y))
theorem wp_retC {frz:Nat} {S0:AS} {d:D} {n0:Nat} (q0:Cq ns n0 X S0) (q:Cq ns n X S) (hp:d.pure=true) (h:Q d S):(VL.ret frz S0 d (S++Y)).wp Q E:=by
 rw[ret_co q0 q hp]
 exact h
end
theorem f_coil (ns:List Int) (h:ns.length≤63):F__law_coil [.fzl (ns.map D.int)] [] = .ok (.ref 0) [coC ns 0 0 0]:=by
 have ct:VL.cut (ns.map D.int) none (some 63)=ns.map D.int:=by
   rw[cut_to _ 63 (by decide)]
   exact List.take_of_length_le (by simpa using h)
 have z4:(4:Nat)≤sizeLine:=by rw[sizeLine_eq]; omega
 have rt:VL.ret 0 [] (.ref 0) [coC ns 0 0 0] = .ok (.ref 0) [coC ns 0 0 0]:=by
   unfold VL.ret
   rw[if_neg (by simp),if_neg (fun z=>by
     have w:(D.ref 0).low 0=true:=z.1
     simp[D.low] at w)]
 simp -implicitDefEqProofs [F__law_coil,B__law_coil,mk,ct,z4]
 exact rt
end KT
namespace KT
open PySem VL G Kd W9 W26 WG TB
theorem eq_of_wpK {α:Type} {o:Out α} {a:α} {s:AS} (h:o.wp (fun d s'=>Hold (d=a∧s'=s)) noX):o = .ok a s:=by
 obtain⟨d,s',e,rfl,rfl⟩:=h.eq
 exact e
abbrev Jb:=Int × Int × Int
def eJb (j:Jb):D:=.tup [.int j.1,.int j.2.1,.int j.2.2]
abbrev entJ (js:List Jb):List Ent:=js.map fun j=>((j.1,j.2.1),j.2.2)
theorem S_jobs (P:Int × Int→Bool):∀ js:List Jb,S P (entJ js)=((js.filter fun j=>P (j.1,j.2.1)).map fun j=>j.2.2).sum
 | []=>rfl
 | j::js=>by
   show (if P (j.1,j.2.1)=true then j.2.2 else 0)+S P (entJ js)=_
   rw[S_jobs P js,List.filter_cons]
   cases P (j.1,j.2.1) <;> simp
theorem f_within (js:List Jb) (b e:Int) (hl:js.length≤1000) (X:AS):F_within [.tup (js.map eJb),.int b,.int e] X = .ok (.int (S (fun k=>decide (b≤k.1∧k.2≤e)) (entJ js))) X:=by
 have l1:js.length≤16000000:=by omega
 refine eq_of_wpK ?_
 unfold F_within
 rw[E8]; simp only[List.map_cons,List.map_nil,List.length_cons,List.length_nil,Nat.reduceAdd,Nat.reduceSub,List.replicate_succ,List.replicate_zero,List.cons_append,List.nil_append]
 unfold B_within
 try simp -dsimp -implicitDefEqProofs [-ixD,-Int.toNat_natCast,↓A7,↓B1,↓B5,↓A9,↓D0,↓D6,↓E4,↓F4,↓E6,↓D9,↓E3,↓F6,↓F5,↓E9,↓F9,↓F3,↓F1,↓E5,↓F0,↓E7,↓F7,↓F8,↓B7,↓B6,↓C6,↓B8,↓C4,↓C5,↓A8,↓C3,↓B4,↓C7,↓A6,↓B9,↓C2,↓C9,↓C8,↓E8,mk,G0,G1,G5,G6,G7,G8,G9,H9,I6,I7,I8,I9,J0,J3,J4,J5,J6,J7,J8,J9,K0,K3,l1]
 refine wp_of (comp_en eJb (fun j=>decide (b≤j.1∧j.2.1≤e)) (fun j=>D.int j.2.2) ok_nil js fun j _=>?_) ?_
 · refine⟨_,rfl,?_,fun _=>by simp[eJb]⟩
   by_cases z:b≤j.1 <;> simp[eJb,z]
 have es:((js.filter fun j=>decide (b≤j.1∧j.2.1≤e)).map fun j=>D.int j.2.2)=((js.filter fun j=>decide (b≤j.1∧j.2.1≤e)).map fun j=>j.2.2).map D.int:=by rw[List.map_map]; rfl
 have sj:=S_jobs (fun k=>decide (b≤k.1∧k.2≤e)) js
 rw[es]
 have SU:=sum_lst ((js.filter fun j=>decide (b≤j.1∧j.2.1≤e)).map fun j=>j.2.2) X
 rw[← sj] at SU
 have fl:(((js.filter fun j=>decide (b≤j.1∧j.2.1≤e)).map fun j=>j.2.2).map D.int).length≤16000000:=by
   rw[List.length_map,List.length_map]
   have:=List.length_filter_le (fun j:Jb=>decide (b≤j.1∧j.2.1≤e)) js
   omega
 generalize ((js.filter fun j=>decide (b≤j.1∧j.2.1≤e)).map fun j=>j.2.2).map D.int=LD at *
 generalize S (fun k=>decide (b≤k.1∧k.2≤e)) (entJ js)=s at *
 try simp -dsimp -implicitDefEqProofs [-ixD,-Int.toNat_natCast,↓A7,↓B1,↓B5,↓A9,↓D0,↓D6,↓E4,↓F4,↓E6,↓D9,↓E3,↓F6,↓F5,↓E9,↓F9,↓F3,↓F1,↓E5,↓F0,↓E7,↓F7,↓F8,↓B7,↓B6,↓C6,↓B8,↓C4,↓C5,↓A8,↓C3,↓B4,↓C7,↓A6,↓B9,↓C2,↓C9,↓C8,↓E8,mk,G0,G1,G5,G6,G7,G8,G9,H9,I6,I7,I8,I9,J0,J3,J4,J5,J6,J7,J8,J9,K0,K3,-sumD,SU,fl]
 exact⟨rfl,rfl⟩
theorem f_excess (js:List Jb) (f b e:Int) (hl:js.length≤1000) (hm:MulOk f (e-b)) (X:AS):F_excess [.tup (js.map eJb),.int f,.int b,.int e] X = .ok (.int (S (fun k=>decide (b≤k.1∧k.2≤e)) (entJ js)-f*(e-b))) X:=by
 have w:=f_within js b e hl
 generalize D.tup (js.map eJb)=JD at *
 generalize S (fun k=>decide (b≤k.1∧k.2≤e)) (entJ js)=s at *
 simp -implicitDefEqProofs [F_excess,B_excess,w,hm]
end KT
namespace KT
open PySem VL G Kd W9 W26 WG TB
structure JbOk (j:Jb):Prop where
 b:0≤j.1∧j.1≤400
 e:j.1≤j.2.1∧j.2.1≤500
 p:0≤j.2.2∧j.2.2≤7
structure Jobs (k:Nat) (js:List Jb):Prop where
 ln:js.length≤k
 ok:∀ j∈js,JbOk j
theorem eJb_pure (j:Jb):(eJb j).pure=true:=by simp[eJb,D.pure,D.pures]
theorem jobs_pure (js:List Jb):(D.tup (js.map eJb)).pure=true:=by rw[D.pure]; exact pures_mapF eJb eJb_pure js
theorem jadd (js:List Jb) (jo:∀ j∈js,JbOk j) (b e u:Int) (h1:0≤b) (h2:b≤400) (h3:b≤e) (h4:e≤500) (h5:0≤u) (h6:u≤7):∀ j∈js++[(b,e,u)],JbOk j:=fun j hj=>by
 rcases List.mem_append.mp hj with hj | hj
 · exact jo j hj
 · rw[List.mem_singleton.mp hj]
   exact⟨⟨h1,h2⟩,⟨h3,h4⟩,h5,h6⟩
section
variable {ns:List Int} {n:Nat} {X S Y:AS} {Q:D→AS→Prop} {E:XQ}
theorem jobs_ok (q : Cq ns n X S) (hn : n < 50000) {k : Nat} (hk : k ≤ 12) :
   (F__law_jobs_09f3 [.ref 0,.int k] S).wp (fun d S'=>Hold (∃ js,d = .tup (js.map eJb)∧Jobs k js∧Cq ns (n+200) X S')) noX:=by
 have q0:=q
 unfold F__law_jobs_09f3
 rw[E8]; simp only[List.map_cons,List.map_nil,List.length_cons,List.length_nil,Nat.reduceAdd,Nat.reduceSub,List.replicate_succ,List.replicate_zero,List.cons_append,List.nil_append]
 unfold B__law_jobs_09f3
 try simp -dsimp -implicitDefEqProofs [-ixD,-Int.toNat_natCast,↓A7,↓B1,↓B5,↓A9,↓D0,↓D6,↓E4,↓F4,↓E6,↓D9,↓E3,↓F6,↓F5,↓E9,↓F9,↓F3,↓F1,↓E5,↓F0,↓E7,↓F7,↓F8,↓B7,↓B6,↓C6,↓B8,↓C4,↓C5,↓A8,↓C3,↓B4,↓C7,↓A6,↓B9,↓C2,↓C9,↓C8,↓E8,mk,G0,G1,G5,G6,G7,G8,G9,H9,I6,I7,I8,I9,J0,J3,J4,J5,J6,J7,J8,J9,K0,K3]
 refine wp_pull0 q (by omega) (by omega) (by omega) ?_; intro r1 S z1 y1 ln q
 try simp -dsimp -implicitDefEqProofs [-ixD,-Int.toNat_natCast,↓A7,↓B1,↓B5,↓A9,↓D0,↓D6,↓E4,↓F4,↓E6,↓D9,↓E3,↓F6,↓F5,↓E9,↓F9,↓F3,↓F1,↓E5,↓F0,↓E7,↓F7,↓F8,↓B7,↓B6,↓C6,↓B8,↓C4,↓C5,↓A8,↓C3,↓B4,↓C7,↓A6,↓B9,↓C2,↓C9,↓C8,↓E8,mk,G0,G1,G5,G6,G7,G8,G9,H9,I6,I7,I8,I9,J0,J3,J4,J5,J6,J7,J8,J9,K0,K3]
 refine wp_pull0 q (by omega) (by omega) (by omega) ?_; intro r2 S z2 y2 ln q
 try simp -dsimp -implicitDefEqProofs [-ixD,-Int.toNat_natCast,↓A7,↓B1,↓B5,↓A9,↓D0,↓D6,↓E4,↓F4,↓E6,↓D9,↓E3,↓F6,↓F5,↓E9,↓F9,↓F3,↓F1,↓E5,↓F0,↓E7,↓F7,↓F8,↓B7,↓B6,↓C6,↓B8,↓C4,↓C5,↓A8,↓C3,↓B4,↓C7,↓A6,↓B9,↓C2,↓C9,↓C8,↓E8,mk,G0,G1,G5,G6,G7,G8,G9,H9,I6,I7,I8,I9,J0,J3,J4,J5,J6,J7,J8,J9,K0,K3]
 refine wp_ixIL [0,r1,380] 3 rfl rfl (by omega) (by omega) ?_; intro base hb
 have b9:0≤base∧base≤380:=by simp at hb; omega
 try simp -dsimp -implicitDefEqProofs [-ixD,-Int.toNat_natCast,↓A7,↓B1,↓B5,↓A9,↓D0,↓D6,↓E4,↓F4,↓E6,↓D9,↓E3,↓F6,↓F5,↓E9,↓F9,↓F3,↓F1,↓E5,↓F0,↓E7,↓F7,↓F8,↓B7,↓B6,↓C6,↓B8,↓C4,↓C5,↓A8,↓C3,↓B4,↓C7,↓A6,↓B9,↓C2,↓C9,↓C8,↓E8,mk,G0,G1,G5,G6,G7,G8,G9,H9,I6,I7,I8,I9,J0,J3,J4,J5,J6,J7,J8,J9,K0,K3,ln]
 refine wp_pull q (by omega) (by omega) (by omega) ?_; intro r3 S z3 y3 ln q
 obtain⟨c,rfl⟩:∃ c:Nat,r3=c:=⟨r3.toNat,by omega⟩
 try simp -dsimp -implicitDefEqProofs [-ixD,-Int.toNat_natCast,↓A7,↓B1,↓B5,↓A9,↓D0,↓D6,↓E4,↓F4,↓E6,↓D9,↓E3,↓F6,↓F5,↓E9,↓F9,↓F3,↓F1,↓E5,↓F0,↓E7,↓F7,↓F8,↓B7,↓B6,↓C6,↓B8,↓C4,↓C5,↓A8,↓C3,↓B4,↓C7,↓A6,↓B9,↓C2,↓C9,↓C8,↓E8,mk,G0,G1,G5,G6,G7,G8,G9,H9,I6,I7,I8,I9,J0,J3,J4,J5,J6,J7,J8,J9,K0,K3,rng1_ok (j:=(c:Int)) (by omega) (by omega)]
 simp only[Int.toNat_natCast,rgL_0]
 refine wp_for0 (fun ds env S'=>Hold (∃ (js:List Jb) (S:AS),ds=rgL c js.length∧env=[some (.ref 0),some (.int k),some (.int base),some (.ref (X.length+1)),none,none,none]∧S'=S++[.lst (js.map eJb)]∧Cq ns (n+3+10*js.length) X S∧js.length≤c ∧ ∀ j∈js,JbOk j)) ?_ ?_ ?_
 · exact⟨[],S,rfl,rfl,rfl,q.mono (by simp),by simp,by simp⟩
 · rintro d ds env S' ⟨js,S,e1,e4,e5,q,jl,jo⟩
   subst e4
   subst e5
   obtain⟨hj,rfl,rfl⟩:=rgL_at e1
   have ln:=q.ln
   try simp -dsimp -implicitDefEqProofs [-ixD,-Int.toNat_natCast,↓A7,↓B1,↓B5,↓A9,↓D0,↓D6,↓E4,↓F4,↓E6,↓D9,↓E3,↓F6,↓F5,↓E9,↓F9,↓F3,↓F1,↓E5,↓F0,↓E7,↓F7,↓F8,↓B7,↓B6,↓C6,↓B8,↓C4,↓C5,↓A8,↓C3,↓B4,↓C7,↓A6,↓B9,↓C2,↓C9,↓C8,↓E8,mk,G0,G1,G5,G6,G7,G8,G9,H9,I6,I7,I8,I9,J0,J3,J4,J5,J6,J7,J8,J9,K0,K3]
   refine wp_pull q (by omega) (by omega) (by omega) ?_; intro r4 S z4 y4 ln q
   try simp -dsimp -implicitDefEqProofs [-ixD,-Int.toNat_natCast,↓A7,↓B1,↓B5,↓A9,↓D0,↓D6,↓E4,↓F4,↓E6,↓D9,↓E3,↓F6,↓F5,↓E9,↓F9,↓F3,↓F1,↓E5,↓F0,↓E7,↓F7,↓F8,↓B7,↓B6,↓C6,↓B8,↓C4,↓C5,↓A8,↓C3,↓B4,↓C7,↓A6,↓B9,↓C2,↓C9,↓C8,↓E8,mk,G0,G1,G5,G6,G7,G8,G9,H9,I6,I7,I8,I9,J0,J3,J4,J5,J6,J7,J8,J9,K0,K3]
   refine wp_pull q (by omega) (by omega) (by omega) ?_; intro r5 S z5 y5 ln q
   try simp -dsimp -implicitDefEqProofs [-ixD,-Int.toNat_natCast,↓A7,↓B1,↓B5,↓A9,↓D0,↓D6,↓E4,↓F4,↓E6,↓D9,↓E3,↓F6,↓F5,↓E9,↓F9,↓F3,↓F1,↓E5,↓F0,↓E7,↓F7,↓F8,↓B7,↓B6,↓C6,↓B8,↓C4,↓C5,↓A8,↓C3,↓B4,↓C7,↓A6,↓B9,↓C2,↓C9,↓C8,↓E8,mk,G0,G1,G5,G6,G7,G8,G9,H9,I6,I7,I8,I9,J0,J3,J4,J5,J6,J7,J8,J9,K0,K3]
   refine wp_pull q (by omega) (by omega) (by omega) ?_; intro r6 S z6 y6 ln q
   try simp -dsimp -implicitDefEqProofs [-ixD,-Int.toNat_natCast,↓A7,↓B1,↓B5,↓A9,↓D0,↓D6,↓E4,↓F4,↓E6,↓D9,↓E3,↓F6,↓F5,↓E9,↓F9,↓F3,↓F1,↓E5,↓F0,↓E7,↓F7,↓F8,↓B7,↓B6,↓C6,↓B8,↓C4,↓C5,↓A8,↓C3,↓B4,↓C7,↓A6,↓B9,↓C2,↓C9,↓C8,↓E8,mk,G0,G1,G5,G6,G7,G8,G9,H9,I6,I7,I8,I9,J0,J3,J4,J5,J6,J7,J8,J9,K0,K3]
   refine wp_ixIL [1,2,3,4,6,1+r5] 6 rfl rfl (by omega) (by omega) ?_; intro v hv
   have v9:1≤v∧v≤9:=by simp at hv; omega
   try simp -dsimp -implicitDefEqProofs [-ixD,-Int.toNat_natCast,↓A7,↓B1,↓B5,↓A9,↓D0,↓D6,↓E4,↓F4,↓E6,↓D9,↓E3,↓F6,↓F5,↓E9,↓F9,↓F3,↓F1,↓E5,↓F0,↓E7,↓F7,↓F8,↓B7,↓B6,↓C6,↓B8,↓C4,↓C5,↓A8,↓C3,↓B4,↓C7,↓A6,↓B9,↓C2,↓C9,↓C8,↓E8,mk,G0,G1,G5,G6,G7,G8,G9,H9,I6,I7,I8,I9,J0,J3,J4,J5,J6,J7,J8,J9,K0,K3]
   refine wp_pull q (by omega) (by omega) (by omega) ?_; intro r7 S z7 y7 ln q
   try simp -dsimp -implicitDefEqProofs [-ixD,-Int.toNat_natCast,↓A7,↓B1,↓B5,↓A9,↓D0,↓D6,↓E4,↓F4,↓E6,↓D9,↓E3,↓F6,↓F5,↓E9,↓F9,↓F3,↓F1,↓E5,↓F0,↓E7,↓F7,↓F8,↓B7,↓B6,↓C6,↓B8,↓C4,↓C5,↓A8,↓C3,↓B4,↓C7,↓A6,↓B9,↓C2,↓C9,↓C8,↓E8,mk,G0,G1,G5,G6,G7,G8,G9,H9,I6,I7,I8,I9,J0,J3,J4,J5,J6,J7,J8,J9,K0,K3,ln]
   refine⟨fun z=>?_,fun z=>?_⟩
   · try simp -dsimp -implicitDefEqProofs [-ixD,-Int.toNat_natCast,↓A7,↓B1,↓B5,↓A9,↓D0,↓D6,↓E4,↓F4,↓E6,↓D9,↓E3,↓F6,↓F5,↓E9,↓F9,↓F3,↓F1,↓E5,↓F0,↓E7,↓F7,↓F8,↓B7,↓B6,↓C6,↓B8,↓C4,↓C5,↓A8,↓C3,↓B4,↓C7,↓A6,↓B9,↓C2,↓C9,↓C8,↓E8,mk,G0,G1,G5,G6,G7,G8,G9,H9,I6,I7,I8,I9,J0,J3,J4,J5,J6,J7,J8,J9,K0,K3,ln]
     refine wp_pull q (by omega) (by omega) (by omega) ?_; intro r8 S z8 y8 ln q
     try simp -dsimp -implicitDefEqProofs [-ixD,-Int.toNat_natCast,↓A7,↓B1,↓B5,↓A9,↓D0,↓D6,↓E4,↓F4,↓E6,↓D9,↓E3,↓F6,↓F5,↓E9,↓F9,↓F3,↓F1,↓E5,↓F0,↓E7,↓F7,↓F8,↓B7,↓B6,↓C6,↓B8,↓C4,↓C5,↓A8,↓C3,↓B4,↓C7,↓A6,↓B9,↓C2,↓C9,↓C8,↓E8,mk,G0,G1,G5,G6,G7,G8,G9,H9,I6,I7,I8,I9,J0,J3,J4,J5,J6,J7,J8,J9,K0,K3,ln]
     refine wp_pull q (by omega) (by omega) (by omega) ?_; intro r9 S z9 y9 ln q
     try simp -dsimp -implicitDefEqProofs [-ixD,-Int.toNat_natCast,↓A7,↓B1,↓B5,↓A9,↓D0,↓D6,↓E4,↓F4,↓E6,↓D9,↓E3,↓F6,↓F5,↓E9,↓F9,↓F3,↓F1,↓E5,↓F0,↓E7,↓F7,↓F8,↓B7,↓B6,↓C6,↓B8,↓C4,↓C5,↓A8,↓C3,↓B4,↓C7,↓A6,↓B9,↓C2,↓C9,↓C8,↓E8,mk,G0,G1,G5,G6,G7,G8,G9,H9,I6,I7,I8,I9,J0,J3,J4,J5,J6,J7,J8,J9,K0,K3,ln]
     refine wp_ixIL [r8,1,2,0,3,7] 6 rfl rfl (by omega) (by omega) ?_; intro u hu
     have u9:0≤u∧u≤7:=by simp at hu; omega
     try simp -dsimp -implicitDefEqProofs [-ixD,-Int.toNat_natCast,↓A7,↓B1,↓B5,↓A9,↓D0,↓D6,↓E4,↓F4,↓E6,↓D9,↓E3,↓F6,↓F5,↓E9,↓F9,↓F3,↓F1,↓E5,↓F0,↓E7,↓F7,↓F8,↓B7,↓B6,↓C6,↓B8,↓C4,↓C5,↓A8,↓C3,↓B4,↓C7,↓A6,↓B9,↓C2,↓C9,↓C8,↓E8,mk,G0,G1,G5,G6,G7,G8,G9,H9,I6,I7,I8,I9,J0,J3,J4,J5,J6,J7,J8,J9,K0,K3,ln,show js.length<16000000 by omega]
     exact⟨js++[(base+r4,base+r4,u)],S,by simp,rfl,by simp[eJb],q.mono (by simp; omega),by simp; omega,jadd js jo (base+r4) (base+r4) u (by omega) (by omega) (by omega) (by omega) (by omega) (by omega)⟩
   · try simp -dsimp -implicitDefEqProofs [-ixD,-Int.toNat_natCast,↓A7,↓B1,↓B5,↓A9,↓D0,↓D6,↓E4,↓F4,↓E6,↓D9,↓E3,↓F6,↓F5,↓E9,↓F9,↓F3,↓F1,↓E5,↓F0,↓E7,↓F7,↓F8,↓B7,↓B6,↓C6,↓B8,↓C4,↓C5,↓A8,↓C3,↓B4,↓C7,↓A6,↓B9,↓C2,↓C9,↓C8,↓E8,mk,G0,G1,G5,G6,G7,G8,G9,H9,I6,I7,I8,I9,J0,J3,J4,J5,J6,J7,J8,J9,K0,K3,ln]
     refine wp_pull q (by omega) (by omega) (by omega) ?_; intro r8 S z8 y8 ln q
     try simp -dsimp -implicitDefEqProofs [-ixD,-Int.toNat_natCast,↓A7,↓B1,↓B5,↓A9,↓D0,↓D6,↓E4,↓F4,↓E6,↓D9,↓E3,↓F6,↓F5,↓E9,↓F9,↓F3,↓F1,↓E5,↓F0,↓E7,↓F7,↓F8,↓B7,↓B6,↓C6,↓B8,↓C4,↓C5,↓A8,↓C3,↓B4,↓C7,↓A6,↓B9,↓C2,↓C9,↓C8,↓E8,mk,G0,G1,G5,G6,G7,G8,G9,H9,I6,I7,I8,I9,J0,J3,J4,J5,J6,J7,J8,J9,K0,K3,ln]
     refine wp_pull q (by omega) (by omega) (by omega) ?_; intro r9 S z9 y9 ln q
     try simp -dsimp -implicitDefEqProofs [-ixD,-Int.toNat_natCast,↓A7,↓B1,↓B5,↓A9,↓D0,↓D6,↓E4,↓F4,↓E6,↓D9,↓E3,↓F6,↓F5,↓E9,↓F9,↓F3,↓F1,↓E5,↓F0,↓E7,↓F7,↓F8,↓B7,↓B6,↓C6,↓B8,↓C4,↓C5,↓A8,↓C3,↓B4,↓C7,↓A6,↓B9,↓C2,↓C9,↓C8,↓E8,mk,G0,G1,G5,G6,G7,G8,G9,H9,I6,I7,I8,I9,J0,J3,J4,J5,J6,J7,J8,J9,K0,K3,ln]
     refine wp_ixIL [r8,1,2,0,3,7] 6 rfl rfl (by omega) (by omega) ?_; intro u hu
     have u9:0≤u∧u≤7:=by simp at hu; omega
     try simp -dsimp -implicitDefEqProofs [-ixD,-Int.toNat_natCast,↓A7,↓B1,↓B5,↓A9,↓D0,↓D6,↓E4,↓F4,↓E6,↓D9,↓E3,↓F6,↓F5,↓E9,↓F9,↓F3,↓F1,↓E5,↓F0,↓E7,↓F7,↓F8,↓B7,↓B6,↓C6,↓B8,↓C4,↓C5,↓A8,↓C3,↓B4,↓C7,↓A6,↓B9,↓C2,↓C9,↓C8,↓E8,mk,G0,G1,G5,G6,G7,G8,G9,H9,I6,I7,I8,I9,J0,J3,J4,J5,J6,J7,J8,J9,K0,K3,ln,show js.length<16000000 by omega]
     exact⟨js++[(base+r4,base+r4+v,u)],S,by simp,rfl,by simp[eJb],q.mono (by simp; omega),by simp; omega,jadd js jo (base+r4) (base+r4+v) u (by omega) (by omega) (by omega) (by omega) (by omega) (by omega)⟩
 · rintro env S' ⟨js,S,e1,e4,e5,q,jl,jo⟩
   subst e4
   subst e5
   have ln:=q.ln
   try simp -dsimp -implicitDefEqProofs [-ixD,-Int.toNat_natCast,↓A7,↓B1,↓B5,↓A9,↓D0,↓D6,↓E4,↓F4,↓E6,↓D9,↓E3,↓F6,↓F5,↓E9,↓F9,↓F3,↓F1,↓E5,↓F0,↓E7,↓F7,↓F8,↓B7,↓B6,↓C6,↓B8,↓C4,↓C5,↓A8,↓C3,↓B4,↓C7,↓A6,↓B9,↓C2,↓C9,↓C8,↓E8,mk,G0,G1,G5,G6,G7,G8,G9,H9,I6,I7,I8,I9,J0,J3,J4,J5,J6,J7,J8,J9,K0,K3,ln,show js.length≤16000000 by omega]
   exact wp_retC q0 q (jobs_pure js) ⟨js,rfl,⟨by omega,jo⟩,q.mono (by omega)⟩
theorem wp_jobs (q:Cq ns n X S) (hn:n<50000) {k:Nat} (hk:k≤12) (h:∀ js S1,Jobs k js→S1.length=X.length+1→Cq ns (n+200) X S1→Q (.tup (js.map eJb)) (S1++Y)):(F__law_jobs_09f3 [.ref 0,.int k] (S++Y)).wp Q E:=by
 obtain⟨d,S',e,js,rfl,J,q1⟩:=(jobs_ok (q.push Y) hn hk).eq
 obtain⟨S1,rfl,q2⟩:=q1.pop
 exact wp_of e (h js S1 J q2.ln q2)
theorem wp_jobs0 (q:Cq ns n X S) (hn:n<50000) {k:Nat} (hk:k≤12) (h:∀ js S1,Jobs k js→S1.length=X.length+1→Cq ns (n+200) X S1→Q (.tup (js.map eJb)) S1):(F__law_jobs_09f3 [.ref 0,.int k] S).wp Q E:=by
 have:=wp_jobs (Y:=[]) (Q:=Q) (E:=E) q hn hk (by simpa using h)
 simpa using this
end
end KT
namespace Kd
open PySem PySem.Spec PyProof.Rows L2 TB VL G K02
end Kd
namespace Kd
open PySem PySem.Spec PyProof.Rows L2 TB VL G K02
structure PrOk (ps:List (Int × Int)) (b:Int):Prop where
 b0:0≤b
 mem:∀ p∈ps,0≤p.1∧p.1<b∧0≤p.2∧p.2≤100000
 pw:ps.Pairwise fun p q=>p.1<q.1
 hd:∀ p r,ps=p::r→p.1=0
 no:ps=[]→b=0
 bl:b≤40000*ps.length
end Kd
namespace Kd
open PySem PySem.Spec PyProof.Rows L2 TB VL G K02
end Kd
namespace Kd
open PySem PySem.Spec PyProof.Rows L2 TB VL G K02
structure OffOk (o:List Str × Int × Int × Int):Prop where
 w:∀ x∈o.1,wordS x=true
 ris:ris o.1=true
 len:o.1.length≤13
 a0:0≤o.2.1
 a1:o.2.1≤100000
 b0:0≤o.2.2.1
 b1:o.2.2.1≤200000
 c0:0≤o.2.2.2
 c1:o.2.2.2≤100
end Kd
namespace Kd
open PySem PySem.Spec PyProof.Rows L2 TB VL G K02
theorem word_at {x:Str} (h:wordS x=true):Ats 0 (.str x):=by
 obtain⟨cs,rfl,w⟩:=word_mk h
 have:=w.n1
 simp only[Ats]
 refine⟨fun c hc=>?_,by rw[mkS_len]; omega⟩
 rw[mkS_cps] at hc
 have:=(w.lt c hc).2
 omega
theorem big690 {i:Int} {j:Nat} (h:i.natAbs<2^64):i.natAbs<2^(700+j):=Nat.lt_of_lt_of_le h (Nat.pow_le_pow_right (by decide) (by omega))
theorem ok_int {m k j:Nat} {i:Int} (h:i.natAbs<2^(700+j)):Ok (m+1) k j (.int i):=⟨by simp[pln],by rw[D.py]; exact⟨by simp[sz],by simp[PyData.depth],by simpa [Ats] using h⟩⟩
/-- a tuple,a list of things that are Ok -/
theorem szs_le {c:Nat}:∀ {ds:List PyData},(∀ d∈ds,sz d≤c)→szs ds≤ds.length*c
 | [],_=>by simp[szs]
 | d::ds,h=>by
   have h1:=h d List.mem_cons_self
   have h2:=szs_le fun x hx=>h x (List.mem_cons_of_mem _ hx)
   simp only[szs,List.length_cons,Nat.add_mul]
   omega
theorem ok_tup {c k j:Nat} {ds:List D} (h:∀ d∈ds,Ok c k j d):Ok (ds.length*c+1) (k+1) j (.tup ds):=by
 refine⟨by rw[pln,plns_eq,List.all_eq_true]; exact fun d hd=>(h d hd).p,?_⟩
 rw[D.py,pys_map]
 refine fit_tup (by
   have:=szs_le (c:=c) (ds:=ds.map D.py) fun d hd=>by
     obtain⟨x,hx,rfl⟩:=List.mem_map.mp hd
     exact (h x hx).f.sz
   rwa [List.length_map] at this) fun d hd=>?_
 obtain⟨x,hx,rfl⟩:=List.mem_map.mp hd
 exact⟨(h x hx).f.dp,(h x hx).f.at_⟩
theorem Ok.mono {m k j m' k' j':Nat} {d:D} (h:Ok m k j d) (a:m≤m') (b:k≤k') (c:j≤j'):Ok m' k' j' d:=⟨h.p,h.f.mono a b c⟩
theorem ok_str {m k j:Nat} {x:Str} (h:Ats j (.str x)):Ok (m+1) k j (.str x):=⟨by simp[pln],by rw[D.py]; exact⟨by simp[sz],by simp[PyData.depth],h⟩⟩
theorem OffOk.ok {o:List Str × Int × Int × Int} (h:OffOk o):Ok 18 2 0 (eOff o):=by
 obtain⟨its,a,b,c⟩:=o
 have hl:=h.len
 have h1:Ok (its.length*1+1) 1 0 (.tup (its.map D.str)):=by
   have:=ok_tup (c:=1) (k:=0) (j:=0) (ds:=its.map D.str) fun d hd=>by
     obtain⟨x,hx,rfl⟩:=List.mem_map.mp hd
     exact ok_str (m:=0) (word_at (h.w x hx))
   rwa [List.length_map] at this
 have i1:Ok 1 1 0 (.int a):=ok_int (m:=0) (big690 (by have:=h.a0; have:=h.a1; simp only at *; omega))
 have i2:Ok 1 1 0 (.int b):=ok_int (m:=0) (big690 (by have:=h.b0; have:=h.b1; simp only at *; omega))
 have i3:Ok 1 1 0 (.int c):=ok_int (m:=0) (big690 (by have:=h.c0; have:=h.c1; simp only at *; omega))
 simp only at hl
 have hpl:=h1.p
 rw[pln] at hpl
 refine⟨by simp[eOff,pln,plns,hpl],?_⟩
 rw[eOff,D.py,pys_map]
 refine fit_tup (m:=17) (k:=1) ?_ fun d hd=>?_
 · have z1:=h1.f.sz
   have z2:=i1.f.sz
   have z3:=i2.f.sz
   have z4:=i3.f.sz
   simp only[List.map_cons,List.map_nil,szs]
   omega
 · simp only[List.map_cons,List.map_nil,List.mem_cons,List.not_mem_nil,or_false] at hd
   rcases hd with rfl | rfl | rfl | rfl
   · exact⟨h1.f.dp,h1.f.at_⟩
   · exact⟨i1.f.dp,i1.f.at_⟩
   · exact⟨i2.f.dp,i2.f.at_⟩
   · exact⟨i3.f.dp,i3.f.at_⟩
end Kd
namespace Kd
open PySem PySem.Spec PyProof.Rows L2 TB VL G K02
/-- a tuple,by its parts' sizes together -/
theorem ok_tupS {m k j:Nat} {ds:List D} (hp:∀ d∈ds,pln d=true∧PyData.depth d.py≤k∧Ats j d.py) (hs:szs (ds.map D.py)≤m):Ok (m+1) (k+1) j (.tup ds):=by
 refine⟨by rw[pln,plns_eq,List.all_eq_true]; exact fun d hd=>(hp d hd).1,?_⟩
 rw[D.py,pys_map]
 refine fit_tup hs fun d hd=>?_
 obtain⟨x,hx,rfl⟩:=List.mem_map.mp hd
 exact (hp x hx).2
theorem ok_lstS {m k j:Nat} {ds:List D} (hp:∀ d∈ds,pln d=true∧PyData.depth d.py≤k∧Ats j d.py) (hs:szs (ds.map D.py)≤m):Ok (m+1) (k+1) j (.lst ds):=by
 refine⟨by rw[pln,plns_eq,List.all_eq_true]; exact fun d hd=>(hp d hd).1,?_⟩
 rw[D.py,pys_map]
 refine fit_lst hs fun d hd=>?_
 obtain⟨x,hx,rfl⟩:=List.mem_map.mp hd
 exact (hp x hx).2
theorem Ok.parts {m k j:Nat} {ds:List D} (h:Ok m k j (.tup ds)):1+szs (ds.map D.py)≤m∧1≤k ∧ ∀ d∈ds,pln d=true∧PyData.depth d.py≤k-1∧Ats j d.py:=by
 have hp:=h.p
 rw[pln,plns_eq,List.all_eq_true] at hp
 have hf:=h.f
 rw[D.py,pys_map] at hf
 have h1:=hf.sz
 rw[sz_tup] at h1
 have h2:=hf.dp
 rw[dep_tup] at h2
 have h3:=dep_all.mp (show PyData.depthAll (ds.map D.py)≤k-1 by omega)
 have h4:=Ats.tup.mp hf.at_
 exact⟨h1,by omega,fun d hd=>⟨hp d hd,h3 _ (List.mem_map_of_mem hd),h4 _ (List.mem_map_of_mem hd)⟩⟩
end Kd
namespace KT
open PySem VL G Kd W9 W26 WG TB
theorem ok_nil:Kd.Ok 1 1 0 (.tup []):=ok_tupS (m:=0) (k:=0) (by simp) (by simp[szs])
end KT
namespace WG
open PySem VL G Kd W9 W26
end WG
namespace G
open PySem VL
end G
namespace WG
open PySem VL G Kd W9 W26 TB
end WG
namespace WG
open PySem VL G Kd W9 W26 TB
/-- the dishes that rows tell were asked -/
theorem step_key {rs:List (Int × RowT)} {i:Dn} {n:Int} (h:n∈(rowsStep rs i).map (·.1)):n∈rs.map (·.1) ∨ ∃ it c ss,i.dd = .ask n it c ss:=by
 have put1:∀ (rs:List (Int × RowT)) k r,n∈(G.put rs k r).map (·.1)→n=k∨n∈rs.map (·.1):=fun rs k r h=>by
   rw[put_keys] at h
   split at h
   · exact .inr h
   · rcases List.mem_append.mp h with h | h
     · exact .inr h
     · exact .inl (List.mem_singleton.mp h)
 have st1:∀ (rs:List (Int × RowT)) k (f:RowT→RowT),n∈((match look rs k with | some r=>G.put rs k (f r) | none=>rs):List (Int × RowT)).map (·.1)→n∈rs.map (·.1):=fun rs k f h=>by
   cases e:look rs k with
   | none=>rw[e] at h; exact h
   | some r =>
     rw[e] at h
     rcases put1 rs k _ h with rfl | h
     · exact mem_keys.mp (has_of e)
     · exact h
 have fold1:∀ (ns:List Int) (rs:List (Int × RowT)),n∈((ns.foldl (fun rs n=>match look rs n with | some r=>G.put rs n { r with state:=Str.ofString "fired" } | none=>rs) rs):List (Int × RowT)).map (·.1)→n∈rs.map (·.1):=by
   intro ns
   induction ns with
   | nil=>exact fun rs h=>h
   | cons k ns ih=>exact fun rs h=>st1 rs k (fun r=>{ r with state:=Str.ofString "fired" }) (ih _ h)
 obtain⟨nm,dd,fd,mv⟩:=i
 cases dd with
 | ask k it c ss =>
   rcases put1 rs k _ h with rfl | h
   · exact .inr ⟨it,c,ss,rfl⟩
   · exact .inl h
 | change k it=>exact .inl (st1 rs k _ h)
 | fire t c=>exact .inl (fold1 _ rs h)
 | rush t c=>exact .inl (fold1 _ rs h)
 | serve k=>exact .inl (st1 rs k _ h)
 | back k=>exact .inl (st1 rs k _ h)
 | strike k=>exact .inl (st1 rs k _ h)
 | _=>exact .inl h
end WG
namespace WG
open PySem VL G Kd W9 W26 TB
end WG
namespace WG
open PySem VL G Kd W9 W26 TB
end WG
namespace WG
open PySem VL G Kd W9 W26 TB
def pastOf (n:Int) (i:Dn):List (Nm × Str):=match i.dd with
 | .ask k _ _ _=>if k=n then [(i.nm,Str.ofString "asked")] else []
 | .change k _=>if k=n then [(i.nm,Str.ofString "changed")] else []
 | .serve k=>if k=n then [(i.nm,Str.ofString "served")] else []
 | .back k=>if k=n then [(i.nm,Str.ofString "back")] else []
 | .strike k=>if k=n then [(i.nm,Str.ofString "struck")] else []
 | .fire _ _=>if n∈i.fd then [(i.nm,Str.ofString "fired")] else []
 | .rush _ _=>if n∈i.fd then [(i.nm,Str.ofString "fired")] else []
 | _=>[]
def pastL (is:List Dn) (n:Int):List (Nm × Str):=is.flatMap (pastOf n)
theorem past_app (is:List Dn) (i:Dn) (n:Int):pastL (is++[i]) n=pastL is n++pastOf n i:=by
 unfold pastL
 rw[List.flatMap_append]
 simp
theorem mem_putH {κ α:Type} [DecidableEq κ] {l:List (κ × α)} {k:κ} {v:α} (hk:has l k=true) {x:κ × α} (h:x∈G.put l k v):(x∈l∧x.1≠k)∨x=(k,v):=by
 unfold G.put at h
 rw[if_pos hk] at h
 obtain⟨y,hy,rfl⟩:=List.mem_map.mp h
 by_cases z:y.1=k
 · rw[if_pos z]
   right
   rw[z]
 · rw[if_neg z]
   exact .inl ⟨hy,z⟩
section
variable {m:Menu} {o:Offs} {w:W9.Wk} {s:LW}
/-- the pasts,and nothing of what was not asked -/
structure Pst (w:W9.Wk) (is:List Dn):Prop where
 d:∀ d∈w.dishes,d.2.2.past=pastL is d.1
 z:∀ n,has w.dishes n=false→pastL is n=[]
/-- one dish moves -/
theorem Pst.one (h:Pst w s.is) {n:Int} {p:Nat} {d:Dish} (e:look w.dishes n=some (p,d)) (i:Dn) (d':Dish) (x:Nm × Str) (hp:d'.past=d.past++[x]) (hi:∀ k,pastOf k i=if n=k then [x] else []) (w':W9.Wk) (hw:w'.dishes=G.put w.dishes n (p,d')):Pst w' (s.is++[i]):=by
 have hn:has w.dishes n=true:=has_of e
 refine⟨fun y hy=>?_,fun k hk=>?_⟩
 · rw[hw] at hy
   rw[past_app,hi]
   rcases mem_putH hn hy with⟨a,b⟩ | rfl
   · rw[if_neg (fun z=>b z.symm),List.append_nil]
     exact h.d y a
   · show d'.past=_
     rw[if_pos rfl,hp,h.d _ (look_mem e)]
 · rw[hw] at hk
   have k1:has w.dishes k=false:=by
     cases q:has w.dishes k with
     | false=>rfl
     | true =>
       rw[mem_keys] at q
       have:k∈(G.put w.dishes n (p,d')).map (·.1):=by rw[put_keys,if_pos hn]; exact q
       rw[mem_keys.mpr this] at hk
       cases hk
   rw[past_app,hi,h.z k k1,List.nil_append,if_neg]
   rintro rfl
   rw[hn] at k1
   cases k1
theorem Pst.same (h:Pst w s.is) (i:Dn) (hi:∀ k,pastOf k i=[]) (w':W9.Wk) (hw:w'.dishes=w.dishes):Pst w' (s.is++[i]) :=
 ⟨fun y hy=>by rw[hw] at hy; rw[past_app,hi,List.append_nil]; exact h.d y hy,fun k hk=>by rw[hw] at hk; rw[past_app,hi,List.append_nil]; exact h.z k hk⟩
end
end WG
namespace WG
open PySem VL G Kd W9 W26 TB
theorem mem_putX {κ α:Type} [DecidableEq κ] {l:List (κ × α)} {k:κ} {v:α} {x:κ × α} (h:x∈G.put l k v):(x∈l∧x.1≠k)∨x=(k,v):=by
 cases hk:has l k with
 | true=>exact mem_putH hk h
 | false =>
   unfold G.put at h
   rw[hk] at h
   simp only[Bool.false_eq_true,if_false] at h
   rcases List.mem_append.mp h with h | h
   · refine .inl ⟨h,fun z=>?_⟩
     have:=mem_keys.mpr (List.mem_map_of_mem (f:=(·.1)) h)
     rw[z,hk] at this
     cases this
   · exact .inr (List.mem_singleton.mp h)
theorem put_mono {κ α:Type} [DecidableEq κ] {l:List (κ × α)} {k n:κ} {v:α} (h:has l n=true):has (G.put l k v) n=true:=by
 rw[mem_keys,put_keys]
 rw[mem_keys] at h
 split
 · exact h
 · exact List.mem_append_left _ h
theorem put_has {κ α:Type} [DecidableEq κ] (l:List (κ × α)) (k:κ) (v:α):has (G.put l k v) k=true:=by
 rw[has_look,look_put,if_pos rfl]
 rfl
theorem step_mono {rs:List (Int × RowT)} {i:Dn} {n:Int} (h:has rs n=true):has (rowsStep rs i) n=true:=by
 have st1:∀ (rs:List (Int × RowT)) k (f:RowT→RowT),has rs n=true→has ((match look rs k with | some r=>G.put rs k (f r) | none=>rs):List (Int × RowT)) n=true:=fun rs k f h=>by
   cases look rs k with
   | none=>exact h
   | some r=>exact put_mono h
 have fold1:∀ (ns:List Int) (rs:List (Int × RowT)),has rs n=true→has ((ns.foldl (fun rs n=>match look rs n with | some r=>G.put rs n { r with state:=Str.ofString "fired" } | none=>rs) rs):List (Int × RowT)) n=true:=by
   intro ns
   induction ns with
   | nil=>exact fun rs h=>h
   | cons k ns ih=>exact fun rs h=>ih _ (st1 rs k (fun r=>{ r with state:=Str.ofString "fired" }) h)
 obtain⟨nm,dd,fd,mv⟩:=i
 cases dd with
 | ask k it c ss=>exact put_mono h
 | change k it=>exact st1 rs k _ h
 | fire t c=>exact fold1 _ rs h
 | rush t c=>exact fold1 _ rs h
 | serve k=>exact st1 rs k _ h
 | back k=>exact st1 rs k _ h
 | strike k=>exact st1 rs k _ h
 | _=>exact h
theorem rows_mono {n:Int}:∀ (is:List Dn) (rs:List (Int × RowT)),has rs n=true→has (is.foldl rowsStep rs) n=true
 | [],rs,h=>h
 | i::is,rs,h=>rows_mono is _ (step_mono h)
/-- nothing is told of what was not asked -/
theorem past_none {n:Int}:∀ (is:List Dn) (rs:List (Int × RowT)),Fits rs is→has (is.foldl rowsStep rs) n=false→pastL is n=[]
 | [],rs,_,_=>rfl
 | i::is,rs,hf,hn=>by
   have ih:=past_none is (rowsStep rs i) hf.2.2 hn
   show pastOf n i++pastL is n=[]
   rw[ih,List.append_nil]
   have f1:=hf.1
   have no:has rs n=true→False:=fun h=>by
     have:=rows_mono (i::is) rs h
     rw[hn] at this
     cases this
   have no2:has (rowsStep rs i) n=true→False:=fun h=>by
     have:=rows_mono is _ h
     rw[show is.foldl rowsStep (rowsStep rs i)=(i::is).foldl rowsStep rs from rfl,hn] at this
     cases this
   obtain⟨nm,dd,fd,mv⟩:=i
   unfold FitD at f1
   unfold pastOf
   cases dd <;> simp only at f1 ⊢
   case ask k it c ss =>
     rw[if_neg]
     rintro rfl
     exact no2 (put_has _ _ _)
   case change k it=>rw[if_neg]; rintro rfl; exact no f1
   case serve k=>rw[if_neg]; rintro rfl; exact no f1
   case back k=>rw[if_neg]; rintro rfl; exact no f1
   case strike k=>rw[if_neg]; rintro rfl; exact no f1
   case fire t c=>rw[if_neg]; exact fun h=>no (f1 n h)
   case rush t c=>rw[if_neg]; exact fun h=>no (f1 n h)
/-- what the law reckons of the pasts -/
structure Due (is:List Dn) (dl:List (Int × List (Nm × Str))):Prop where
 v:∀ e∈dl,e.2=pastL is e.1∧has (rowsT is) e.1=true
 k:∀ n,has (rowsT is) n=true→has dl n=true
 l:dl.length≤is.length
theorem Due.nil:Due [] []:=⟨by simp,fun n h=>(by simp[rowsT] at h),by simp⟩
theorem fits_left:∀ {a b:List Dn} {rs:List (Int × RowT)},Fits rs (a++b)→Fits rs a
 | [],_,_,_=>trivial
 | x::a,b,rs,h=>⟨h.1,h.2.1,fits_left h.2.2⟩
theorem Due.get {is:List Dn} {dl:List (Int × List (Nm × Str))} (h:Due is dl) (hf:Fits [] is) (n:Int):(look dl n).getD []=pastL is n:=by
 cases e:look dl n with
 | some v=>exact (h.v _ (look_mem e)).1
 | none =>
   refine (past_none is [] hf ?_).symm
   cases q:has (rowsT is) n with
   | false=>exact q
   | true =>
     have:=h.k n q
     rw[has_look,e] at this
     cases this
theorem rows_snoc (is:List Dn) (i:Dn):rowsT (is++[i])=rowsStep (rowsT is) i:=by
 unfold rowsT
 rw[List.foldl_append]
 rfl
/-- a deed of one dish -/
theorem Due.one {is:List Dn} {dl:List (Int × List (Nm × Str))} (h:Due is dl) (hf:Fits [] (is++[i])) {k:Int} {x:Nm × Str} (hp:∀ n,pastOf n i=if k=n then [x] else []) (hk:has (rowsStep (rowsT is) i) k=true) (hn:∀ n,has (rowsStep (rowsT is) i) n=true→n=k∨has (rowsT is) n=true) (hl:is.length=is.length):Due (is++[i]) (G.put dl k ((look dl k).getD []++[x])):=by
 have hf0:Fits [] is:=fits_left hf
 refine⟨fun e he=>?_,fun n hn'=>?_,?_⟩
 · rw[rows_snoc,past_app,hp]
   rcases mem_putX he with⟨a,b⟩ | rfl
   · rw[if_neg (fun z=>b z.symm),List.append_nil]
     exact⟨(h.v e a).1,step_mono (h.v e a).2⟩
   · rw[h.get hf0 k,if_pos rfl]
     exact⟨rfl,hk⟩
 · rw[rows_snoc] at hn'
   rcases hn n hn' with rfl | q
   · exact put_has _ _ _
   · exact put_mono (h.k n q)
 · have:=h.l
   have q:(G.put dl k ((look dl k).getD []++[x])).length≤dl.length+1:=by
     unfold G.put
     split <;> simp
   rw[List.length_append,List.length_singleton]
   omega
abbrev putP (x:Nm × Str) (dl:List (Int × List (Nm × Str))) (n:Int):List (Int × List (Nm × Str)):=G.put dl n ((look dl n).getD []++[x])
theorem fires_due (x : Nm × Str) : ∀ (ns : List Int) (dl : List (Int × List (Nm × Str))) (P : Int → List (Nm × Str)), ns.Nodup → (∀ n ∈ ns, has dl n = true) → (∀ e ∈ dl, e.2 = P e.1) →
   (∀ e∈ns.foldl (putP x) dl,e.2=P e.1++(if e.1∈ns then [x] else []))∧(ns.foldl (putP x) dl).map (·.1)=dl.map (·.1)
 | [],dl,P,_,_,h=>⟨fun e he=>by simpa using h e he,rfl⟩
 | n::ns,dl,P,nd,hn,h=>by
   obtain⟨n1,n2⟩:=List.nodup_cons.mp nd
   have hh:=hn n List.mem_cons_self
   have hh2:=hh
   rw[has_look] at hh2
   obtain⟨v,e⟩:=Option.isSome_iff_exists.mp hh2
   have kd:(putP x dl n).map (·.1)=dl.map (·.1):=by rw[put_keys,if_pos hh]
   have h1:∀ y∈putP x dl n,y.2=P y.1++(if y.1=n then [x] else []):=fun y hy=>by
     rcases mem_putH hh hy with⟨a,b⟩ | rfl
     · rw[if_neg b,List.append_nil]; exact h y a
     · show (look dl n).getD []++[x]=_
       rw[if_pos rfl,e]
       have q:v=P n:=h _ (look_mem e)
       show v++_=P n++_
       rw[q]
   obtain⟨a,b⟩:=fires_due x ns (putP x dl n) (fun k=>P k++(if k=n then [x] else [])) n2 (fun k hk=>by
     rw[mem_keys,kd,← mem_keys]
     exact hn k (List.mem_cons_of_mem _ hk)) h1
   refine⟨fun y hy=>?_,b.trans kd⟩
   rw[a y hy]
   by_cases z:y.1=n
   · simp[z,n1]
   · simp[z]
theorem Due.fire {is:List Dn} {dl:List (Int × List (Nm × Str))} (h:Due is dl) {i:Dn} {t:Str} {c:Int} (hi:i.dd = .fire t c∨i.dd = .rush t c) (nd:i.fd.Nodup) (hn:∀ n∈i.fd,has (rowsT is) n=true):Due (is++[i]) (i.fd.foldl (putP (i.nm,Str.ofString "fired")) dl):=by
 obtain⟨a,b⟩:=fires_due (i.nm,Str.ofString "fired") i.fd dl (pastL is) nd (fun n hm=>h.k n (hn n hm)) fun e he=>(h.v e he).1
 have po:∀ k,pastOf k i=if k∈i.fd then [(i.nm,Str.ofString "fired")] else []:=fun k=>by
   unfold pastOf
   rcases hi with hi | hi <;> rw[hi]
 refine⟨fun e he=>⟨by rw[past_app,po]; exact a e he,?_⟩,fun n hm=>?_,?_⟩
 · rw[rows_snoc]
   apply step_mono
   have:e.1∈dl.map (·.1):=by rw[← b]; exact List.mem_map_of_mem he
   obtain⟨e',he',z⟩:=List.mem_map.mp this
   rw[← z]
   exact (h.v e' he').2
 · rw[rows_snoc,mem_keys] at hm
   rw[mem_keys,b,← mem_keys]
   rcases step_key hm with q | ⟨it,c',ss,q⟩
   · exact h.k n (mem_keys.mpr q)
   · rcases hi with hi | hi <;> rw[hi] at q <;> cases q
 · have:=congrArg List.length b
   rw[List.length_map,List.length_map] at this
   have:=h.l
   rw[List.length_append]
   omega
end WG
namespace VL
open PySem
end VL
namespace WG
open PySem VL G Kd W9 W26 TB
end WG
namespace KT
open PySem VL G Kd W9 W26 WG TB
/-- by how many pieces too many -/
def overI (js:List Jb) (f b e:Int):Int:=S (fun k=>decide (b≤k.1∧k.2≤e)) (entJ js)-f*(e-b)
/-- what is small enough to be reckoned with -/
def Sm (d:D):Prop:=∀ b e,d = .tup [.int b,.int e]→(b.natAbs<2^760∧e.natAbs<2^760)
theorem mul_sm {f x:Int} (h1:0≤f) (h2:f≤9) (h:x.natAbs<2^762):VL.MulOk f x=True:=eq_true (.inr (by
 show f.natAbs.log2+x.natAbs.log2<1000000
 have a:f.natAbs.log2<4:=by
   by_cases z:f.natAbs=0
   · rw[z]; decide
   · exact (Nat.log2_lt z).mpr (by omega)
 have b:x.natAbs.log2<762:=by
   by_cases z:x.natAbs=0
   · rw[z]; decide
   · exact (Nat.log2_lt z).mpr h
 omega))
end KT
namespace KT
open PySem VL G Kd W9 W26 WG TB
end KT
namespace KT
open PySem VL G Kd W9 W26 WG TB
theorem srt_intsK {xs:List Int} (hl:xs.length≤1000) (st:AS):srtSetD false (.lst (xs.map D.int)) st = .ok (.lst ((sortI (ddup xs)).map D.int)) st:=by
 have h1:(sortI (ddup xs)).length≤sizeLine:=by
   rw[(sortI_perm _).length_eq,sizeLine_eq]
   have:=ddup_len xs
   omega
 simp[ints_of,mk,hl,h1]
abbrev eSt (p:Int × Int):D:=.tup [.int p.1,.int p.2]
def stretchL (bs es:List Int):List (Int × Int):=bs.flatMap fun b=>(es.filter fun e=>decide (b≤e)).map fun e=>(b,e)
def bgn (js:List Jb):List Int:=sortI (ddup (js.map fun j=>j.1))
def ens (js:List Jb):List Int:=sortI (ddup (js.map fun j=>j.2.1))
theorem mem_bgn {js:List Jb} {b:Int}:b∈bgn js ↔ ∃ j∈js,j.1=b:=by
 unfold bgn
 rw[(sortI_perm _).mem_iff,mem_ddup,List.mem_map]
theorem mem_ens {js:List Jb} {e:Int}:e∈ens js ↔ ∃ j∈js,j.2.1=e:=by
 unfold ens
 rw[(sortI_perm _).mem_iff,mem_ddup,List.mem_map]
theorem bgn_len (js:List Jb):(bgn js).length≤js.length:=by
 unfold bgn
 rw[(sortI_perm _).length_eq]
 have:=ddup_len (js.map fun j=>j.1)
 rwa [List.length_map] at this
theorem ens_len (js:List Jb):(ens js).length≤js.length:=by
 unfold ens
 rw[(sortI_perm _).length_eq]
 have:=ddup_len (js.map fun j=>j.2.1)
 rwa [List.length_map] at this
def strK (js:List Jb):List (Int × Int):=stretchL (bgn js) (ens js)
theorem mem_strK {js:List Jb} {p:Int × Int}:p∈strK js↔(∃ j∈js,j.1=p.1)∧(∃ j∈js,j.2.1=p.2)∧p.1≤p.2:=by
 obtain⟨b,e⟩:=p
 unfold strK stretchL
 simp only[List.mem_flatMap,List.mem_map,List.mem_filter,decide_eq_true_eq,mem_bgn,mem_ens]
 constructor
 · rintro⟨b',h1,e',⟨h2,h3⟩,h4⟩
   injection h4 with h4 h5
   subst h4
   subst h5
   exact⟨h1,h2,h3⟩
 · rintro⟨h1,h2,h3⟩
   exact⟨b,h1,e,⟨h2,h3⟩,rfl⟩
section
variable {J B E a0:Option D} {st:AS}
theorem inn_str (b : Int) : ∀ (es : List Int) (ys : List D),
   comp1A (kName 4) (vB (v2 leD (vVar 3) (vVar 4))) (vA gTup (vCons (vVar 3) (vCons (vVar 4) vNil))) [J,B,E,some (.int b),none,none] [] (es.map D.int) ys st = .ok (ys++((es.filter fun e=>decide (b≤e)).map fun e=>eSt (b,e))) st
 | [],ys=>by
   simp[comp1A]
 | e::es,ys=>by
   have ih:=inn_str b es
   simp only[vB] at ih
   have g:Gd.ok [] st:=gd_nilOk
   rw[List.map_cons,comp1A,if_pos g]
   by_cases z:b≤e
   · simp -implicitDefEqProofs [z,ih,G0,List.filter_cons]
   · simp -implicitDefEqProofs [z,ih,G0,List.filter_cons]
theorem out_str (F : D) : ∀ (bs es : List Int), es.length ≤ 1000 → ∀ (ys : List D),
   comp2A (kName 3) tYesV (innA [4] (v1 itD (vVar 2)) (kName 4) (vB (v2 leD (vVar 3) (vVar 4))) (vA gTup (vCons (vVar 3) (vCons (vVar 4) vNil)))) [J,B,some (.lst (es.map D.int)),none,none,none] [] (bs.map D.int) ys st = .ok (ys++(stretchL bs es).map eSt) st
 | [],es,_,ys=>by
   simp[comp2A,stretchL]
 | b::bs,es,hl,ys=>by
   have ih:=out_str F bs es hl
   have g:Gd.ok [] st:=gd_nilOk
   have inn:=inn_str (J:=J) (B:=B) (E:=some (.lst (es.map D.int))) (st:=st) b es ys
   simp only[vB,innA] at ih inn ⊢
   rw[List.map_cons,comp2A,if_pos g]
   simp -implicitDefEqProofs [ih,hl,inn,wipeD,stretchL]
theorem f_stretches (js:List Jb) (hl:js.length≤1000) (X:AS):F_stretches [.tup (js.map eJb)] X = .ok (.lst ((strK js).map eSt)) X:=by
 have l1:js.length≤16000000:=by omega
 have lb:=bgn_len js
 have le:=ens_len js
 have s1:∀ S,srtSetD false (.lst (js.map fun j=>D.int j.1)) S = .ok (.lst ((bgn js).map D.int)) S:=fun S=>by
   have:=srt_intsK (xs:=js.map fun j=>j.1) (by rw[List.length_map]; exact hl) S
   rw[List.map_map] at this
   exact this
 have s2:∀ S,srtSetD false (.lst (js.map fun j=>D.int j.2.1)) S = .ok (.lst ((ens js).map D.int)) S:=fun S=>by
   have:=srt_intsK (xs:=js.map fun j=>j.2.1) (by rw[List.length_map]; exact hl) S
   rw[List.map_map] at this
   exact this
 have c1:∀ (a0 a1 a2:Option D),compL (kTup 3 (kCons (kName 3) (kCons (kName 4) (kCons (kName 5) kNil)))) tYesV (vVar 3) [a0,a1,a2,none,none,none] [] (js.map eJb) X = .ok (js.map fun j=>D.int j.1) X:=fun a0 a1 a2 =>
   comp_all eJb _ gd_nilOk js fun j _=>⟨_,rfl,rfl,rfl⟩
 have c2:∀ (a0 a1 a2:Option D),compL (kTup 3 (kCons (kName 3) (kCons (kName 4) (kCons (kName 5) kNil)))) tYesV (vVar 4) [a0,a1,a2,none,none,none] [] (js.map eJb) X = .ok (js.map fun j=>D.int j.2.1) X:=fun a0 a1 a2 =>
   comp_all eJb _ gd_nilOk js fun j _=>⟨_,rfl,rfl,rfl⟩
 have o:=out_str (J:=some (D.tup (js.map eJb))) (B:=some (.lst ((bgn js).map D.int))) (st:=X) .non (bgn js) (ens js) (by omega) []
 have sl:(strK js).length≤16000000:=by
   have h:∀ (bs es:List Int),(stretchL bs es).length≤bs.length*es.length:=fun bs es=>by
     induction bs with
     | nil=>simp[stretchL]
     | cons b bs ih =>
       have e:stretchL (b::bs) es=((es.filter fun e=>decide (b≤e)).map fun e=>(b,e))++stretchL bs es:=rfl
       rw[e,List.length_append,List.length_map,List.length_cons,Nat.succ_mul]
       have:=List.length_filter_le (fun e=>decide (b≤e)) es
       omega
   have h2:=h (bgn js) (ens js)
   have h3:(bgn js).length*(ens js).length≤1000*1000:=Nat.mul_le_mul (by omega) (by omega)
   show (stretchL (bgn js) (ens js)).length≤_
   omega
 simp only[List.nil_append] at o
 have o:comp2A (kName 3) tYesV (innA [4] (v1 itD (vVar 2)) (kName 4) (vB (v2 leD (vVar 3) (vVar 4))) (vA gTup (vCons (vVar 3) (vCons (vVar 4) vNil)))) [some (D.tup (js.map eJb)),some (.lst ((bgn js).map D.int)),some (.lst ((ens js).map D.int)),none,none,none] [] ((bgn js).map D.int) [] X = .ok ((strK js).map eSt) X:=o
 generalize strK js=T at *
 generalize js.map (fun j=>D.int j.1)=L1 at *
 generalize js.map (fun j=>D.int j.2.1)=L2 at *
 have jl:(js.map eJb).length≤16000000:=by rw[List.length_map]; exact l1
 generalize js.map eJb=JL at *
 refine eq_of_wpK ?_
 unfold F_stretches
 rw[E8]; simp only[List.map_cons,List.map_nil,List.length_cons,List.length_nil,Nat.reduceAdd,Nat.reduceSub,List.replicate_succ,List.replicate_zero,List.cons_append,List.nil_append]
 unfold B_stretches
 have rt:∀ d:D,VL.ret 0 X d X = .ok d X:=fun d=>ret_len rfl
 have bl:(bgn js).length≤1000:=by omega
 have el:(ens js).length≤1000:=by omega
 generalize hb:bgn js=BS at *
 generalize he:ens js=ES at *
 try simp -dsimp -implicitDefEqProofs [-ixD,-Int.toNat_natCast,↓A7,↓B1,↓B5,↓A9,↓D0,↓D6,↓E4,↓F4,↓E6,↓D9,↓E3,↓F6,↓F5,↓E9,↓F9,↓F3,↓F1,↓E5,↓F0,↓E7,↓F7,↓F8,↓B7,↓B6,↓C6,↓B8,↓C4,↓C5,↓A8,↓C3,↓B4,↓C7,↓A6,↓B9,↓C2,↓C9,↓C8,↓E8,mk,G0,G1,G5,G6,G7,G8,G9,H9,I6,I7,I8,I9,J0,J3,J4,J5,J6,J7,J8,J9,K0,K3,jl]
 refine wp_of (c1 _ _ _) ?_
 try simp -dsimp -implicitDefEqProofs [-ixD,-Int.toNat_natCast,↓A7,↓B1,↓B5,↓A9,↓D0,↓D6,↓E4,↓F4,↓E6,↓D9,↓E3,↓F6,↓F5,↓E9,↓F9,↓F3,↓F1,↓E5,↓F0,↓E7,↓F7,↓F8,↓B7,↓B6,↓C6,↓B8,↓C4,↓C5,↓A8,↓C3,↓B4,↓C7,↓A6,↓B9,↓C2,↓C9,↓C8,↓E8,mk,G0,G1,G5,G6,G7,G8,G9,H9,I6,I7,I8,I9,J0,J3,J4,J5,J6,J7,J8,J9,K0,K3,-srtSetD,s1,jl]
 refine wp_of (c2 _ _ _) ?_
 try simp -dsimp -implicitDefEqProofs [-ixD,-Int.toNat_natCast,↓A7,↓B1,↓B5,↓A9,↓D0,↓D6,↓E4,↓F4,↓E6,↓D9,↓E3,↓F6,↓F5,↓E9,↓F9,↓F3,↓F1,↓E5,↓F0,↓E7,↓F7,↓F8,↓B7,↓B6,↓C6,↓B8,↓C4,↓C5,↓A8,↓C3,↓B4,↓C7,↓A6,↓B9,↓C2,↓C9,↓C8,↓E8,mk,G0,G1,G5,G6,G7,G8,G9,H9,I6,I7,I8,I9,J0,J3,J4,J5,J6,J7,J8,J9,K0,K3,-srtSetD,-innA,s2,rt,bl,el,sl]
 refine wp_of o ?_
 try simp -dsimp -implicitDefEqProofs [-ixD,-Int.toNat_natCast,↓A7,↓B1,↓B5,↓A9,↓D0,↓D6,↓E4,↓F4,↓E6,↓D9,↓E3,↓F6,↓F5,↓E9,↓F9,↓F3,↓F1,↓E5,↓F0,↓E7,↓F7,↓F8,↓B7,↓B6,↓C6,↓B8,↓C4,↓C5,↓A8,↓C3,↓B4,↓C7,↓A6,↓B9,↓C2,↓C9,↓C8,↓E8,mk,G0,G1,G5,G6,G7,G8,G9,H9,I6,I7,I8,I9,J0,J3,J4,J5,J6,J7,J8,J9,K0,K3,rt,sl]
 exact⟨rfl,rfl⟩
def fullK (js:List Jb) (f:Int):List (Int × Int):=(strK js).filter fun p=>decide (0<overI js f p.1 p.2)
theorem f_full_stretches (js:List Jb) {k:Nat} (hj:Jobs k js) (hk:k≤1000) (f:Int) (f0:0≤f) (f9:f≤9) (X:AS):F_full_stretches [.tup (js.map eJb),.int f] X = .ok (.lst ((fullK js f).map eSt)) X:=by
 have l9:js.length≤1000:=by have:=hj.ln; omega
 have st:=f_stretches js l9
 have rt:∀ d:D,VL.ret 0 X d X = .ok d X:=fun d=>ret_len rfl
 have cm:∀ a0 a1:Option D,a0=some (.tup (js.map eJb))→a1=some (.int f)→compL (kTup 2 (kCons (kName 2) (kCons (kName 3) kNil))) (vB (v2 gtD (vCallA 4 0 [] [.pos 0,.pos 1,.pos 2,.pos 3] F_excess (vCons (vVar 0) (vCons (vVar 1) (vCons (vVar 2) (vCons (vVar 3) vNil)))) vNil) (vC (.int 0)))) (vA gTup (vCons (vVar 2) (vCons (vVar 3) vNil))) [a0,a1,none,none] [] ((strK js).map eSt) X = .ok ((fullK js f).map eSt) X:=fun a0 a1 h0 h1=>by
   subst h0
   subst h1
   refine comp_en eSt (fun p=>decide (0<overI js f p.1 p.2)) eSt gd_nilOk (strK js) fun p hp=>?_
   obtain⟨⟨j1,m1,e1⟩,⟨j2,m2,e2⟩,h3⟩:=mem_strK.mp hp
   have o1:=(hj.ok j1 m1).b
   have o2:=(hj.ok j2 m2).e
   have o3:=(hj.ok j2 m2).b
   have mo:=mul_sm f0 f9 (x:=p.2-p.1) (Nat.lt_of_lt_of_le (show _<2^10 by omega) (Nat.pow_le_pow_right (by decide) (by decide)))
   have ex:=f_excess js f p.1 p.2 l9 (of_eq_true mo)
   have ex:∀ X,F_excess [.tup (js.map eJb),.int f,.int p.1,.int p.2] X = .ok (.int (overI js f p.1 p.2)) X:=ex
   refine⟨_,rfl,?_,fun _=>by simp[G0]⟩
   generalize overI js f p.1 p.2=o at *
   generalize D.tup (js.map eJb)=JD at *
   simp -implicitDefEqProofs [ex]
 generalize js.map eJb=JL at *
 have fl:((strK js).map eSt).length≤16000000:=by
   have h:∀ (bs es:List Int),(stretchL bs es).length≤bs.length*es.length:=fun bs es=>by
     induction bs with
     | nil=>simp[stretchL]
     | cons b bs ih =>
       have e:stretchL (b::bs) es=((es.filter fun e=>decide (b≤e)).map fun e=>(b,e))++stretchL bs es:=rfl
       rw[e,List.length_append,List.length_map,List.length_cons,Nat.succ_mul]
       have:=List.length_filter_le (fun e=>decide (b≤e)) es
       omega
   have h2:=h (bgn js) (ens js)
   have h3:(bgn js).length*(ens js).length≤1000*1000:=Nat.mul_le_mul (by have:=bgn_len js; omega) (by have:=ens_len js; omega)
   rw[List.length_map]
   show (stretchL (bgn js) (ens js)).length≤_
   omega
 have fl2:((fullK js f).map eSt).length≤16000000:=by
   have:=List.length_filter_le (fun p:Int × Int=>decide (0<overI js f p.1 p.2)) (strK js)
   rw[List.length_map] at fl ⊢
   unfold fullK
   omega
 generalize (strK js).map eSt=SL at *
 generalize (fullK js f).map eSt=FL at *
 refine eq_of_wpK ?_
 unfold F_full_stretches
 rw[E8]; simp only[List.map_cons,List.map_nil,List.length_cons,List.length_nil,Nat.reduceAdd,Nat.reduceSub,List.replicate_succ,List.replicate_zero,List.cons_append,List.nil_append]
 unfold B_full_stretches
 try simp -dsimp -implicitDefEqProofs [-ixD,-Int.toNat_natCast,↓A7,↓B1,↓B5,↓A9,↓D0,↓D6,↓E4,↓F4,↓E6,↓D9,↓E3,↓F6,↓F5,↓E9,↓F9,↓F3,↓F1,↓E5,↓F0,↓E7,↓F7,↓F8,↓B7,↓B6,↓C6,↓B8,↓C4,↓C5,↓A8,↓C3,↓B4,↓C7,↓A6,↓B9,↓C2,↓C9,↓C8,↓E8,mk,G0,G1,G5,G6,G7,G8,G9,H9,I6,I7,I8,I9,J0,J3,J4,J5,J6,J7,J8,J9,K0,K3,st,fl]
 refine wp_of (cm _ _ rfl rfl) ?_
 try simp -dsimp -implicitDefEqProofs [-ixD,-Int.toNat_natCast,↓A7,↓B1,↓B5,↓A9,↓D0,↓D6,↓E4,↓F4,↓E6,↓D9,↓E3,↓F6,↓F5,↓E9,↓F9,↓F3,↓F1,↓E5,↓F0,↓E7,↓F7,↓F8,↓B7,↓B6,↓C6,↓B8,↓C4,↓C5,↓A8,↓C3,↓B4,↓C7,↓A6,↓B9,↓C2,↓C9,↓C8,↓E8,mk,G0,G1,G5,G6,G7,G8,G9,H9,I6,I7,I8,I9,J0,J3,J4,J5,J6,J7,J8,J9,K0,K3,fl2,rt]
 exact⟨rfl,rfl⟩
end
end KT
namespace KT
open PySem VL G Kd W9 W26 WG TB
theorem py_ints:∀ xs:List Int,D.pys (xs.map D.int)=xs.map PyData.int
 | []=>by rw[List.map_nil,D.pys]; rfl
 | x::xs=>by rw[List.map_cons,D.pys,py_ints xs,D.py]; rfl
theorem le_ints (xs ys:List Int):PySem.W.dataLe false D.py (.tup (xs.map D.int)) (.tup (ys.map D.int))=!decide (ys<xs):=by
 show (!PySem.W.dataLt (D.tup (ys.map D.int)).py (D.tup (xs.map D.int)).py)=_
 rw[D.py,D.py,py_ints,py_ints,PySem.W.dataLt_tuple]
 have h:=PySem.W.dataLt_ints ys xs
 rw[← h]
 rfl
theorem alike_ints:∀ xs ys:List Int,xs.length=ys.length→PySem.W.alikeAll (xs.map PyData.int) (ys.map PyData.int)=true
 | [],[],_=>by simp[PySem.W.alikeAll]
 | x::xs,y::ys,h=>by
   have ih:=alike_ints xs ys (by simpa using h)
   simp[PySem.W.alikeAll,PySem.W.alike,ih]
theorem sort_ints {α : Type} (en : α → List Int) {n : Nat} (hn : ∀ a, (en a).length = n + 1) (L : List α) (hl : L.length ≤ 16000000) (S : AS) :
   sortAD false (.lst (L.map fun a=>.tup ((en a).map D.int))) S = .ok (.lst ((L.mergeSort fun a b=>!decide (en b<en a)).map fun a=>.tup ((en a).map D.int))) S:=by
 have e:(L.map fun a=>D.tup ((en a).map D.int)).mergeSort (PySem.W.dataLe false D.py)=(L.mergeSort fun a b=>!decide (en b<en a)).map fun a=>D.tup ((en a).map D.int):=by
   rw[← List.map_mergeSort (r:=fun a b=>!decide (en b<en a)) (s:=PySem.W.dataLe false D.py) (f:=fun a=>D.tup ((en a).map D.int)) fun a _ b _=>(le_ints (en a) (en b)).symm]
 have py:∀ a,(D.tup ((en a).map D.int)).py = .tuple ((en a).map PyData.int):=fun a=>by rw[D.py,py_ints]
 have h0:D.pures (L.map fun a=>D.tup ((en a).map D.int))=true:=by
   rw[D.pures_eq,List.all_eq_true]
   intro d hd
   obtain⟨a,_,rfl⟩:=List.mem_map.mp hd
   rw[D.pure]
   exact pures_mapF D.int (fun x=>by simp[D.pure]) (en a)
 have h1:PySem.W.AllAlike ((L.map fun a=>D.tup ((en a).map D.int)).map D.py):=fun d hd d' hd'=>by
   rw[List.map_map] at hd hd'
   obtain⟨a,_,rfl⟩:=List.mem_map.mp hd
   obtain⟨b,_,rfl⟩:=List.mem_map.mp hd'
   show PySem.W.alike (D.tup ((en a).map D.int)).py (D.tup ((en b).map D.int)).py=true
   rw[py,py]
   simp[PySem.W.alike,alike_ints _ _ ((hn a).trans (hn b).symm)]
 have h2:PySem.W.Sortable ((L.map fun a=>D.tup ((en a).map D.int)).map D.py):=.inl fun d hd=>by
   rw[List.map_map] at hd
   obtain⟨a,_,rfl⟩:=List.mem_map.mp hd
   have ha:=hn a
   show ∃ _ _,(D.tup ((en a).map D.int)).py=_
   rw[py]
   cases h:en a with
   | nil=>rw[h] at ha; cases ha
   | cons x xs=>exact⟨_,_,rfl⟩
 have h3:∀ d∈L.map fun a=>D.tup ((en a).map D.int),d.py.depth≤60:=fun d hd=>by
   obtain⟨a,_,rfl⟩:=List.mem_map.mp hd
   rw[py]
   have q:∀ xs:List Int,PyData.depthAll (xs.map PyData.int)=0:=fun xs=>by
     induction xs with
     | nil=>simp[PyData.depthAll]
     | cons x xs ih=>simp[PyData.depthAll,PyData.depth,ih]
   simp[PyData.depth,q]
 have l:((L.mergeSort fun a b=>!decide (en b<en a)).map fun a=>D.tup ((en a).map D.int)).length≤16000000:=by rw[List.length_map,List.length_mergeSort]; exact hl
 unfold sortAD
 rw[show listOf S (.lst (L.map fun a=>D.tup ((en a).map D.int)))=some (L.map fun a=>D.tup ((en a).map D.int)) from rfl]
 dsimp only
 rw[if_pos ⟨h0,h1,h2,h3⟩,e]
 generalize (L.mergeSort fun a b=>!decide (en b<en a)).map (fun a=>D.tup ((en a).map D.int))=M at *
 simp[mk,G0 l]
abbrev keysJ (js:List Jb):List (Int × Int):=js.map fun j=>(j.1,j.2.1)
theorem turn_eq (keys:List (Int × Int)):(fun a b:Nat=>!decide ([(keys.getD b (0,0)).2,(b:Int)]<[(keys.getD a (0,0)).2,(a:Int)]))=leTurn keys:=by
 funext a b
 unfold leTurn
 rw[← decide_not]
 congr 1
 apply propext
 rw[List.cons_lt_cons_iff,List.cons_lt_cons_iff]
 simp
 omega
theorem enum_range (js:List Jb):((js.map eJb).zipIdx.map fun p=>D.tup [.int (p.2:Nat),p.1])=(List.range js.length).map fun i=>D.tup [.int (i:Nat),eJb (js.getD i (0,0,0))]:=by
 apply List.ext_getElem
 · simp
 · intro i h1 h2
   have hi:i<js.length:=by simpa using h2
   simp[List.getD_eq_getElem?_getD,List.getElem?_eq_getElem hi]
theorem left_at {c:Nat} {X:AS} {l:List Int} (hX:X[c]? = some (.lst (l.map D.int))) {i:Nat} (hi:i<l.length):ixD (.ref c) (.int (i:Nat)) X = .ok (.int (l.getD i 0)) X:=by
 have e:L2.atI (l.map D.int) (i:Nat)=some (.int l[i]):=by
   rw[atI_pos (by omega) (by rw[List.length_map]; omega)]
   simp
 simp[hX,e,List.getD_eq_getElem?_getD,List.getElem?_eq_getElem hi]
theorem f_waiting (js : List Jb) (l : List Int) (hl : l.length = js.length) (h9 : js.length ≤ 1000) {c : Nat} {X : AS} (hX : X[c]? = some (.lst (l.map D.int))) (t : Int) :
   F_waiting [.tup (js.map eJb),.ref c,.int t] X = .ok (.lst ((turnP t (keysJ js) l).map fun j:Nat=>D.int (j:Int))) X:=by
 have cm : compL (kTup 2 (kCons (kName 4) (kCons (kTup 3 (kCons (kName 5) (kCons (kName 6) (kCons (kName 7) kNil)))) kNil))) (vAnd (vB (v2 gtD (v2 ixD (vVar 1) (vVar 4)) (vC (.int 0)))) (vB (vChain leD ltD (vVar 5) (vVar 2) (vVar 6)))) (vA gTup (vCons (vVar 6) (vCons (vVar 4) vNil)))
     [some (.tup (js.map eJb)),some (.ref c),some (.int t),none,none,none,none,none] [] ((js.map eJb).zipIdx.map fun p=>D.tup [.int (p.2:Nat),p.1]) X = .ok (((List.range l.length).filter (waitsB t (keysJ js) l)).map fun i:Nat=>D.tup ([((keysJ js).getD i (0,0)).2,(i:Int)].map D.int)) X:=by
   rw[enum_range,← hl]
   refine comp_en (fun i:Nat=>D.tup [.int (i:Nat),eJb (js.getD i (0,0,0))]) (waitsB t (keysJ js) l) (fun i:Nat=>D.tup ([((keysJ js).getD i (0,0)).2,(i:Int)].map D.int)) gd_nilOk (List.range l.length) fun i hi=>?_
   have hi:i<l.length:=List.mem_range.mp hi
   have la:=left_at hX hi
   have hk:(keysJ js).getD i (0,0)=((js.getD i (0,0,0)).1,(js.getD i (0,0,0)).2.1):=by
     rw[List.getD_eq_getElem?_getD,List.getD_eq_getElem?_getD,List.getElem?_map,List.getElem?_eq_getElem (by omega)]
     rfl
   unfold waitsB
   rw[hk]
   generalize js.getD i (0,0,0)=j
   obtain⟨jb,je,jp⟩:=j
   generalize l.getD i 0=li at *
   refine⟨_,rfl,?_,fun _=>by simp -implicitDefEqProofs [G0]⟩
   by_cases z:0<li
   · by_cases z1:jb≤t
     · simp -implicitDefEqProofs [-ixD,la,z,z1,eJb]
     · simp -implicitDefEqProofs [-ixD,la,z,z1,eJb]
   · simp -implicitDefEqProofs [-ixD,la,z,eJb]
 have fl:((List.range l.length).filter (waitsB t (keysJ js) l)).length≤16000000:=by
   have:=List.length_filter_le (waitsB t (keysJ js) l) (List.range l.length)
   rw[List.length_range] at this
   omega
 have sa:=sort_ints (fun i:Nat=>[((keysJ js).getD i (0,0)).2,(i:Int)]) (n:=1) (fun _=>rfl) ((List.range l.length).filter (waitsB t (keysJ js) l)) fl
 rw[turn_eq] at sa
 have c2:∀ a0 a1 a2 a3:Option D,compL (kTup 2 (kCons (kName 6) (kCons (kName 4) kNil))) tYesV (vVar 4) [a0,a1,a2,a3,none,none,none,none] [] ((turnP t (keysJ js) l).map fun i:Nat=>D.tup ([((keysJ js).getD i (0,0)).2,(i:Int)].map D.int)) X = .ok ((turnP t (keysJ js) l).map fun j:Nat=>D.int (j:Int)) X:=fun a0 a1 a2 a3 =>
   comp_all (fun i:Nat=>D.tup ([((keysJ js).getD i (0,0)).2,(i:Int)].map D.int)) _ gd_nilOk _ fun i _=>⟨_,rfl,rfl,rfl⟩
 have tl:(turnP t (keysJ js) l).length≤16000000:=by rw[(turnP_perm _ _ _).length_eq]; exact fl
 have rt:∀ d:D,VL.ret 0 X d X = .ok d X:=fun d=>ret_len rfl
 have zl:((js.map eJb).zipIdx.map fun p=>D.tup [.int (p.2:Nat),p.1]).length≤16000000:=by simp; omega
 have sa:∀ S,sortAD false (.lst (((List.range l.length).filter (waitsB t (keysJ js) l)).map fun i:Nat=>D.tup ([((keysJ js).getD i (0,0)).2,(i:Int)].map D.int))) S = .ok (.lst ((turnP t (keysJ js) l).map fun i:Nat=>D.tup ([((keysJ js).getD i (0,0)).2,(i:Int)].map D.int))) S:=sa
 have fl':(((List.range l.length).filter (waitsB t (keysJ js) l)).map fun i:Nat=>D.tup ([((keysJ js).getD i (0,0)).2,(i:Int)].map D.int)).length≤16000000:=by rw[List.length_map]; exact fl
 have tl':((turnP t (keysJ js) l).map fun i:Nat=>D.tup ([((keysJ js).getD i (0,0)).2,(i:Int)].map D.int)).length≤16000000:=by rw[List.length_map]; exact tl
 have tl2:((turnP t (keysJ js) l).map fun j:Nat=>D.int (j:Int)).length≤16000000:=by rw[List.length_map]; exact tl
 generalize ((List.range l.length).filter (waitsB t (keysJ js) l)).map (fun i:Nat=>D.tup ([((keysJ js).getD i (0,0)).2,(i:Int)].map D.int))=L1 at *
 generalize (turnP t (keysJ js) l).map (fun i:Nat=>D.tup ([((keysJ js).getD i (0,0)).2,(i:Int)].map D.int))=L2 at *
 generalize (turnP t (keysJ js) l).map (fun j:Nat=>D.int (j:Int))=L3 at *
 have en:enumD [.tup (js.map eJb)] X = .ok ((js.map eJb).zipIdx.map fun p=>D.tup [.int (p.2:Nat),p.1],[]) X:=rfl
 generalize (js.map eJb).zipIdx.map (fun p=>D.tup [.int (p.2:Nat),p.1])=Z at *
 generalize js.map eJb=JL at *
 refine eq_of_wpK ?_
 unfold F_waiting
 rw[E8]; simp only[List.map_cons,List.map_nil,List.length_cons,List.length_nil,Nat.reduceAdd,Nat.reduceSub,List.replicate_succ,List.replicate_zero,List.cons_append,List.nil_append]
 unfold B_waiting
 try simp -dsimp -implicitDefEqProofs [-ixD,-Int.toNat_natCast,↓A7,↓B1,↓B5,↓A9,↓D0,↓D6,↓E4,↓F4,↓E6,↓D9,↓E3,↓F6,↓F5,↓E9,↓F9,↓F3,↓F1,↓E5,↓F0,↓E7,↓F7,↓F8,↓B7,↓B6,↓C6,↓B8,↓C4,↓C5,↓A8,↓C3,↓B4,↓C7,↓A6,↓B9,↓C2,↓C9,↓C8,↓E8,mk,G0,G1,G5,G6,G7,G8,G9,H9,I6,I7,I8,I9,J0,J3,J4,J5,J6,J7,J8,J9,K0,K3,-enumD,en,zl]
 refine wp_of cm ?_
 try simp -dsimp -implicitDefEqProofs [-ixD,-Int.toNat_natCast,↓A7,↓B1,↓B5,↓A9,↓D0,↓D6,↓E4,↓F4,↓E6,↓D9,↓E3,↓F6,↓F5,↓E9,↓F9,↓F3,↓F1,↓E5,↓F0,↓E7,↓F7,↓F8,↓B7,↓B6,↓C6,↓B8,↓C4,↓C5,↓A8,↓C3,↓B4,↓C7,↓A6,↓B9,↓C2,↓C9,↓C8,↓E8,mk,G0,G1,G5,G6,G7,G8,G9,H9,I6,I7,I8,I9,J0,J3,J4,J5,J6,J7,J8,J9,K0,K3,fl',-sortAD,sa,tl']
 refine wp_of (c2 _ _ _ _) ?_
 try simp -dsimp -implicitDefEqProofs [-ixD,-Int.toNat_natCast,↓A7,↓B1,↓B5,↓A9,↓D0,↓D6,↓E4,↓F4,↓E6,↓D9,↓E3,↓F6,↓F5,↓E9,↓F9,↓F3,↓F1,↓E5,↓F0,↓E7,↓F7,↓F8,↓B7,↓B6,↓C6,↓B8,↓C4,↓C5,↓A8,↓C3,↓B4,↓C7,↓A6,↓B9,↓C2,↓C9,↓C8,↓E8,mk,G0,G1,G5,G6,G7,G8,G9,H9,I6,I7,I8,I9,J0,J3,J4,J5,J6,J7,J8,J9,K0,K3,tl2,rt]
 exact⟨rfl,rfl⟩
end KT
namespace KT
open PySem VL G Kd W9 W26 WG TB
def canL (js:List Jb) (l:List Int) (least:Int):List Int:=((js.zip l).filter fun p=>decide (0<p.2∧max p.1.1 least<p.1.2.1)).map fun p=>max p.1.1 least
def nextD (js:List Jb) (l:List Int) (least:Int):D:=if canL js l least=[] then .non else .int (minI (canL js l least))
theorem f_next (js : List Jb) (l : List Int) (hl : l.length = js.length) (h9 : js.length ≤ 1000) {c : Nat} {X : AS} (hX : X[c]? = some (.lst (l.map D.int))) (t : Int) :
   F_next_minute [.tup (js.map eJb),.ref c,.int t] X = .ok (nextD js l t) X:=by
 have ez:((js.map eJb).zip (l.map D.int)).map (fun p=>D.tup [p.1,p.2])=(js.zip l).map fun p=>D.tup [eJb p.1,.int p.2]:=by
   rw[List.zip_map,List.map_map]
   rfl
 have cm : ∀ a0 a1 : Option D, compL (kTup 2 (kCons (kTup 3 (kCons (kName 5) (kCons (kName 6) (kCons (kName 7) kNil)))) (kCons (kName 4) kNil))) (vAnd (vB (v2 gtD (vVar 4) (vC (.int 0)))) (vB (v2 ltD (vA maxD (vCons (vVar 5) (vCons (vVar 2) vNil))) (vVar 6)))) (vA maxD (vCons (vVar 5) (vCons (vVar 2) vNil)))
     [a0,a1,some (.int t),none,none,none,none,none] [(c,.lst (l.map D.int))] (((js.map eJb).zip (l.map D.int)).map fun p=>D.tup [p.1,p.2]) X = .ok ((canL js l t).map D.int) X:=fun a0 a1=>by
   rw[ez]
   unfold canL
   rw[List.map_map]
   refine comp_en (fun p:Jb × Int=>D.tup [eJb p.1,.int p.2]) (fun p=>decide (0<p.2∧max p.1.1 t<p.1.2.1)) _ (ok_one hX) (js.zip l) fun p _=>?_
   obtain⟨⟨jb,je,jp⟩,li⟩:=p
   refine⟨_,rfl,?_,fun _=>by simp -implicitDefEqProofs [G0,eJb]⟩
   by_cases z:0<li
   · simp -implicitDefEqProofs [z,eJb]
   · simp -implicitDefEqProofs [z,eJb]
 have fl:(canL js l t).length≤16000000:=by
   unfold canL
   rw[List.length_map]
   have:=List.length_filter_le (fun p:Jb × Int=>decide (0<p.2∧max p.1.1 t<p.1.2.1)) (js.zip l)
   rw[List.length_zip] at this
   omega
 have zl:(((js.map eJb).zip (l.map D.int)).map fun p=>D.tup [p.1,p.2]).length≤16000000:=by simp; omega
 have en:zipD [.tup (js.map eJb),.ref c] X = .ok (((js.map eJb).zip (l.map D.int)).map fun p=>D.tup [p.1,p.2],[(c,.lst (l.map D.int))]) X:=by
   simp[zipD,hX,gdOf,seqOf]
 have fl':((canL js l t).map D.int).length≤16000000:=by rw[List.length_map]; exact fl
 have df:∀ S,dfD minI [.lst ((canL js l t).map D.int)] .non S = .ok (nextD js l t) S:=fun S=>by
   unfold nextD
   simp[dfD,VL.listOf]
   split <;> rfl
 have rt:∀ d:D,VL.ret 0 X d X = .ok d X:=fun d=>ret_len rfl
 generalize ((js.map eJb).zip (l.map D.int)).map (fun p=>D.tup [p.1,p.2])=Z at *
 generalize (canL js l t).map D.int=CL at *
 generalize js.map eJb=JL at *
 refine eq_of_wpK ?_
 unfold F_next_minute
 rw[E8]; simp only[List.map_cons,List.map_nil,List.length_cons,List.length_nil,Nat.reduceAdd,Nat.reduceSub,List.replicate_succ,List.replicate_zero,List.cons_append,List.nil_append]
 unfold B_next_minute
 try simp -dsimp -implicitDefEqProofs [-ixD,-Int.toNat_natCast,↓A7,↓B1,↓B5,↓A9,↓D0,↓D6,↓E4,↓F4,↓E6,↓D9,↓E3,↓F6,↓F5,↓E9,↓F9,↓F3,↓F1,↓E5,↓F0,↓E7,↓F7,↓F8,↓B7,↓B6,↓C6,↓B8,↓C4,↓C5,↓A8,↓C3,↓B4,↓C7,↓A6,↓B9,↓C2,↓C9,↓C8,↓E8,mk,G0,G1,G5,G6,G7,G8,G9,H9,I6,I7,I8,I9,J0,J3,J4,J5,J6,J7,J8,J9,K0,K3,-zipD,en,zl]
 refine wp_of (cm _ _) ?_
 try simp -dsimp -implicitDefEqProofs [-ixD,-Int.toNat_natCast,↓A7,↓B1,↓B5,↓A9,↓D0,↓D6,↓E4,↓F4,↓E6,↓D9,↓E3,↓F6,↓F5,↓E9,↓F9,↓F3,↓F1,↓E5,↓F0,↓E7,↓F7,↓F8,↓B7,↓B6,↓C6,↓B8,↓C4,↓C5,↓A8,↓C3,↓B4,↓C7,↓A6,↓B9,↓C2,↓C9,↓C8,↓E8,mk,G0,G1,G5,G6,G7,G8,G9,H9,I6,I7,I8,I9,J0,J3,J4,J5,J6,J7,J8,J9,K0,K3,fl',-dfD,vMinDf,df,rt]
 exact⟨rfl,rfl⟩
end KT
namespace KT
open PySem VL G Kd W9 W26 WG TB
section
variable {fc:En→AS→Out Bool} {fb:En→AS→Fl} {N:En→AS→Prop} {R:D→AS→Prop} {B T:En→AS→Prop} {X:XQ}
theorem whL_wp (P : Nat → En → AS → Prop) (hs : ∀ k env st, P k env st → (fc env st).wp (fun b s => (b = true → (fb env s).wp (fun e s => ∃ k', k' < k ∧ P k' e s) R (fun _ _ => False) (fun _ _ => False) X) ∧ (b = false → N env s)) X) :
   ∀ k env st,P k env st → ∃ n,(whL fc fb n env st).wp N R B T X:=fun k=>by
 induction k using Nat.strongRecOn with
 | _ k ih =>
   intro env st p
   have h:=hs k env st p
   cases e:fc env st with
   | bad=>rw[e] at h; exact h.elim
   | exc c fs s =>
     rw[e] at h
     refine⟨1,?_⟩
     rw[whL,e]
     exact h
   | ok b s =>
     rw[e] at h
     have h:(b=true→(fb env s).wp (fun e s=>∃ k',k'<k∧P k' e s) R (fun _ _=>False) (fun _ _=>False) X)∧(b=false→N env s):=h
     cases b with
     | false =>
       refine⟨1,?_⟩
       rw[whL,e]
       exact h.2 rfl
     | true =>
       have h:=h.1 rfl
       cases e2:fb env s with
       | bad=>rw[e2] at h; exact h.elim
       | nx e3 s3 =>
         rw[e2] at h
         obtain⟨k',hk,hp⟩:=(show ∃ k',k'<k∧P k' e3 s3 from h)
         obtain⟨n,hn⟩:=ih k' hk e3 s3 hp
         refine⟨n+1,?_⟩
         rw[whL,e]
         simp only[Out.fl,if_true,e2]
         exact hn
       | rt d s3 =>
         rw[e2] at h
         refine⟨1,?_⟩
         rw[whL,e]
         simp only[Out.fl,if_true,e2]
         exact h
       | bk e3 s3=>rw[e2] at h; exact (show False from h).elim
       | ct e3 s3=>rw[e2] at h; exact (show False from h).elim
       | exc c fs s3 =>
         rw[e2] at h
         refine⟨1,?_⟩
         rw[whL,e]
         simp only[Out.fl,if_true,e2]
         exact h
theorem wp_whileK {env : En} {st : AS} (k : Nat) (P : Nat → En → AS → Prop) (h0 : P k env st) (hs : ∀ k env st, P k env st → (fc env st).wp (fun b s => (b = true → (fb env s).wp (fun e s => ∃ k', k' < k ∧ P k' e s) R (fun _ _ => False) (fun _ _ => False) X) ∧ (b = false → N env s)) X) :
   (sWhile fc fb env st).wp N R B T X:=by
 obtain⟨n,hn⟩:=whL_wp (B:=B) (T:=T) P hs k env st h0
 have nb:whL fc fb n env st ≠ .bad:=fun z=>by rw[z] at hn; exact hn
 rw[sWhile_eq rfl nb]
 exact hn
end
section
variable {js:List Jb} {l:List Int} {t m:Int}
theorem keys_at {j:Nat} (hj:j<js.length):(keysJ js).getD j (0,0)=((js[j]).1,(js[j]).2.1):=by
 rw[List.getD_eq_getElem?_getD,List.getElem?_map,List.getElem?_eq_getElem hj]
 rfl
theorem can_of (hl:l.length=js.length) {j:Nat} (hj:j<l.length) {u:Int} (hu:t≤u) (w:waitsB u (keysJ js) l j=true):∃ x∈canL js l t,x≤u:=by
 have h2:j<js.length:=by omega
 unfold waitsB at w
 rw[keys_at h2,decide_eq_true_eq,List.getD_eq_getElem?_getD,List.getElem?_eq_getElem hj] at w
 obtain⟨w1,w2,w3⟩:=w
 have w1:0<l[j]:=w1
 dsimp only at w2 w3
 refine⟨max js[j].1 t,?_,by omega⟩
 unfold canL
 refine List.mem_map.mpr ⟨(js[j],l[j]),List.mem_filter.mpr ⟨?_,?_⟩,rfl⟩
 · rw[List.mem_iff_getElem]
   exact⟨j,by rw[List.length_zip]; omega,by simp⟩
 · rw[decide_eq_true_eq]
   exact⟨w1,by dsimp only; omega⟩
theorem of_can (hl:l.length=js.length) {x:Int} (h:x∈canL js l t):t≤x ∧ ∃ j,j<l.length∧waitsB x (keysJ js) l j=true:=by
 unfold canL at h
 obtain⟨p,hp,rfl⟩:=List.mem_map.mp h
 obtain⟨h1,h2⟩:=List.mem_filter.mp hp
 rw[decide_eq_true_eq] at h2
 obtain⟨j,hj,e⟩:=List.mem_iff_getElem.mp h1
 rw[List.length_zip] at hj
 have ep:p=(js[j],l[j]):=by rw[← e]; simp
 clear e h1
 rw[ep] at h2 ⊢
 dsimp only at h2 ⊢
 refine⟨by omega,j,by omega,?_⟩
 unfold waitsB
 rw[keys_at (by omega:j<js.length),decide_eq_true_eq,List.getD_eq_getElem?_getD,List.getElem?_eq_getElem (by omega:j<l.length)]
 exact⟨h2.1,by dsimp only; omega,by dsimp only; omega⟩
theorem next_none (hl:l.length=js.length) (h:nextD js l t = .non) {u:Int} (hu:t≤u) {j:Nat} (hj:j<l.length):waitsB u (keysJ js) l j=false:=by
 cases w:waitsB u (keysJ js) l j with
 | false=>rfl
 | true =>
   obtain⟨x,hx,_⟩:=can_of hl hj hu w
   unfold nextD at h
   split at h
   · rename_i z
     rw[z] at hx
     cases hx
   · cases h
theorem next_some (hl:l.length=js.length) (h:nextD js l t = .int m):t≤m∧(∃ j,j<l.length∧waitsB m (keysJ js) l j=true) ∧ ∀ u,t≤u→u<m → ∀ j,j<l.length→waitsB u (keysJ js) l j=false:=by
 unfold nextD at h
 split at h
 · cases h
 · rename_i z
   injection h with h
   subst h
   obtain⟨mm,ml⟩:=minI_mem z
   obtain⟨h1,h2⟩:=of_can hl mm
   refine⟨h1,h2,fun u hu hu2 j hj=>?_⟩
   cases w:waitsB u (keysJ js) l j with
   | false=>rfl
   | true =>
     obtain⟨x,hx,hxu⟩:=can_of hl hj hu w
     have:=ml x hx
     omega
theorem nextD_or (js:List Jb) (l:List Int) (t:Int):nextD js l t = .non ∨ ∃ m,nextD js l t = .int m:=by
 unfold nextD
 split
 · exact .inl rfl
 · exact .inr ⟨_,rfl⟩
end
end KT
namespace KT
open PySem VL G Kd W9 W26 WG TB
abbrev Rw3:=Int × Int × Int
abbrev eRw3 (r:Rw3):D:=.tup [.int r.1,.int r.2.1,.int r.2.2]
/-- the rows of a turn -/
def layRw (t:Int):Int→List Nat→List Int→List Rw3
 | _,[],_=>[]
 | r,j::js,l=>(if 0<min r (l.getD j 0) then [(t,(j:Int),min r (l.getD j 0))] else [])++layRw t (r-min r (l.getD j 0)) js (l.set j (l.getD j 0-min r (l.getD j 0)))
theorem layRw_len (t:Int):∀ (js:List Nat) (r:Int) (l:List Int),(layRw t r js l).length≤js.length
 | [],_,_=>by simp[layRw]
 | j::js,r,l=>by
   have ih:=layRw_len t js (r-min r (l.getD j 0)) (l.set j (l.getD j 0-min r (l.getD j 0)))
   have h1:(if 0<min r (l.getD j 0) then [(t,(j:Int),min r (l.getD j 0))] else []).length≤1:=by split <;> simp
   rw[layRw,List.length_append,List.length_cons]
   omega
/-- all rows laid ahead of minute t -/
def rowsP (F:Int) (keys:List (Int × Int)) (p:List Int):Nat→List Rw3
 | 0=>[]
 | t+1=>rowsP F keys p t++layRw t F (turnP t keys (leftP F keys p t)) (leftP F keys p t)
theorem turnP_len (t:Int) (keys:List (Int × Int)) (l:List Int):(turnP t keys l).length≤l.length:=by
 rw[(turnP_perm t keys l).length_eq]
 have:=List.length_filter_le (waitsB t keys l) (List.range l.length)
 rwa [List.length_range] at this
theorem rowsP_len (F:Int) (keys:List (Int × Int)) (p:List Int):∀ t,(rowsP F keys p t).length≤t*p.length
 | 0=>by simp[rowsP]
 | t+1=>by
   have ih:=rowsP_len F keys p t
   have h1:=layRw_len t (turnP t keys (leftP F keys p t)) F (leftP F keys p t)
   have h2:=turnP_len t keys (leftP F keys p t)
   rw[leftP_len] at h2
   rw[rowsP,List.length_append,Nat.succ_mul]
   omega
theorem turn_idle {t:Int} {keys:List (Int × Int)} {l:List Int} (h:∀ j,j<l.length→waitsB t keys l j=false):turnP t keys l=[]:=by
 have pm:=turnP_perm t keys l
 have z:(List.range l.length).filter (waitsB t keys l)=[]:=by
   rw[List.filter_eq_nil_iff]
   intro j hj
   rw[h j (List.mem_range.mp hj)]
   simp
 rw[z] at pm
 exact List.perm_nil.mp pm
theorem rowsP_idle {F:Int} {keys:List (Int × Int)} {p:List Int} {t:Nat} (h:∀ j,j<(leftP F keys p t).length→waitsB t keys (leftP F keys p t) j=false):rowsP F keys p (t+1)=rowsP F keys p t:=by
 rw[rowsP,turn_idle h]
 simp[layRw]
/-- minutes without a turn -/
theorem idle_run {F:Int} {keys:List (Int × Int)} {p:List Int} {t:Nat}:∀ n:Nat,(∀ u:Nat,t≤u→u<t+n → ∀ j,j<(leftP F keys p t).length→waitsB u keys (leftP F keys p t) j=false)→leftP F keys p (t+n)=leftP F keys p t∧rowsP F keys p (t+n)=rowsP F keys p t
 | 0,_=>⟨rfl,rfl⟩
 | n+1,h=>by
   obtain⟨e1,e2⟩:=idle_run n fun u h1 h2=>h u h1 (by omega)
   have hh:∀ j,j<(leftP F keys p (t+n)).length→waitsB (t+n:Nat) keys (leftP F keys p (t+n)) j=false:=by
     rw[e1]
     exact h (t+n) (by omega) (by omega)
   have q1:=leftP_idle hh
   have q2:=rowsP_idle hh
   exact⟨by rw[← Nat.add_assoc,q1,e1],by rw[← Nat.add_assoc,q2,e2]⟩
section
variable {X:AS}
abbrev stL (X:AS) (l:List Int) (R:List Rw3):AS:=X++[C.lst (l.map D.int),C.lst (R.map eRw3)]
theorem gL (l:List Int) (R:List Rw3):(stL X l R)[X.length]? = some (.lst (l.map D.int)):=by simp
theorem gR (l:List Int) (R:List Rw3):(stL X l R)[X.length+1]? = some (.lst (R.map eRw3)):=by
 rw[List.getElem?_append_right (by omega)]
 simp
theorem sL (l l':List Int) (R:List Rw3):(stL X l R).set X.length (.lst (l'.map D.int))=stL X l' R:=by
 rw[List.set_append_right _ _ (by omega)]
 simp
theorem sR (l:List Int) (R R':List Rw3):(stL X l R).set (X.length+1) (.lst (R'.map eRw3))=stL X l R':=by
 rw[List.set_append_right _ _ (by omega)]
 simp
theorem map_setI (l:List Int) (j:Nat) (v:Int):(l.map D.int).set j (.int v)=(l.set j v).map D.int:=(List.map_set (f:=D.int) (l:=l) (i:=j) (a:=v)).symm
theorem augS_ok {fo fi fe : En → AS → Out D} {env : En} {l : List Int} {R : List Rw3} {j : Nat} {v : Int} (h1 : fo env (stL X l R) = .ok (.ref X.length) (stL X l R)) (h2 : fi env (stL X l R) = .ok (.int (j : Nat)) (stL X l R)) (h3 : fe env (stL X l R) = .ok (.int v) (stL X l R)) (hj : j < l.length) :
   sAugS fo fi (iiD fun a b=>.int (a-b)) fe env (stL X l R) = .nx env (stL X (l.set j (l.getD j 0-v)) R):=by
 have g:=gL (X:=X) l R
 have s:=sL (X:=X) l (l.set j (l.getD j 0-v)) R
 have e:(l.map D.int)[j]? = some (.int (l.getD j 0)):=by
   rw[List.getElem?_map,List.getD_eq_getElem?_getD,List.getElem?_eq_getElem hj]
   rfl
 have ix:L2.ixN (l.map D.int).length (j:Int)=some j:=by
   rw[List.length_map]
   unfold L2.ixN
   simp[hj]
 rw[← map_setI] at s
 unfold sAugS
 rw[h1]
 dsimp only[Out.fl]
 rw[h2]
 dsimp only[Out.fl]
 rw[show VL.listOf (stL X l R) (.ref X.length)=some (l.map D.int) by simp[VL.listOf]]
 dsimp only
 rw[if_pos (by omega),Int.toNat_natCast,e]
 dsimp only
 rw[h3]
 dsimp only[Out.fl,iiD]
 have hs:setD (.ref X.length) (.int (j:Nat)) (.int (l.getD j 0-v)) (stL X l R) = .ok () (stL X (l.set j (l.getD j 0-v)) R):=by
   unfold setD
   dsimp only
   rw[g]
   dsimp only
   rw[ix]
   dsimp only
   rw[s]
 rw[hs]
end
end KT
namespace KT
open PySem VL G Kd W9 W26 WG TB
def pcs (js:List Jb):List Int:=js.map fun j=>j.2.2
theorem pcs_len (js:List Jb):(pcs js).length=js.length:=List.length_map _
abbrev enR (r:Rw3):List Int:=[r.1,r.2.1,r.2.2]
def srtRw (R:List Rw3):List Rw3:=R.mergeSort fun a b=>!decide (enR b<enR a)
theorem sort_ref {S:AS} {i:Nat} {R:List Rw3} (h:S[i]? = some (.lst (R.map eRw3))) (hl:R.length≤16000000):sortAD false (.ref i) S = .ok (.lst ((srtRw R).map eRw3)) S:=by
 have e:=sort_ints enR (n:=2) (fun _=>rfl) R hl S
 have e:sortAD false (.lst (R.map eRw3)) S = .ok (.lst ((srtRw R).map eRw3)) S:=e
 rw[← e]
 unfold sortAD
 rw[show VL.listOf S (.ref i)=some (R.map eRw3) by simp[VL.listOf,h]]
 rfl
theorem f_laid {js : List Jb} {k : Nat} (J : Jobs k js) (hk : k ≤ 1000) {f : Int} (f0 : 0 ≤ f) (f9 : f ≤ 9) (X : AS) :
   F_laid [.tup (js.map eJb),.int f] X = .ok (.tup ((srtRw (rowsP f (keysJ js) (pcs js) 501)).map eRw3)) X:=by
 have h9:js.length≤1000:=by have:=J.ln; omega
 have jl:(js.map eJb).length≤16000000:=by rw[List.length_map]; omega
 have cm:∀ a0 a1:Option D,compL (kTup 3 (kCons (kName 9) (kCons (kName 10) (kCons (kName 8) kNil)))) tYesV (vVar 8) [a0,a1,none,none,none,none,none,none,none,none,none] [] (js.map eJb) X = .ok ((pcs js).map D.int) X:=fun a0 a1=>by
   rw[show (pcs js).map D.int=js.map fun j=>D.int j.2.2 from List.map_map]
   exact comp_all eJb _ gd_nilOk js fun j _=>⟨_,rfl,rfl,rfl⟩
 have pl:((pcs js).map D.int).length≤16000000:=by rw[List.length_map,pcs_len]; omega
 have ll:∀ t,(leftP f (keysJ js) (pcs js) t).length=js.length:=fun t=>by rw[leftP_len,pcs_len]
 have rl:∀ t:Nat,t≤501→(rowsP f (keysJ js) (pcs js) t).length≤501000:=fun t ht=>by
   have h1:=rowsP_len f (keysJ js) (pcs js) t
   have h2:t*(pcs js).length≤501*1000:=Nat.mul_le_mul ht (by rw[pcs_len]; exact h9)
   omega
 have nx:=fun (t:Nat) (u:Int)=>f_next js (leftP f (keysJ js) (pcs js) t) (ll t) h9 (gL (X:=X) (leftP f (keysJ js) (pcs js) t) (rowsP f (keysJ js) (pcs js) t)) u
 have wt:=fun (t:Nat) (u:Int)=>f_waiting js (leftP f (keysJ js) (pcs js) t) (ll t) h9 (gL (X:=X) (leftP f (keysJ js) (pcs js) t) (rowsP f (keysJ js) (pcs js) t)) u
 have ends:∀ (u:Int) (l:List Int),l.length=js.length→500≤u → ∀ j,j<l.length→waitsB u (keysJ js) l j=false:=fun u l hl hu j hj=>by
   unfold waitsB
   rw[keys_at (by omega),decide_eq_false_iff_not]
   have o:=(J.ok js[j] (List.getElem_mem _)).e
   dsimp only
   omega
 refine eq_of_wpK ?_
 unfold F_laid
 rw[E8]; simp only[List.map_cons,List.map_nil,List.length_cons,List.length_nil,Nat.reduceAdd,Nat.reduceSub,List.replicate_succ,List.replicate_zero,List.cons_append,List.nil_append]
 unfold B_laid
 generalize hJ:js.map eJb=JL at *
 try simp -dsimp -implicitDefEqProofs [-ixD,-Int.toNat_natCast,↓A7,↓B1,↓B5,↓A9,↓D0,↓D6,↓E4,↓F4,↓E6,↓D9,↓E3,↓F6,↓F5,↓E9,↓F9,↓F3,↓F1,↓E5,↓F0,↓E7,↓F7,↓F8,↓B7,↓B6,↓C6,↓B8,↓C4,↓C5,↓A8,↓C3,↓B4,↓C7,↓A6,↓B9,↓C2,↓C9,↓C8,↓E8,mk,G0,G1,G5,G6,G7,G8,G9,H9,I6,I7,I8,I9,J0,J3,J4,J5,J6,J7,J8,J9,K0,K3,jl]
 refine wp_of (cm _ _) ?_
 try simp -dsimp -implicitDefEqProofs [-ixD,-Int.toNat_natCast,↓A7,↓B1,↓B5,↓A9,↓D0,↓D6,↓E4,↓F4,↓E6,↓D9,↓E3,↓F6,↓F5,↓E9,↓F9,↓F3,↓F1,↓E5,↓F0,↓E7,↓F7,↓F8,↓B7,↓B6,↓C6,↓B8,↓C4,↓C5,↓A8,↓C3,↓B4,↓C7,↓A6,↓B9,↓C2,↓C9,↓C8,↓E8,mk,G0,G1,G5,G6,G7,G8,G9,H9,I6,I7,I8,I9,J0,J3,J4,J5,J6,J7,J8,J9,K0,K3,pl]
 have n0:=nx 0 0
 have n0:F_next_minute [.tup JL,.ref X.length,.int 0] (stL X (pcs js) []) = .ok (nextD js (pcs js) 0) (stL X (pcs js) []):=n0
 have n1:F_next_minute [.tup JL,.ref X.length,.int 0] (X++[C.lst ((pcs js).map D.int),C.lst []]) = .ok (nextD js (pcs js) 0) (X++[C.lst ((pcs js).map D.int),C.lst []]):=n0
 refine wp_of n1 ?_
 try simp -dsimp -implicitDefEqProofs [-ixD,-Int.toNat_natCast,↓A7,↓B1,↓B5,↓A9,↓D0,↓D6,↓E4,↓F4,↓E6,↓D9,↓E3,↓F6,↓F5,↓E9,↓F9,↓F3,↓F1,↓E5,↓F0,↓E7,↓F7,↓F8,↓B7,↓B6,↓C6,↓B8,↓C4,↓C5,↓A8,↓C3,↓B4,↓C7,↓A6,↓B9,↓C2,↓C9,↓C8,↓E8,mk,G0,G1,G5,G6,G7,G8,G9,H9,I6,I7,I8,I9,J0,J3,J4,J5,J6,J7,J8,J9,K0,K3]
 refine wp_whileK 502 (fun k env st=>∃ t:Nat,k+t=502∧t≤501∧env=[some (.tup JL),some (.int f),some (.ref X.length),some (.ref (X.length+1)),some (nextD js (leftP f (keysJ js) (pcs js) t) t),none,none,none,none,none,none]∧st=stL X (leftP f (keysJ js) (pcs js) t) (rowsP f (keysJ js) (pcs js) t)) ⟨0,rfl,by omega,rfl,rfl⟩ ?_
 rintro k env st ⟨t,hk,ht,e1,e2⟩
 subst e1
 subst e2
 rcases nextD_or js (leftP f (keysJ js) (pcs js) t) t with nn | ⟨m,ns⟩
 · have idle:=idle_run (F:=f) (keys:=keysJ js) (p:=pcs js) (t:=t) (501-t) fun u h1 h2 j hj=>next_none (ll t) nn (by omega) hj
   rw[show t+(501-t)=501 by omega] at idle
   have e501:=idle.2
   have hr:=rl t ht
   have gr:=gR (X:=X) (leftP f (keysJ js) (pcs js) t) (rowsP f (keysJ js) (pcs js) t)
   have sa:=sort_ref gr (by omega)
   have srl:((srtRw (rowsP f (keysJ js) (pcs js) t)).map eRw3).length≤16000000:=by
     rw[List.length_map]
     unfold srtRw
     rw[List.length_mergeSort]
     omega
   have pu:(D.tup ((srtRw (rowsP f (keysJ js) (pcs js) t)).map eRw3)).pure=true:=by
     rw[D.pure]
     exact pures_mapF eRw3 (fun r=>by simp[D.pure,D.pures]) _
   have rt:VL.ret 0 X (D.tup ((srtRw (rowsP f (keysJ js) (pcs js) t)).map eRw3)) (stL X (leftP f (keysJ js) (pcs js) t) (rowsP f (keysJ js) (pcs js) t)) = .ok _ X:=ret_app _ pu
   rw[nn,e501]
   generalize (srtRw (rowsP f (keysJ js) (pcs js) t)).map eRw3=SR at *
   generalize stL X (leftP f (keysJ js) (pcs js) t) (rowsP f (keysJ js) (pcs js) t)=S1 at *
   try simp -dsimp -implicitDefEqProofs [-ixD,-Int.toNat_natCast,↓A7,↓B1,↓B5,↓A9,↓D0,↓D6,↓E4,↓F4,↓E6,↓D9,↓E3,↓F6,↓F5,↓E9,↓F9,↓F3,↓F1,↓E5,↓F0,↓E7,↓F7,↓F8,↓B7,↓B6,↓C6,↓B8,↓C4,↓C5,↓A8,↓C3,↓B4,↓C7,↓A6,↓B9,↓C2,↓C9,↓C8,↓E8,mk,G0,G1,G5,G6,G7,G8,G9,H9,I6,I7,I8,I9,J0,J3,J4,J5,J6,J7,J8,J9,K0,K3,-sortAD,sa,srl]
   rw[rt]
   exact⟨rfl,rfl⟩
 · obtain⟨h1,⟨j,hj,w⟩,h3⟩:=next_some (ll t) ns
   have m5:m<500:=by
     have:=ends m (leftP f (keysJ js) (pcs js) t) (ll t)
     by_cases z:500≤m
     · rw[this z j hj] at w
       cases w
     · omega
   obtain⟨mn,rfl⟩:∃ mn:Nat,m=mn:=⟨m.toNat,by omega⟩
   have idle:=idle_run (F:=f) (keys:=keysJ js) (p:=pcs js) (t:=t) (mn-t) fun u h1 h2 j hj=>h3 u (by omega) (by omega) j hj
   rw[show t+(mn-t)=mn by omega] at idle
   obtain⟨el,er⟩:=idle
   rw[ns,← el,← er]
   have wm:=wt mn mn
   have hr:=rl mn (by omega)
   have llm:=ll mn
   have tm:∀ j∈turnP mn (keysJ js) (leftP f (keysJ js) (pcs js) mn),j<(leftP f (keysJ js) (pcs js) mn).length:=fun j hj=>by
     have:=(turnP_perm _ _ _).mem_iff.mp hj
     exact List.mem_range.mp (List.mem_filter.mp this).1
   have tl:=turnP_len mn (keysJ js) (leftP f (keysJ js) (pcs js) mn)
   have tl2:((turnP mn (keysJ js) (leftP f (keysJ js) (pcs js) mn)).map fun j:Nat=>D.int (j:Int)).length≤16000000:=by rw[List.length_map]; omega
   have nm:=nx (mn+1) ((mn:Int)+1)
   have el2:leftP f (keysJ js) (pcs js) (mn+1)=layI f (turnP mn (keysJ js) (leftP f (keysJ js) (pcs js) mn)) (leftP f (keysJ js) (pcs js) mn):=rfl
   have er2:rowsP f (keysJ js) (pcs js) (mn+1)=rowsP f (keysJ js) (pcs js) mn++layRw mn f (turnP mn (keysJ js) (leftP f (keysJ js) (pcs js) mn)) (leftP f (keysJ js) (pcs js) mn):=rfl
   clear w h3 n0 n1 nx wt el er
   generalize leftP f (keysJ js) (pcs js) mn=L0 at *
   generalize rowsP f (keysJ js) (pcs js) mn=R0 at *
   generalize turnP mn (keysJ js) L0=T0 at *
   try simp -dsimp -implicitDefEqProofs [-ixD,-Int.toNat_natCast,↓A7,↓B1,↓B5,↓A9,↓D0,↓D6,↓E4,↓F4,↓E6,↓D9,↓E3,↓F6,↓F5,↓E9,↓F9,↓F3,↓F1,↓E5,↓F0,↓E7,↓F7,↓F8,↓B7,↓B6,↓C6,↓B8,↓C4,↓C5,↓A8,↓C3,↓B4,↓C7,↓A6,↓B9,↓C2,↓C9,↓C8,↓E8,mk,G0,G1,G5,G6,G7,G8,G9,H9,I6,I7,I8,I9,J0,J3,J4,J5,J6,J7,J8,J9,K0,K3,wm,tl2]
   refine wp_for0 (fun ds env s=>Hold (∃ (T1:List Nat) (r:Int) (L1:List Int) (R1:List Rw3),ds=T1.map (fun j:Nat=>D.int (j:Int))∧layI r T1 L1=layI f T0 L0∧R1++layRw mn r T1 L1=R0++layRw mn f T0 L0∧L1.length=js.length∧(∀ j∈T1,j<js.length)∧R1.length+T1.length≤502000∧(∃ x:Option D,env=[some (.tup JL),some (.int f),some (.ref X.length),some (.ref (X.length+1)),some (.int mn),some (.int r),some (.lst (T0.map fun j:Nat=>D.int (j:Int))),none,none,none,none])∧s=stL X L1 R1)) ?_ ?_ ?_
   · exact⟨T0,f,L0,R0,rfl,rfl,rfl,llm,fun j hj=>by have:=tm j hj; omega,by omega,⟨none,rfl⟩,rfl⟩
   · rintro d ds env s ⟨T1,r,L1,R1,e1,e2,e3,l1,t1,rl1,⟨_,e4⟩,e5⟩
     subst e4
     subst e5
     obtain⟨j,T2,rfl,rfl,rfl⟩:∃ j T2,T1=j::T2∧d = .int (j:Nat)∧ds=T2.map (fun j:Nat=>D.int (j:Int)):=by
       cases T1 with
       | nil=>cases e1
       | cons j T2=>injection e1 with h1 h2; exact⟨j,T2,rfl,h1,h2⟩
     have jl2:j<L1.length:=by have:=t1 j List.mem_cons_self; omega
     have la:=left_at (gL (X:=X) L1 R1) jl2
     rw[layI] at e2
     rw[layRw] at e3
     have rr:R1.length+T2.length+1≤502000:=by rw[List.length_cons] at rl1; omega
     have t2:∀ i∈T2,i<js.length:=fun i hi=>t1 i (List.mem_cons_of_mem _ hi)
     have gr:=gR (X:=X) L1 R1
     have sr:=fun R'=>sR (X:=X) L1 R1 R'
     have au:=fun (R':List Rw3) (env:En)=>augS_ok (X:=X) (fo:=vVar 2) (fi:=vVar 7) (fe:=vVar 8) (env:=env) (l:=L1) (R:=R') (j:=j) (v:=min r (L1.getD j 0))
     generalize L1.getD j 0=lj at *
     clear e1
     have ap:∀ r3:Rw3,appD (.ref (X.length+1)) [eRw3 r3] (stL X L1 R1) = .ok .non (stL X L1 (R1++[r3])):=fun r3=>by
       have s2:=sr (R1++[r3])
       rw[List.map_append] at s2
       unfold appD
       simp only[putL,gr]
       rw[if_pos (by rw[List.length_map,sizeLine_eq]; omega)]
       dsimp only
       rw[show List.map eRw3 R1++[eRw3 r3]=List.map eRw3 R1++List.map eRw3 [r3] from rfl,s2]
     have fin:∀ (R2:List Rw3),R2++layRw mn (r-min r lj) T2 (L1.set j (lj-min r lj))=R0++layRw mn f T0 L0→R2.length+T2.length≤502000→Hold (∃ (T1:List Nat) (r':Int) (L1':List Int) (R1:List Rw3),T2.map (fun j:Nat=>D.int (j:Int))=T1.map (fun j:Nat=>D.int (j:Int))∧layI r' T1 L1'=layI f T0 L0∧R1++layRw mn r' T1 L1'=R0++layRw mn f T0 L0∧L1'.length=js.length∧(∀ j∈T1,j<js.length)∧R1.length+T1.length≤502000∧(∃ x:Option D,([some (.tup JL),some (.int f),some (.ref X.length),some (.ref (X.length+1)),some (.int mn),some (.int (r-min r lj)),some (.lst (T0.map fun j:Nat=>D.int (j:Int))),none,none,none,none]:En)=[some (.tup JL),some (.int f),some (.ref X.length),some (.ref (X.length+1)),some (.int mn),some (.int r'),some (.lst (T0.map fun j:Nat=>D.int (j:Int))),none,none,none,none])∧stL X (L1.set j (lj-min r lj)) R2=stL X L1' R1) :=
       fun R2 h1 h2=>⟨T2,r-min r lj,L1.set j (lj-min r lj),R2,rfl,e2,h1,by rw[List.length_set]; exact l1,t2,h2,⟨none,rfl⟩,rfl⟩
     by_cases z:0<min r lj
     · rw[if_pos z] at e3
       have ap:=ap (mn,j,min r lj)
       try simp -dsimp -implicitDefEqProofs [-ixD,-Int.toNat_natCast,↓A7,↓B1,↓B5,↓A9,↓D0,↓D6,↓E4,↓F4,↓E6,↓D9,↓E3,↓F6,↓F5,↓E9,↓F9,↓F3,↓F1,↓E5,↓F0,↓E7,↓F7,↓F8,↓B7,↓B6,↓C6,↓B8,↓C4,↓C5,↓A8,↓C3,↓B4,↓C7,↓A6,↓B9,↓C2,↓C9,↓C8,↓E8,mk,G0,G1,G5,G6,G7,G8,G9,H9,I6,I7,I8,I9,J0,J3,J4,J5,J6,J7,J8,J9,K0,K3,-ixD,-appD,-sAugS,la,ap,gr]
       refine⟨fun _=>?_,fun y=>absurd z (by omega)⟩
       rw[au (R1++[((mn:Int),(j:Int),min r lj)]) _ rfl rfl rfl jl2]
       try simp -dsimp -implicitDefEqProofs [-ixD,-Int.toNat_natCast,↓A7,↓B1,↓B5,↓A9,↓D0,↓D6,↓E4,↓F4,↓E6,↓D9,↓E3,↓F6,↓F5,↓E9,↓F9,↓F3,↓F1,↓E5,↓F0,↓E7,↓F7,↓F8,↓B7,↓B6,↓C6,↓B8,↓C4,↓C5,↓A8,↓C3,↓B4,↓C7,↓A6,↓B9,↓C2,↓C9,↓C8,↓E8,mk,G0,G1,G5,G6,G7,G8,G9,H9,I6,I7,I8,I9,J0,J3,J4,J5,J6,J7,J8,J9,K0,K3]
       exact fin _ (by rw[List.append_assoc]; exact e3) (by simp; omega)
     · rw[if_neg z] at e3
       try simp -dsimp -implicitDefEqProofs [-ixD,-Int.toNat_natCast,↓A7,↓B1,↓B5,↓A9,↓D0,↓D6,↓E4,↓F4,↓E6,↓D9,↓E3,↓F6,↓F5,↓E9,↓F9,↓F3,↓F1,↓E5,↓F0,↓E7,↓F7,↓F8,↓B7,↓B6,↓C6,↓B8,↓C4,↓C5,↓A8,↓C3,↓B4,↓C7,↓A6,↓B9,↓C2,↓C9,↓C8,↓E8,mk,G0,G1,G5,G6,G7,G8,G9,H9,I6,I7,I8,I9,J0,J3,J4,J5,J6,J7,J8,J9,K0,K3,-ixD,-appD,-sAugS,la,gr]
       refine⟨fun y=>absurd y z,fun _=>?_⟩
       rw[au R1 _ rfl rfl rfl jl2]
       try simp -dsimp -implicitDefEqProofs [-ixD,-Int.toNat_natCast,↓A7,↓B1,↓B5,↓A9,↓D0,↓D6,↓E4,↓F4,↓E6,↓D9,↓E3,↓F6,↓F5,↓E9,↓F9,↓F3,↓F1,↓E5,↓F0,↓E7,↓F7,↓F8,↓B7,↓B6,↓C6,↓B8,↓C4,↓C5,↓A8,↓C3,↓B4,↓C7,↓A6,↓B9,↓C2,↓C9,↓C8,↓E8,mk,G0,G1,G5,G6,G7,G8,G9,H9,I6,I7,I8,I9,J0,J3,J4,J5,J6,J7,J8,J9,K0,K3]
       exact fin _ e3 (by omega)
   · rintro env s ⟨T1,r,L1,R1,e1,e2,e3,l1,t1,rl1,⟨_,e4⟩,e5⟩
     subst e4
     subst e5
     have t0:T1=[]:=by
       cases T1 with
       | nil=>rfl
       | cons _ _=>cases e1
     subst t0
     rw[layI] at e2
     rw[layRw,List.append_nil] at e3
     rw[← el2] at e2
     rw[← er2] at e3
     subst e2
     subst e3
     try simp -dsimp -implicitDefEqProofs [-ixD,-Int.toNat_natCast,↓A7,↓B1,↓B5,↓A9,↓D0,↓D6,↓E4,↓F4,↓E6,↓D9,↓E3,↓F6,↓F5,↓E9,↓F9,↓F3,↓F1,↓E5,↓F0,↓E7,↓F7,↓F8,↓B7,↓B6,↓C6,↓B8,↓C4,↓C5,↓A8,↓C3,↓B4,↓C7,↓A6,↓B9,↓C2,↓C9,↓C8,↓E8,mk,G0,G1,G5,G6,G7,G8,G9,H9,I6,I7,I8,I9,J0,J3,J4,J5,J6,J7,J8,J9,K0,K3,nm]
     exact⟨k-(mn+1-t),by omega,mn+1,by omega,by omega,rfl,rfl,rfl⟩
end KT
namespace KT
open PySem VL G Kd W9 W26 WG TB
def rowsK (js:List Jb) (f:Int):List Rw3:=srtRw (rowsP f (keysJ js) (pcs js) 501)
def kitD (js:List Jb) (f:Int):D:=match fullK js f with
 | p::_=>.tup [.str (Str.ofString "full"),eSt p]
 | []=>.tup [.str (Str.ofString "row"),.tup ((rowsK js f).map eRw3)]
theorem f_kitchen {js:List Jb} {k:Nat} (J:Jobs k js) (hk:k≤1000) {f:Int} (f0:0≤f) (f9:f≤9) (X:AS):F_kitchen [.tup (js.map eJb),.int f] X = .ok (kitD js f) X:=by
 have ff:=f_full_stretches js J hk f f0 f9 X
 have fl:=f_laid J hk f0 f9 X
 have fl:F_laid [.tup (js.map eJb),.int f] X = .ok (.tup ((rowsK js f).map eRw3)) X:=fl
 unfold kitD
 generalize D.tup (js.map eJb)=JD at *
 generalize D.tup ((rowsK js f).map eRw3)=RD at *
 cases e:fullK js f with
 | nil =>
   rw[e] at ff
   simp -implicitDefEqProofs [F_kitchen,B_kitchen,ff,fl,G0]
 | cons p r =>
   rw[e] at ff
   have i0:∀ S,ixD (.lst ((p::r).map eSt)) (.int 0) S = .ok (eSt p) S:=fun S=>by simp[L2.atI,L2.ixN]
   have tr:∀ S,truD (.lst ((p::r).map eSt)) S = .ok true S:=fun S=>by simp[truD]
   generalize D.lst ((p::r).map eSt)=FD at *
   simp -implicitDefEqProofs [-truD,-ixD,F_kitchen,B_kitchen,ff,i0,tr,G0]
/-- pieces of the rows of one minute; of one job -/
def atM (t:Int) (R:List Rw3):Int:=((R.filter fun r=>decide (r.1=t)).map fun r=>r.2.2).sum
def ofJ (j:Int) (R:List Rw3):Int:=((R.filter fun r=>decide (r.2.1=j)).map fun r=>r.2.2).sum
theorem atM_app (t:Int) (a b:List Rw3):atM t (a++b)=atM t a+atM t b:=by simp[atM,List.filter_append,List.sum_append]
theorem ofJ_app (j:Int) (a b:List Rw3):ofJ j (a++b)=ofJ j a+ofJ j b:=by simp[ofJ,List.filter_append,List.sum_append]
theorem layRw_min (t:Int):∀ (js:List Nat) (r:Int) (l:List Int),∀ x∈layRw t r js l,x.1=t∧(∃ j∈js,x.2.1=(j:Int))∧0<x.2.2
 | [],_,_,x,h=>by cases h
 | j::js,r,l,x,h=>by
   rw[layRw] at h
   rcases List.mem_append.mp h with h | h
   · split at h
     · rw[List.mem_singleton.mp h]
       exact⟨rfl,⟨j,List.mem_cons_self,rfl⟩,by assumption⟩
     · cases h
   · obtain⟨a,⟨i,hi,b⟩,c⟩:=layRw_min t js _ _ x h
     exact⟨a,⟨i,List.mem_cons_of_mem _ hi,b⟩,c⟩
/-- one row's pieces,or none -/
theorem one_atM (t:Int) (j:Nat) (v:Int) (hv:0≤v):atM t (if 0<v then [(t,(j:Int),v)] else [])=v:=by
 split
 · simp[atM]
 · simp[atM]; omega
theorem one_ofJ (t:Int) (j:Nat) (v:Int) (hv:0≤v) (i:Int):ofJ i (if 0<v then [(t,(j:Int),v)] else [])=if (j:Int)=i then v else 0:=by
 split
 · by_cases z:(j:Int)=i
   · simp[ofJ,z]
   · simp[ofJ,z]
 · have:v=0:=by omega
   subst this
   simp[ofJ]
theorem getD_setD (l:List Int) (j i:Nat) (v:Int) (hj:j<l.length):(l.set j v).getD i 0=if j=i then v else l.getD i 0:=by
 by_cases z:j=i
 · subst z
   rw[if_pos rfl]
   exact getD_set_eq hj
 · rw[if_neg z]
   exact getD_set_ne (Ne.symm z)
theorem layRw_atM (t:Int):∀ (js:List Nat) (r:Int) (l:List Int),0≤r→(∀ j,j<l.length→0≤l.getD j 0)→(∀ j∈js,j<l.length)→0≤atM t (layRw t r js l)∧atM t (layRw t r js l)≤r
 | [],r,l,h,_,_=>by simp[layRw,atM,h]
 | j::js,r,l,h,nn,hj=>by
   have l0:=nn j (hj j List.mem_cons_self)
   have hjl:=hj j List.mem_cons_self
   have ih:=layRw_atM t js (r-min r (l.getD j 0)) (l.set j (l.getD j 0-min r (l.getD j 0))) (by omega) (fun i hi=>by
     rw[List.length_set] at hi
     rw[getD_setD _ _ _ _ hjl]
     have:=nn i hi
     split <;> omega) (fun i hi=>by rw[List.length_set]; exact hj i (List.mem_cons_of_mem _ hi))
   rw[layRw,atM_app,one_atM t j _ (by omega)]
   omega
theorem layRw_ofJ (t:Int) (i:Nat):∀ (js:List Nat) (r:Int) (l:List Int),0≤r→(∀ j,j<l.length→0≤l.getD j 0)→(∀ j∈js,j<l.length)→ofJ i (layRw t r js l)+(layI r js l).getD i 0=l.getD i 0
 | [],r,l,h,_,_=>by simp[layRw,ofJ,layI]
 | j::js,r,l,h,nn,hj=>by
   have l0:=nn j (hj j List.mem_cons_self)
   have hjl:=hj j List.mem_cons_self
   have ih:=layRw_ofJ t i js (r-min r (l.getD j 0)) (l.set j (l.getD j 0-min r (l.getD j 0))) (by omega) (fun i hi=>by
     rw[List.length_set] at hi
     rw[getD_setD _ _ _ _ hjl]
     have:=nn i hi
     split <;> omega) (fun i hi=>by rw[List.length_set]; exact hj i (List.mem_cons_of_mem _ hi))
   rw[getD_setD _ _ _ _ hjl] at ih
   rw[layRw,layI,ofJ_app,one_ofJ t j _ (by omega)]
   by_cases z:j=i
   · subst z
     rw[if_pos rfl] at ih ⊢
     omega
   · rw[if_neg z] at ih
     rw[if_neg (by omega)]
     omega
theorem atM_ne {t u:Int} {R:List Rw3} (h:∀ x∈R,x.1≠u):atM u R=0:=by
 unfold atM
 rw[List.filter_eq_nil_iff.mpr fun x hx=>by simp[h x hx]]
 rfl
theorem layRw_pw (t:Int):∀ (js:List Nat) (r:Int) (l:List Int),js.Nodup→(layRw t r js l).Pairwise fun a b=>(a.1,a.2.1)≠(b.1,b.2.1)
 | [],_,_,_=>by simp[layRw]
 | j::js,r,l,nd=>by
   rw[List.nodup_cons] at nd
   rw[layRw]
   refine List.pairwise_append.mpr ⟨by split <;> simp,layRw_pw t js _ _ nd.2,fun a ha b hb e=>?_⟩
   obtain⟨_,⟨i,hi,h2⟩,_⟩:=layRw_min t js _ _ b hb
   split at ha
   · rw[List.mem_singleton.mp ha] at e
     injection e with e1 e2
     have e3:(j:Int)=b.2.1:=e2
     have:j=i:=by omega
     exact nd.1 (this ▸ hi)
   · cases ha
/-- what a row must be -/
structure RwOk (js:List Jb) (r:Rw3):Prop where
 ex:∃ j:Nat,∃ h:j<js.length,r.2.1=(j:Int)∧js[j].1≤r.1∧r.1<js[j].2.1
 p0:0<r.2.2
section
variable {js:List Jb} {f:Int} {k:Nat}
theorem pcs_nn (J:Jobs k js):∀ j,j<(pcs js).length→0≤(pcs js).getD j 0:=fun j hj=>by
 have h2:j<js.length:=by rw[pcs_len] at hj; exact hj
 unfold pcs
 rw[List.getD_eq_getElem?_getD,List.getElem?_map,List.getElem?_eq_getElem h2]
 exact (J.ok _ (List.getElem_mem h2)).p.1
theorem rowsP_ok (J : Jobs k js) (f0 : 0 ≤ f) : ∀ t : Nat, (∀ r ∈ rowsP f (keysJ js) (pcs js) t, RwOk js r ∧ 0 ≤ r.1 ∧ r.1 < t) ∧
   (∀ u:Int,0≤atM u (rowsP f (keysJ js) (pcs js) t)∧atM u (rowsP f (keysJ js) (pcs js) t)≤f)∧(∀ i:Nat,ofJ i (rowsP f (keysJ js) (pcs js) t)+(leftP f (keysJ js) (pcs js) t).getD i 0=(pcs js).getD i 0) ∧
   (rowsP f (keysJ js) (pcs js) t).Pairwise fun a b=>(a.1,a.2.1)≠(b.1,b.2.1)
 | 0=>⟨fun r h=>by simp[rowsP] at h,fun u=>by simp[rowsP,atM,f0],fun i=>by simp[rowsP,ofJ,leftP],by simp[rowsP]⟩
 | t+1=>by
   obtain⟨i1,i2,i3,i4⟩:=rowsP_ok J f0 t
   have kl:(keysJ js).length=(pcs js).length:=by rw[pcs_len,List.length_map]
   have nn:=leftP_nn f0 kl (pcs_nn J) t
   have tu:=turnP_ok (t:=t) (keys:=keysJ js) (l:=leftP f (keysJ js) (pcs js) t) (by rw[leftP_len]; exact kl) nn
   have tj:∀ j∈turnP t (keysJ js) (leftP f (keysJ js) (pcs js) t),j<(leftP f (keysJ js) (pcs js) t).length:=fun j hj=>((tu.mem j).mp hj).1
   have am:=layRw_atM t (turnP t (keysJ js) (leftP f (keysJ js) (pcs js) t)) f (leftP f (keysJ js) (pcs js) t) f0 nn tj
   have oj:=fun i=>layRw_ofJ t i (turnP t (keysJ js) (leftP f (keysJ js) (pcs js) t)) f (leftP f (keysJ js) (pcs js) t) f0 nn tj
   have mi:=layRw_min t (turnP t (keysJ js) (leftP f (keysJ js) (pcs js) t)) f (leftP f (keysJ js) (pcs js) t)
   refine⟨fun r h=>?_,fun u=>?_,fun i=>?_,?_⟩
   · rw[rowsP] at h
     rcases List.mem_append.mp h with h | h
     · obtain⟨a,b,c⟩:=i1 r h
       exact⟨a,b,by omega⟩
     · obtain⟨a,⟨j,hj,b⟩,c⟩:=mi r h
       obtain⟨q1,q2,q3,q4⟩:=(tu.mem j).mp hj
       rw[leftP_len,pcs_len] at q1
       rw[keys_at q1] at q3 q4
       dsimp only at q3 q4
       refine⟨⟨⟨j,q1,b,by omega,by omega⟩,c⟩,by omega,by omega⟩
   · rw[rowsP,atM_app]
     by_cases z:u=t
     · subst z
       rw[atM_ne (t:=(t:Int)) fun x hx=>by have:=(i1 x hx).2.2; omega]
       omega
     · rw[atM_ne (t:=u) (R:=layRw _ _ _ _) fun x hx=>by rw[(mi x hx).1]; exact Ne.symm z]
       have:=i2 u
       omega
   · rw[rowsP,ofJ_app,leftP]
     have a:=i3 i
     have b:=oj i
     omega
   · rw[rowsP]
     refine List.pairwise_append.mpr ⟨i4,?_,fun a ha b hb e=>?_⟩
     · exact layRw_pw t _ _ _ tu.nd
     · have h1:=(i1 a ha).2.2
       have h2:=(mi b hb).1
       injection e with e1 e2
       omega
theorem srtRw_perm (R:List Rw3):(srtRw R).Perm R:=List.mergeSort_perm _ _
theorem lt_enR (a b:Rw3):enR a<enR b↔a.1<b.1∨a.1=b.1∧(a.2.1<b.2.1∨a.2.1=b.2.1∧a.2.2<b.2.2):=by
 unfold enR
 rw[List.cons_lt_cons_iff,List.cons_lt_cons_iff,List.cons_lt_cons_iff]
 simp
theorem srtRw_pw {R:List Rw3} (nd:R.Pairwise fun a b=>(a.1,a.2.1)≠(b.1,b.2.1)):(srtRw R).Pairwise fun a b=>a.1<b.1∨a.1=b.1∧a.2.1<b.2.1:=by
 have p1:(srtRw R).Pairwise fun a b=>(!decide (enR b<enR a))=true:=by
   refine List.pairwise_mergeSort (fun a b c h1 h2=>?_) (fun a b=>?_) R
   · rw[Bool.not_eq_true',decide_eq_false_iff_not,lt_enR] at *
     omega
   · rw[Bool.or_eq_true,Bool.not_eq_true',Bool.not_eq_true',decide_eq_false_iff_not,decide_eq_false_iff_not,lt_enR,lt_enR]
     omega
 have p2:(srtRw R).Pairwise fun a b=>(a.1,a.2.1)≠(b.1,b.2.1):=by
   have h:=(srtRw_perm R).symm
   exact (h.pairwise_iff fun {a b} h=>Ne.symm h).mp nd
 refine (p1.and p2).imp fun {a b} h=>?_
 obtain⟨h1,h2⟩:=h
 rw[Bool.not_eq_true',decide_eq_false_iff_not,lt_enR] at h1
 have h3:¬ (a.1=b.1∧a.2.1=b.2.1):=fun z=>h2 (by rw[z.1,z.2])
 omega
theorem atM_perm {a b:List Rw3} (h:a.Perm b) (t:Int):atM t a=atM t b:=perm_sum ((h.filter _).map _)
theorem ofJ_perm {a b:List Rw3} (h:a.Perm b) (t:Int):ofJ t a=ofJ t b:=perm_sum ((h.filter _).map _)
/-- a right row of all pieces -/
structure Rws (js:List Jb) (f:Int) (R:List Rw3):Prop where
 ok:∀ r∈R,RwOk js r∧0≤r.1∧r.1<501
 up:R.Pairwise fun a b=>a.1<b.1∨a.1=b.1∧a.2.1<b.2.1
 mi:∀ u,0≤atM u R∧atM u R≤f
 jo:∀ i:Nat,ofJ i R=(pcs js).getD i 0
 ln:R.length≤501000
theorem ent_zip (js:List Jb):entJ js=(keysJ js).zip (pcs js):=by
 unfold entJ keysJ pcs
 rw[List.zip_map']
/-- what the kitchen lays where no stretch is full -/
theorem rows_right (J:Jobs k js) (hk:k≤1000) (f0:0≤f) (h:fullK js f=[]):Rws js f (rowsK js f):=by
 obtain⟨i1,i2,i3,i4⟩:=rowsP_ok J f0 501
 have kl:(keysJ js).length=(pcs js).length:=by rw[pcs_len,List.length_map]
 have pm:=srtRw_perm (rowsP f (keysJ js) (pcs js) 501)
 have mem:∀ x∈keysJ js,∃ j∈js,x=(j.1,j.2.1):=fun x hx=>by
   obtain⟨j,hj,rfl⟩:=List.mem_map.mp hx
   exact⟨j,hj,rfl⟩
 have al:=all_laid (F:=f) (keys:=keysJ js) (p:=pcs js) (t:=501) f0 kl (fun x hx=>by
   obtain⟨j,hj,rfl⟩:=mem x hx
   exact⟨(J.ok j hj).b.1,(J.ok j hj).e.1⟩) (pcs_nn J) (fun x hx y hy hxy=>by
   obtain⟨j,hj,rfl⟩:=mem x hx
   obtain⟨i,hi,rfl⟩:=mem y hy
   have m:(j.1,i.2.1)∈strK js:=mem_strK.mpr ⟨⟨j,hj,rfl⟩,⟨i,hi,rfl⟩,hxy⟩
   have n:¬ 0<overI js f j.1 i.2.1:=fun z=>by
     have:(j.1,i.2.1)∈fullK js f:=List.mem_filter.mpr ⟨m,decide_eq_true z⟩
     rw[h] at this
     cases this
   unfold overI at n
   rw[ent_zip] at n
   dsimp only at n ⊢
   omega) (fun x hx=>by
   obtain⟨j,hj,rfl⟩:=mem x hx
   have:=(J.ok j hj).e.2
   dsimp only
   omega)
 refine⟨fun r hr=>?_,srtRw_pw i4,fun u=>?_,fun i=>?_,?_⟩
 · have:=i1 r (pm.mem_iff.mp hr)
   exact⟨this.1,this.2.1,by omega⟩
 · unfold rowsK
   rw[atM_perm pm]
   exact i2 u
 · unfold rowsK
   rw[ofJ_perm pm]
   have a:=i3 i
   by_cases z:i<(pcs js).length
   · have:=al i z
     omega
   · have e : (leftP f (keysJ js) (pcs js) 501).getD i 0 = 0 := by
       rw[List.getD_eq_getElem?_getD,List.getElem?_eq_none (by rw[leftP_len]; omega)]
       rfl
     omega
 · have h1:=rowsP_len f (keysJ js) (pcs js) 501
   have h2:501*(pcs js).length≤501*1000:=Nat.mul_le_mul_left _ (by rw[pcs_len]; have:=J.ln; omega)
   unfold rowsK
   rw[pm.length_eq]
   omega
end
end KT
namespace KT
open PySem VL G Kd W9 W26 WG TB
end KT
namespace KT
open PySem VL G Kd W9 W26 WG TB
abbrev eU (kvs:List (Int × Int)):List (L2.Key × D):=enK Sum.inl D.int kvs
theorem put_lenK (l:List (Int × Int)) (k v:Int):(G.put l k v).length≤l.length+1:=by
 unfold G.put
 split <;> simp
section
variable {X:AS}
/-- the dict tells the sums of these rows -/
def Sums (g:Rw3→Int) (kvs:List (Int × Int)) (R:List Rw3):Prop:=∀ t,(look kvs t).getD 0=((R.filter fun r=>decide (g r=t)).map fun r=>r.2.2).sum
theorem Sums.nil (g:Rw3→Int):Sums g [] []:=fun t=>by simp
theorem Sums.snoc {g:Rw3→Int} {kvs:List (Int × Int)} {R:List Rw3} (h:Sums g kvs R) (r:Rw3):Sums g (G.put kvs (g r) ((look kvs (g r)).getD 0+r.2.2)) (R++[r]):=fun t=>by
 rw[look_put]
 by_cases z:t=g r
 · subst z
   rw[if_pos rfl,Option.getD_some,h (g r),List.filter_append,List.map_append,List.sum_append]
   simp
 · rw[if_neg z,h t,List.filter_append,List.map_append,List.sum_append]
   simp[Ne.symm z]
end
end KT
namespace KT
open PySem VL G Kd W9 W26 WG TB
section
variable {js:List Jb} {R:List Rw3} {X:AS} {f:Int}
def tot (R:List Rw3):Int:=(R.map fun r=>r.2.2).sum
end
end KT
namespace G
open PySem VL
end G
namespace KT
open PySem VL G Kd W9 W26 WG TB
end KT
namespace TG
open PySem TB
def Lt (s:Str):Prop:=∀ c∈s.cps.toList,c<1114112
end TG
set_option exponentiation.threshold 2000
namespace KT
open PySem VL G Kd W9 W26 WG TB
/-- a thing that is asked about -/
def Tg (x:D):Prop:=Kd.Ok 40 4 1 x
theorem Tg.sm {x:D} (h:Tg x):Sm x:=fun b e z=>by
 subst z
 obtain⟨_,_,hp⟩:=h.parts
 have h1:=(hp (.int b) (by simp)).2.2
 have h2:=(hp (.int e) (by simp)).2.2
 rw[D.py] at h1 h2
 simp only[Ats] at h1 h2
 exact⟨Nat.lt_of_lt_of_le h1 (Nat.pow_le_pow_right (by decide) (by decide)),Nat.lt_of_lt_of_le h2 (Nat.pow_le_pow_right (by decide) (by decide))⟩
theorem ret_blK {frz:Nat} {st0 S:AS} {b:Bool} {E:XQ}:(VL.ret frz st0 (.bl b) S).wp (fun d _=>d = .bl b) E:=by
 have e:frzD S st0.length frz (.bl b) = .bl b:=pure_frz _ _ _ _ rfl
 unfold VL.ret
 rw[e]
 split
 · rfl
 · split <;> rfl
end KT
namespace KT
open PySem VL G Kd W9 W26 WG TB
def totJ (js:List Jb):Int:=(js.map fun j=>j.2.2).sum
theorem sum_ind (j:Nat) (p:Int):∀ n:Nat,((List.range n).map fun i:Nat=>if (j:Int)=(i:Int) then p else 0).sum=if j<n then p else 0
 | 0=>by simp
 | n+1=>by
   rw[List.range_succ,List.map_append,List.sum_append,sum_ind j p n]
   simp only[List.map_cons,List.map_nil,List.sum_cons,List.sum_nil]
   by_cases z:j=n
   · subst z
     simp
   · rw[if_neg (show ¬ ((j:Int)=(n:Int)) by omega)]
     by_cases y:j<n
     · rw[if_pos y,if_pos (by omega)]; omega
     · rw[if_neg y,if_neg (by omega)]; omega
theorem sum_addL (a b:Nat→Int):∀ L:List Nat,(L.map fun i=>a i+b i).sum=(L.map a).sum+(L.map b).sum
 | []=>rfl
 | x::L=>by
   rw[List.map_cons,List.map_cons,List.map_cons,List.sum_cons,List.sum_cons,List.sum_cons,sum_addL a b L]
   omega
theorem ofJ_cons (i:Int) (r:Rw3) (R:List Rw3):ofJ i (r::R)=(if r.2.1=i then r.2.2 else 0)+ofJ i R:=by
 unfold ofJ
 rw[List.filter_cons]
 by_cases z:r.2.1=i
 · simp[z]
 · simp[z]
theorem tot_ofJ {n:Nat}:∀ R:List Rw3,(∀ r∈R,∃ j:Nat,j<n∧r.2.1=(j:Int))→tot R=((List.range n).map fun i:Nat=>ofJ i R).sum
 | [],_=>by
   have:(List.range n).map (fun i:Nat=>ofJ (i:Int) [])=(List.range n).map fun _=>(0:Int):=by
     refine List.map_congr_left fun i _=>?_
     simp[ofJ]
   rw[this]
   have z:∀ L:List Nat,(L.map fun _=>(0:Int)).sum=0:=fun L=>by
     induction L with
     | nil=>rfl
     | cons x L ih=>rw[List.map_cons,List.sum_cons,ih]; rfl
   rw[z]
   rfl
 | r::R,h=>by
   obtain⟨j,hj,e⟩:=h r List.mem_cons_self
   have ih:=tot_ofJ R fun r hr=>h r (List.mem_cons_of_mem _ hr)
   have c:(List.range n).map (fun i:Nat=>ofJ (i:Int) (r::R))=(List.range n).map fun i:Nat=>(if (j:Int)=(i:Int) then r.2.2 else 0)+ofJ (i:Int) R:=by
     refine List.map_congr_left fun i _=>?_
     rw[ofJ_cons,e]
   rw[c,sum_addL,sum_ind,if_pos hj,← ih]
   simp[tot]
theorem sum_getD (l:List Int):((List.range l.length).map fun i=>l.getD i 0).sum=l.sum:=by
 have:(List.range l.length).map (fun i=>l.getD i 0)=l:=by
   refine List.ext_getElem (by simp) fun i h1 h2=>?_
   simp[List.getD_eq_getElem?_getD,List.getElem?_eq_getElem h2]
 rw[this]
section
variable {js:List Jb} {f:Int} {k:Nat} {R:List Rw3}
theorem tot_rws (H:Rws js f R):tot R=totJ js:=by
 rw[tot_ofJ (n:=js.length) R fun r hr=>by
   obtain⟨j,hj,e,_⟩:=(H.ok r hr).1.ex
   exact⟨j,hj,e⟩]
 have c:(List.range js.length).map (fun i:Nat=>ofJ (i:Int) R)=(List.range (pcs js).length).map fun i=>(pcs js).getD i 0:=by
   rw[pcs_len]
   exact List.map_congr_left fun i _=>H.jo i
 rw[c,sum_getD]
 rfl
theorem totJ_bd (J:Jobs k js):0≤totJ js∧totJ js≤7*(k:Int):=by
 have h:∀ l:List Jb,(∀ j∈l,JbOk j)→0≤totJ l∧totJ l≤7*(l.length:Int):=fun l=>by
   induction l with
   | nil=>intro _; simp[totJ]
   | cons j l ih =>
     intro h
     have a:=ih fun i hi=>h i (List.mem_cons_of_mem _ hi)
     have b:=(h j List.mem_cons_self).p
     have c:totJ (j::l)=j.2.2+totJ l:=by simp[totJ]
     rw[c,List.length_cons]
     omega
 have:=h js J.ok
 have:=J.ln
 omega
theorem es_eq (b:Bool) (T:Str) (S:AS):eqD b (.str T) (.str T) S = .ok (.bl (!b)) S:=by
 cases b <;> simp[eqvD,D.py,PyData.eqv]
end
end KT
namespace KT
open G
section
variable {σ:Type} [DecidableEq σ]
def fLoop (rec:List (σ × Nat)→List σ→Nat→Bool × List (σ × Nat) × List σ) (u:Nat):List σ→List (σ × Nat)→List σ→Bool × List (σ × Nat) × List σ
 | [],H,S=>(false,H,S)
 | s::ss,H,S=>if s∈S then fLoop rec u ss H S else
   match look H s with
   | none=>(true,put H s u,S++[s])
   | some v=>match rec H (S++[s]) v with
     | (true,H2,S2)=>(true,put H2 s u,S2)
     | (false,H2,S2)=>fLoop rec u ss H2 S2
def fnd (adj:Nat→List σ):Nat→List (σ × Nat)→List σ→Nat→Bool × List (σ × Nat) × List σ
 | 0,H,S,_=>(false,H,S)
 | n+1,H,S,u=>fLoop (fnd adj n) u (adj u) H S
/-- what a search that finds a place does -/
structure Suc (adj:Nat→List σ) (H H':List (σ × Nat)) (S:List σ) (u:Nat):Prop where
 st:∀ t∈S,look H' t=look H t
 ed:∀ t v,t∉S→look H' t=some v→t∈adj v
 ij:∀ t t' v,t∉S→t'∉S→look H' t=some v→look H' t'=some v→t=t'
 rg:∀ v,(∃ t,t∉S∧look H' t=some v)↔(∃ t,t∉S∧look H t=some v)∨v=u
/-- what is known ahead -/
structure Pre (adj:Nat→List σ) (H:List (σ × Nat)) (S:List σ) (u:Nat):Prop where
 ed:∀ t v,t∉S→look H t=some v→t∈adj v
 ij:∀ t t' v,t∉S→t'∉S→look H t=some v→look H t'=some v→t=t'
 nu:∀ t,t∉S→look H t≠some u
/-- what a search that finds none leaves: closed places -/
structure Fai (adj:Nat→List σ) (H:List (σ × Nat)) (S S':List σ) (u:Nat):Prop where
 sb:∀ t∈S,t∈S'
 ad:∀ t∈adj u,t∈S'
 cl:∀ t∈S',t∉S → ∃ v,look H t=some v ∧ ∀ s∈adj v,s∈S'
theorem Pre.mono {adj:Nat→List σ} {H:List (σ × Nat)} {S S':List σ} {u:Nat} (h:Pre adj H S u) (hs:∀ t∈S,t∈S'):Pre adj H S' u :=
 ⟨fun t v a=>h.ed t v fun b=>a (hs t b),fun t t' v a b=>h.ij t t' v (fun c=>a (hs t c)) fun c=>b (hs t' c),fun t a=>h.nu t fun b=>a (hs t b)⟩
theorem Suc.mono {adj:Nat→List σ} {H H':List (σ × Nat)} {S S':List σ} {u:Nat} (p:Pre adj H S u) (hs:∀ t∈S,t∈S') (h:Suc adj H H' S' u):Suc adj H H' S u:=by
 refine⟨fun t a=>h.st t (hs t a),fun t v a b=>?_,fun t t' v a b c d=>?_,fun v=>?_⟩
 · by_cases z:t∈S'
   · rw[h.st t z] at b
     exact p.ed t v a b
   · exact h.ed t v z b
 · by_cases z:t∈S'
   · by_cases z':t'∈S'
     · rw[h.st t z] at c
       rw[h.st t' z'] at d
       exact p.ij t t' v a b c d
     · rw[h.st t z] at c
       rcases (h.rg v).mp ⟨t',z',d⟩ with⟨q,hq,e⟩ | e
       · have:=p.ij t q v a (fun w=>hq (hs q w)) c e
         subst this
         exact absurd z hq
       · subst e
         exact absurd c (p.nu t a)
   · by_cases z':t'∈S'
     · rw[h.st t' z'] at d
       rcases (h.rg v).mp ⟨t,z,c⟩ with⟨q,hq,e⟩ | e
       · have:=p.ij t' q v b (fun w=>hq (hs q w)) d e
         subst this
         exact absurd z' hq
       · subst e
         exact absurd d (p.nu t' b)
     · exact h.ij t t' v z z' c d
 · constructor
   · rintro⟨t,a,b⟩
     by_cases z:t∈S'
     · rw[h.st t z] at b
       exact .inl ⟨t,a,b⟩
     · rcases (h.rg v).mp ⟨t,z,b⟩ with⟨q,hq,e⟩ | e
       · exact .inl ⟨q,fun w=>hq (hs q w),e⟩
       · exact .inr e
   · rintro (⟨t,a,b⟩ | e)
     · by_cases z:t∈S'
       · exact⟨t,a,by rw[h.st t z]; exact b⟩
       · obtain⟨q,hq,e⟩:=(h.rg v).mpr (.inl ⟨t,z,b⟩)
         exact⟨q,fun w=>hq (hs q w),e⟩
     · obtain⟨q,hq,e⟩:=(h.rg v).mpr (.inr e)
       exact⟨q,fun w=>hq (hs q w),e⟩
/-- the words of a search -/
def Spec (adj:Nat→List σ) (H:List (σ × Nat)) (S:List σ) (u:Nat) (r:Bool × List (σ × Nat) × List σ):Prop :=
 (r.1=true→Suc adj H r.2.1 S u ∧ ∀ T:List σ,(∀ t∈T,∃ v,look H t=some v ∧ ∀ s∈adj v,s∈T)→(∀ t∈T,look r.2.1 t=look H t)∧¬ ∀ s∈adj u,s∈T) ∧
 (r.1=false→r.2.1=H∧Fai adj H S r.2.2 u)
theorem loop_spec {adj : Nat → List σ} {n : Nat} {u : Nat}
   (ih:∀ H S v (L:List Nat),Pre adj H S v→L.length<n→(∀ t w,t∉S→look H t=some w→w∈L)→Spec adj H S v (fnd adj n H S v)) :
   ∀ (ss:List σ) (H:List (σ × Nat)) (S:List σ) (L:List Nat),Pre adj H S u→L.length≤n→(∀ t w,t∉S→look H t=some w→w∈L)→(∀ t∈adj u,t∈S∨t∈ss)→(∀ t∈ss,t∈adj u) →
     Spec adj H S u (fLoop (fnd adj n) u ss H S)
 | [],H,S,L,p,_,_,ha,_=>by
   rw[fLoop]
   refine⟨fun h=>?_,fun _=>⟨rfl,fun t h=>h,fun t h=>(ha t h).elim id fun h=>absurd h List.not_mem_nil,fun t h h2=>absurd h h2⟩⟩
   cases h
 | s::ss,H,S,L,p,hl,hL,ha,hs=>by
   have su:=hs s List.mem_cons_self
   rw[fLoop]
   by_cases z:s∈S
   · rw[if_pos z]
     exact loop_spec ih ss H S L p hl hL (fun t h=>(ha t h).elim .inl fun h=>(List.mem_cons.mp h).elim (fun e=>.inl (e ▸ z)) .inr) fun t h=>hs t (List.mem_cons_of_mem _ h)
   · rw[if_neg z]
     cases e:look H s with
     | none =>
       dsimp only
       refine⟨fun _=>⟨⟨fun t a=>?_,fun t v a b=>?_,fun t t' v a b c d=>?_,fun v=>?_⟩,fun T hT=>?_⟩,fun h=>by cases h⟩
       · rw[look_put,if_neg (show ¬ t=s from fun e=>z (e ▸ a))]
       · rw[look_put] at b
         split at b
         · rename_i e2
           injection b with b
           subst e2
           subst b
           exact su
         · exact p.ed t v a b
       · rw[look_put] at c d
         split at c
         · rename_i e2
           injection c with c
           subst c
           split at d
           · rename_i e3
             rw[e2,e3]
           · exact absurd d (p.nu t' b)
         · split at d
           · injection d with d
             subst d
             exact absurd c (p.nu t a)
           · exact p.ij t t' v a b c d
       · constructor
         · rintro⟨t,a,b⟩
           rw[look_put] at b
           split at b
           · injection b with b
             exact .inr b.symm
           · exact .inl ⟨t,a,b⟩
         · rintro (⟨t,a,b⟩ | e2)
           · refine⟨t,a,?_⟩
             rw[look_put,if_neg fun e3=>?_]
             · exact b
             · rw[e3,e] at b
               cases b
           · exact⟨s,z,by rw[look_put,if_pos rfl,e2]⟩
       · refine⟨fun t ht=>?_,fun h=>?_⟩
         · rw[look_put,if_neg fun e3=>?_]
           subst e3
           obtain⟨v,a,_⟩:=hT t ht
           rw[e] at a
           cases a
         · obtain⟨v,a,_⟩:=hT s (h s su)
           rw[e] at a
           cases a
     | some v =>
       have vL:=hL s v z e
       have sS:∀ t∈S,t∈S++[s]:=fun t h=>List.mem_append_left _ h
       have pv:Pre adj H (S++[s]) v:=by
         have q:=p.mono (S':=S++[s]) sS
         refine⟨q.ed,q.ij,fun t a b=>?_⟩
         have:=p.ij t s v (fun h=>a (sS t h)) z b e
         subst this
         exact a (by simp)
       have L1:(L.erase v).length<n:=by
         rw[List.length_erase_of_mem vL]
         have:=List.length_pos_of_mem vL
         omega
       have L2:∀ t w,t∉S++[s]→look H t=some w→w∈L.erase v:=fun t w a b=>by
         refine (List.mem_erase_of_ne fun e2=>?_).mpr (hL t w (fun h=>a (sS t h)) b)
         subst e2
         exact pv.nu t a b
       have sp:=ih H (S++[s]) v (L.erase v) pv L1 L2
       generalize hr:fnd adj n H (S++[s]) v=r at sp
       obtain⟨b,H2,S2⟩:=r
       cases b with
       | true =>
         obtain⟨suc,clo⟩:=sp.1 rfl
         dsimp only at suc clo ⊢
         rw[hr]
         have ns:s∈S++[s]:=by simp
         have hs2:look H2 s=some v:=by rw[suc.st s ns,e]
         have nu:∀ t,t∉S++[s]→look H2 t≠some u:=fun t a b=>by
           rcases (suc.rg u).mp ⟨t,a,b⟩ with⟨q,hq,e2⟩ | e2
           · exact p.nu q (fun h=>hq (sS q h)) e2
           · rw[e2] at p
             exact p.nu s z e
         have out:∀ t,t∉S→t≠s→t∉S++[s]:=fun t a b c=>by
           rcases List.mem_append.mp c with c | c
           · exact a c
           · exact b (by simpa using c)
         refine⟨fun _=>⟨⟨fun t a=>?_,fun t w a b=>?_,fun t t' w a b c d=>?_,fun w=>?_⟩,fun T hT=>?_⟩,fun h=>by cases h⟩
         · rw[look_put,if_neg (show ¬ t=s from fun e=>z (e ▸ a))]
           exact suc.st t (sS t a)
         · rw[look_put] at b
           split at b
           · rename_i e2
             injection b with b
             subst e2
             subst b
             exact su
           · rename_i e2
             exact suc.ed t w (out t a e2) b
         · rw[look_put] at c d
           split at c
           · rename_i e2
             injection c with c
             subst c
             split at d
             · rename_i e3
               rw[e2,e3]
             · rename_i e3
               exact absurd d (nu t' (out t' b e3))
           · rename_i e2
             split at d
             · injection d with d
               subst d
               exact absurd c (nu t (out t a e2))
             · rename_i e3
               exact suc.ij t t' w (out t a e2) (out t' b e3) c d
         · constructor
           · rintro⟨t,a,b⟩
             rw[look_put] at b
             split at b
             · injection b with b
               exact .inr b.symm
             · rename_i e2
               rcases (suc.rg w).mp ⟨t,out t a e2,b⟩ with⟨q,hq,e3⟩ | e3
               · exact .inl ⟨q,fun h=>hq (sS q h),e3⟩
               · exact .inl ⟨s,z,by rw[e,e3]⟩
           · rintro (⟨t,a,b⟩ | e2)
             · have : ∃ q, q ∉ S ++ [s] ∧ look H2 q = some w := by
                 refine (suc.rg w).mpr ?_
                 by_cases e3:t=s
                 · rw[e3,e] at b
                   injection b with b
                   exact .inr b.symm
                 · exact .inl ⟨t,out t a e3,b⟩
               obtain⟨q,hq,e3⟩:=this
               refine⟨q,fun h=>hq (sS q h),?_⟩
               rw[look_put,if_neg fun e4=>hq (by rw[e4]; exact ns)]
               exact e3
             · exact⟨s,z,by rw[look_put,if_pos rfl,e2]⟩
         · obtain⟨c1,c2⟩:=clo T hT
           have sT:s∉T:=fun h=>by
             obtain⟨w,a,b⟩:=hT s h
             rw[e] at a
             injection a with a
             subst a
             exact c2 b
           refine⟨fun t ht=>?_,fun h=>sT (h s su)⟩
           rw[look_put,if_neg (show ¬ t=s from fun e3=>sT (e3 ▸ ht))]
           exact c1 t ht
       | false =>
         obtain⟨e2,fai⟩:=sp.2 rfl
         dsimp only at e2 fai ⊢
         rw[hr]
         dsimp only
         subst e2
         have S2S:∀ t∈S,t∈S2:=fun t h=>fai.sb t (sS t h)
         have r:=loop_spec ih ss H2 S2 L (p.mono S2S) hl (fun t w a b=>hL t w (fun h=>a (S2S t h)) b) (fun t h=>(ha t h).elim (fun h=>.inl (S2S t h)) fun h=>(List.mem_cons.mp h).elim (fun e2=>.inl (by rw[e2]; exact fai.sb s (by simp))) .inr) fun t h=>hs t (List.mem_cons_of_mem _ h)
         refine⟨fun h=>?_,fun h=>?_⟩
         · obtain⟨a,b⟩:=r.1 h
           exact⟨a.mono p S2S,b⟩
         · obtain⟨a,b⟩:=r.2 h
           refine⟨a,fun t h=>b.sb t (S2S t h),b.ad,fun t h1 h2=>?_⟩
           by_cases z2:t∈S2
           · by_cases z3:t=s
             · subst z3
               exact⟨v,e,fun q hq=>b.sb q (fai.ad q hq)⟩
             · obtain ⟨w, x, y⟩ := fai.cl t z2 (fun c => by
                 rcases List.mem_append.mp c with c | c
                 · exact h2 c
                 · exact z3 (by simpa using c))
               exact⟨w,x,fun q hq=>b.sb q (y q hq)⟩
           · exact b.cl t h1 z2
theorem fnd_spec {adj:Nat→List σ}:∀ (n:Nat) (H:List (σ × Nat)) (S:List σ) (u:Nat) (L:List Nat),Pre adj H S u→L.length<n→(∀ t w,t∉S→look H t=some w→w∈L)→Spec adj H S u (fnd adj n H S u)
 | 0,_,_,_,_,_,h,_=>by omega
 | n+1,H,S,u,L,p,hl,hL=>by
   rw[fnd]
   exact loop_spec (fun H S v L=>fnd_spec n H S v L) (adj u) H S L p (by omega) hL (fun t h=>.inr h) fun t h=>h
/-- all pieces,one behind another -/
def allF (adj:Nat→List σ) (F:Nat):Nat→List (σ × Nat) × List Bool
 | 0=>([],[])
 | n+1=>let r:=fnd adj F (allF adj F n).1 [] n
   (r.2.1,(allF adj F n).2++[r.1])
/-- what is known of the pieces so far: who has a place; a closed list of places -/
structure Mat (adj:Nat→List σ) (n:Nat) (H:List (σ × Nat)) (bs:List Bool) (T:List σ):Prop where
 ln:bs.length=n
 ed:∀ t v,look H t=some v→t∈adj v
 ij:∀ t t' v,look H t=some v→look H t'=some v→t=t'
 rg:∀ v,(∃ t,look H t=some v)↔bs[v]? = some true
 cl:∀ t∈T,∃ v,look H t=some v ∧ ∀ s∈adj v,s∈T
 fl:∀ v,bs[v]? = some false → ∀ s∈adj v,s∈T
theorem allF_mat {adj:Nat→List σ} {F:Nat}:∀ n:Nat,n<F → ∃ T,Mat adj n (allF adj F n).1 (allF adj F n).2 T
 | 0,_=>by
   refine⟨[],rfl,fun t v h=>?_,fun t t' v h=>?_,fun v=>⟨fun ⟨t,h⟩=>?_,fun h=>?_⟩,fun t h=>?_,fun v h=>?_⟩
   · simp[allF] at h
   · simp[allF] at h
   · simp[allF] at h
   · simp[allF] at h
   · cases h
   · simp[allF] at h
 | n+1,hn=>by
   obtain⟨T,m⟩:=allF_mat (adj:=adj) (F:=F) n (by omega)
   rw[allF]
   generalize allF adj F n=q at m
   obtain⟨H,bs⟩:=q
   dsimp only at m ⊢
   have rg:∀ t v,look H t=some v→v<n:=fun t v h=>by
     have:=(m.rg v).mp ⟨t,h⟩
     have:=(List.getElem?_eq_some_iff.mp this).1
     have:=m.ln
     omega
   have sp:=fnd_spec (adj:=adj) F H [] n (List.range n) ⟨fun t v _ h=>m.ed t v h,fun t t' v _ _ h h'=>m.ij t t' v h h',fun t _ h=>by have:=rg t n h; omega⟩ (by rw[List.length_range]; omega) (fun t w _ h=>List.mem_range.mpr (rg t w h))
   generalize fnd adj F H [] n=r at sp
   obtain⟨b,H2,S2⟩:=r
   have bn:∀ v,(bs++[b])[v]? = if v=n then some b else bs[v]?:=fun v=>by
     have:=m.ln
     by_cases z:v=n
     · rw[if_pos z,z,List.getElem?_append_right (by omega)]
       simp[this]
     · rw[if_neg z]
       by_cases z2:v<n
       · rw[List.getElem?_append_left (by omega)]
       · rw[List.getElem?_append_right (by omega),List.getElem?_eq_none (l:=bs) (by omega)]
         exact List.getElem?_eq_none (by simp; omega)
   cases b with
   | true =>
     obtain⟨suc,clo⟩:=sp.1 rfl
     dsimp only at suc clo ⊢
     obtain⟨c1,c2⟩:=clo T m.cl
     refine⟨T,by simp[m.ln],fun t v h=>suc.ed t v (by simp) h,fun t t' v h h'=>suc.ij t t' v (by simp) (by simp) h h',fun v=>?_,fun t h=>?_,fun v h=>?_⟩
     · rw[bn]
       have:=suc.rg v
       simp only[List.not_mem_nil,not_false_eq_true,true_and] at this
       rw[this,m.rg v]
       by_cases z:v=n
       · simp[z]
       · simp[z]
     · obtain⟨v,a,b⟩:=m.cl t h
       exact⟨v,by rw[c1 t h]; exact a,b⟩
     · rw[bn] at h
       split at h
       · cases h
       · exact m.fl v h
   | false =>
     obtain⟨e,fai⟩:=sp.2 rfl
     dsimp only at e fai ⊢
     subst e
     refine⟨T++S2,by simp[m.ln],m.ed,m.ij,fun v=>?_,fun t h=>?_,fun v h=>?_⟩
     · rw[bn]
       by_cases z:v=n
       · rw[if_pos z]
         constructor
         · rintro⟨t,h⟩
           have:=rg t v h
           omega
         · intro h; cases h
       · rw[if_neg z]
         exact m.rg v
     · rcases List.mem_append.mp h with h | h
       · obtain⟨v,a,b⟩:=m.cl t h
         exact⟨v,a,fun s hs=>List.mem_append_left _ (b s hs)⟩
       · obtain⟨v,a,b⟩:=fai.cl t h (by simp)
         exact⟨v,a,fun s hs=>List.mem_append_right _ (b s hs)⟩
     · rw[bn] at h
       split at h
       · rename_i z
         subst z
         exact fun s hs=>List.mem_append_right _ (fai.ad s hs)
       · exact fun s hs=>List.mem_append_left _ (m.fl v h s hs)
end
end KT
namespace KT
open G
theorem nodup_sub {α:Type} [DecidableEq α]:∀ {l m:List α},l.Nodup→(∀ x∈l,x∈m)→l.length≤m.length
 | [],_,_,_=>Nat.zero_le _
 | x::l,m,nd,h=>by
   have hx:=h x List.mem_cons_self
   have nd:=List.nodup_cons.mp nd
   have:=nodup_sub (l:=l) (m:=m.erase x) nd.2 fun y hy=>(List.mem_erase_of_ne (show y≠x from fun e=>nd.1 (e ▸ hy))).mpr (h y (List.mem_cons_of_mem _ hy))
   rw[List.length_erase_of_mem hx] at this
   have:=List.length_pos_of_mem hx
   rw[List.length_cons]
   omega
theorem inj_len {α β:Type} [DecidableEq β] (R:α→β→Prop):∀ {l:List α} {m:List β},l.Nodup→(∀ x∈l,∃ s∈m,R x s)→(∀ a b s,R a s→R b s→a=b)→l.length≤m.length
 | [],_,_,_,_=>Nat.zero_le _
 | x::l,m,nd,h,hi=>by
   obtain⟨s,hs,r⟩:=h x List.mem_cons_self
   have nd:=List.nodup_cons.mp nd
   have:=inj_len R (l:=l) (m:=m.erase s) nd.2 (fun y hy=>by
     obtain⟨t,ht,q⟩:=h y (List.mem_cons_of_mem _ hy)
     refine⟨t,(List.mem_erase_of_ne fun e=>?_).mpr ht,q⟩
     subst e
     have:=hi x y t r q
     subst this
     exact nd.1 hy) hi
   rw[List.length_erase_of_mem hs] at this
   have:=List.length_pos_of_mem hs
   rw[List.length_cons]
   omega
theorem dedup {α:Type} [DecidableEq α]:∀ l:List α,∃ m:List α,m.Nodup ∧ ∀ x,x∈m↔x∈l
 | []=>⟨[],List.nodup_nil,fun x=>Iff.rfl⟩
 | y::l=>by
   obtain⟨m,nd,h⟩:=dedup l
   by_cases z:y∈m
   · exact⟨m,nd,fun x=>by rw[h,List.mem_cons]; exact⟨.inr,fun a=>a.elim (fun e=>by rw[e]; exact (h y).mp z) id⟩⟩
   · exact⟨y::m,List.nodup_cons.mpr ⟨z,nd⟩,fun x=>by rw[List.mem_cons,List.mem_cons,h]⟩
theorem len_split {α:Type} (p:α→Bool):∀ l:List α,l.length=(l.filter p).length+(l.filter fun x=>!p x).length
 | []=>rfl
 | x::l=>by
   have:=len_split p l
   rw[List.filter_cons,List.filter_cons]
   cases p x <;> simp <;> omega
section
variable {σ:Type} [DecidableEq σ] {part:List (List σ)} {H:List (σ × Nat)} {bs:List Bool} {T:List σ}
/-- of a list: how many are so,told by places -/
theorem cnt_range {α:Type} (p:α→Bool) (d:α):∀ l:List α,((List.range l.length).filter fun i=>p (l.getD i d)).length=l.countP p
 | []=>rfl
 | x::l=>by
   rw[List.length_cons,List.range_succ_eq_map,List.filter_cons,List.filter_map,List.countP_cons]
   have:=cnt_range p d l
   have e:((fun i=>p ((x::l).getD i d))∘Nat.succ)=fun i=>p (l.getD i d):=by funext i; simp
   rw[e]
   by_cases z:p x=true
   · rw[if_pos (by simpa using z),List.length_cons,List.length_map,this,if_pos z]
   · rw[if_neg (by simpa using z),List.length_map,this,if_neg z]; omega
abbrev adjP (part:List (List σ)) (u:Nat):List σ:=part.getD u []
def sub (T:List σ) (l:List σ):Bool:=l.all fun s=>decide (s∈T)
theorem sub_iff {T l:List σ}:sub T l=true ↔ ∀ s∈l,s∈T:=by simp[sub]
def trues (bs:List Bool):Nat:=bs.countP id
theorem trues_le (bs:List Bool):trues bs≤bs.length:=List.countP_le_length
/-- no more than places let -/
theorem hall_le (m:Mat (adjP part) part.length H bs T) (B:List σ):trues bs+part.countP (sub B)≤B.length+part.length:=by
 have h1:trues bs=((List.range part.length).filter fun i=>bs.getD i false).length:=by
   rw[← m.ln,cnt_range (fun b=>b) false bs]
   rfl
 have h2:=cnt_range (sub B) [] part
 have h3:=len_split (fun i=>sub B (part.getD i [])) ((List.range part.length).filter fun i=>bs.getD i false)
 have h4:=len_split (fun i=>sub B (part.getD i [])) (List.range part.length)
 have nd:(List.range part.length).Nodup:=List.nodup_range
 have h5:(((List.range part.length).filter fun i=>bs.getD i false).filter fun i=>sub B (part.getD i [])).length≤B.length:=by
   refine inj_len (fun u t=>look H t=some u) ((nd.filter _).filter _) (fun u hu=>?_) (fun a b s h h'=>by rw[h] at h'; exact Option.some.inj h')
   obtain⟨hu,hB⟩:=List.mem_filter.mp hu
   obtain⟨_,hb⟩:=List.mem_filter.mp hu
   have hb2:bs[u]? = some true:=by
     rw[List.getD_eq_getElem?_getD] at hb
     cases e:bs[u]? with
     | none=>rw[e] at hb; cases hb
     | some b=>rw[e] at hb; rw[show b=true from hb]
   obtain⟨t,ht⟩:=(m.rg u).mpr hb2
   exact⟨t,sub_iff.mp hB t (m.ed t u ht),ht⟩
 have h6:(((List.range part.length).filter fun i=>bs.getD i false).filter fun i=>!sub B (part.getD i [])).length≤((List.range part.length).filter fun i=>!sub B (part.getD i [])).length :=
   nodup_sub ((nd.filter _).filter _) fun u hu=>by
     obtain⟨hu,hB⟩:=List.mem_filter.mp hu
     exact List.mem_filter.mpr ⟨(List.mem_filter.mp hu).1,hB⟩
 rw[List.length_range] at h4
 omega
/-- who finds none: closed places,all held,and by pieces that have no others -/
theorem fail_le (m:Mat (adjP part) part.length H bs T) {T':List σ} (nd':T'.Nodup) (hT:∀ t,t∈T'↔t∈T):part.length+T'.length≤trues bs+part.countP (sub T):=by
 have h1:trues bs=((List.range part.length).filter fun i=>bs.getD i false).length:=by
   rw[← m.ln,cnt_range (fun b=>b) false bs]
   rfl
 have h2:=cnt_range (sub T) [] part
 have nd:(List.range part.length).Nodup:=List.nodup_range
 have h3:=len_split (fun i=>bs.getD i false) (List.range part.length)
 rw[List.length_range] at h3
 have hh:∀ t∈T',look H t=some ((look H t).getD 0):=fun t ht=>by
   obtain⟨v,a,_⟩:=m.cl t ((hT t).mp ht)
   rw[a]
   rfl
 have lt:∀ u b,bs[u]? = some b→u<part.length:=fun u b h=>by
   have:=(List.getElem?_eq_some_iff.mp h).1
   have:=m.ln
   omega
 have h4:(((List.range part.length).filter fun i=>!bs.getD i false)++T'.map fun t=>(look H t).getD 0).length≤((List.range part.length).filter fun i=>sub T (part.getD i [])).length:=by
   refine nodup_sub ?_ fun u hu=>?_
   · rw[List.nodup_append]
     refine⟨nd.filter _,?_,fun a ha b hb e=>?_⟩
     · refine List.pairwise_map.mpr (List.Pairwise.imp_of_mem (fun {a b} ha hb hne e=>?_) nd')
       have h1:=hh a ha
       have h2:=hh b hb
       rw[← e] at h2
       exact hne (m.ij a b _ h1 h2)
     · subst e
       obtain⟨t,ht,e⟩:=List.mem_map.mp hb
       have h1:=hh t ht
       rw[e] at h1
       have h2:=(m.rg a).mp ⟨t,h1⟩
       have h3:=(List.mem_filter.mp ha).2
       rw[List.getD_eq_getElem?_getD,h2] at h3
       cases h3
   · rcases List.mem_append.mp hu with hu | hu
     · obtain⟨a,b⟩:=List.mem_filter.mp hu
       refine List.mem_filter.mpr ⟨a,sub_iff.mpr (m.fl u ?_)⟩
       have ul:u<bs.length:=by rw[m.ln]; exact List.mem_range.mp a
       rw[List.getD_eq_getElem?_getD,List.getElem?_eq_getElem ul] at b
       rw[List.getElem?_eq_getElem ul]
       cases e:bs[u] with
       | false=>rfl
       | true=>rw[e] at b; cases b
     · obtain⟨t,ht,rfl⟩:=List.mem_map.mp hu
       have h1:=hh t ht
       generalize (look H t).getD 0=u at *
       have h2:=(m.rg u).mp ⟨t,h1⟩
       obtain⟨v,a,b⟩:=m.cl t ((hT t).mp ht)
       rw[h1] at a
       injection a with a
       subst a
       exact List.mem_filter.mpr ⟨List.mem_range.mpr (lt u true h2),sub_iff.mpr b⟩
 rw[List.length_append,List.length_map] at h4
 omega
end
/-- a grid of minutes and places within a list of places -/
theorem grid {f:Nat} {T:List (Int × Int)}:∀ {M:List Int},M.Nodup→(∀ m∈M,∀ p:Nat,p<f→(m,(p:Int))∈T)→M.length*f≤T.length:=by
 intro M
 induction M generalizing T with
 | nil=>intro _ _; simp
 | cons m M ih =>
   intro nd h
   have nd:=List.nodup_cons.mp nd
   have h1:=len_split (fun s:Int × Int=>decide (s.1=m)) T
   have h2:=ih (T:=T.filter fun s=>!decide (s.1=m)) nd.2 fun x hx p hp=>List.mem_filter.mpr ⟨h x (List.mem_cons_of_mem _ hx) p hp,by
     have:x≠m:=fun e=>nd.1 (e ▸ hx)
     simp[this]⟩
   have h3:((List.range f).map fun p:Nat=>(m,(p:Int))).length≤(T.filter fun s=>decide (s.1=m)).length:=by
     refine nodup_sub ?_ fun s hs=>?_
     · refine List.pairwise_map.mpr (List.Pairwise.imp (fun {a b} hne e=>hne ?_) List.nodup_range)
       have:=congrArg Prod.snd e
       dsimp only at this
       omega
     · obtain⟨p,hp,rfl⟩:=List.mem_map.mp hs
       exact List.mem_filter.mpr ⟨h m List.mem_cons_self p (List.mem_range.mp hp),by simp⟩
   rw[List.length_map,List.length_range] at h3
   rw[List.length_cons,Nat.succ_mul]
   omega
end KT
namespace KT
open G
def spotsJ (f:Int) (j:Jb):List (Int × Int):=(List.range (j.2.1-j.1).toNat).flatMap fun (t:Nat)=>(List.range f.toNat).map fun (p:Nat)=>(j.1+(t:Int),(p:Int))
def partJ (js:List Jb) (f:Int):List (List (Int × Int)):=js.flatMap fun j=>List.replicate j.2.2.toNat (spotsJ f j)
theorem mem_spots {f:Int} {j:Jb} {s:Int × Int}:s∈spotsJ f j↔(j.1≤s.1∧s.1<j.2.1)∧0≤s.2∧s.2<f:=by
 unfold spotsJ
 rw[List.mem_flatMap]
 constructor
 · rintro⟨t,ht,hs⟩
   obtain⟨p,hp,rfl⟩:=List.mem_map.mp hs
   have:=List.mem_range.mp ht
   have:=List.mem_range.mp hp
   dsimp only
   omega
 · rintro⟨⟨a,b⟩,c,d⟩
   refine⟨(s.1-j.1).toNat,List.mem_range.mpr (by omega),List.mem_map.mpr ⟨s.2.toNat,List.mem_range.mpr (by omega),?_⟩⟩
   refine Prod.ext ?_ ?_
   · show j.1+((s.1-j.1).toNat:Int)=s.1
     omega
   · show ((s.2.toNat:Nat):Int)=s.2
     omega
theorem part_cnt (p:List (Int × Int)→Bool) (f:Int):∀ js:List Jb,(∀ j∈js,0≤j.2.2)→((partJ js f).countP p:Int)=((js.filter fun j=>p (spotsJ f j)).map fun j=>j.2.2).sum
 | [],_=>rfl
 | j::js,h=>by
   have ih:=part_cnt p f js fun j hj=>h j (List.mem_cons_of_mem _ hj)
   have h0:=h j List.mem_cons_self
   have e:partJ (j::js) f=List.replicate j.2.2.toNat (spotsJ f j)++partJ js f:=rfl
   rw[e,List.countP_append,List.filter_cons,List.countP_replicate]
   by_cases z:p (spotsJ f j)=true
   · rw[if_pos z,if_pos z,List.map_cons,List.sum_cons,← ih]
     omega
   · rw[if_neg z,if_neg z,← ih]
     omega
theorem part_len (f:Int) (js:List Jb) (h:∀ j∈js,0≤j.2.2):((partJ js f).length:Int)=totJ js:=by
 have:=part_cnt (fun _=>true) f js h
 rw[List.countP_true] at this
 rw[this]
 unfold totJ
 rw[List.filter_eq_self.mpr (fun _ _=>rfl)]
theorem atM_cons (u:Int) (r:Rw3) (R:List Rw3):atM u (r::R)=(if r.1=u then r.2.2 else 0)+atM u R:=by
 unfold atM
 rw[List.filter_cons]
 by_cases z:r.1=u
 · simp[z]
 · simp[z]
theorem tot_split (q:Rw3→Bool):∀ R:List Rw3,tot R=tot (R.filter q)+tot (R.filter fun r=>!q r)
 | []=>rfl
 | r::R=>by
   have e:∀ (r:Rw3) R,tot (r::R)=r.2.2+tot R:=fun r R=>by simp[tot]
   have:=tot_split q R
   rw[List.filter_cons,List.filter_cons,e]
   cases q r <;> simp[e] <;> omega
theorem atM_filter (q:Rw3→Bool) (u:Int):∀ {R:List Rw3},(∀ r∈R,0<r.2.2)→atM u (R.filter q)≤atM u R
 | [],_=>Int.le_refl _
 | r::R,h=>by
   have h0:=h r List.mem_cons_self
   have:=atM_filter q u (R:=R) fun r hr=>h r (List.mem_cons_of_mem _ hr)
   rw[List.filter_cons,atM_cons]
   by_cases z:q r=true
   · rw[if_pos z,atM_cons]
     exact Int.add_le_add_left this _
   · rw[if_neg z]
     split <;> omega
theorem tot_min:∀ (M:List Int) {R:List Rw3},(∀ r∈R,r.1∈M)→(∀ r∈R,0<r.2.2) → ∀ f:Int,(∀ u,atM u R≤f)→tot R≤f*(M.length:Int)
 | [],R,h,_,f,_=>by
   have:R=[]:=by
     cases R with
     | nil=>rfl
     | cons r R=>cases h r List.mem_cons_self
   subst this
   simp[tot]
 | m::M,R,h,p0,f,hf=>by
   have s:=tot_split (fun r=>decide (r.1=m)) R
   have ih:=tot_min M (R:=R.filter fun r=>!decide (r.1=m)) (fun r hr=>by
     obtain⟨a,b⟩:=List.mem_filter.mp hr
     exact (List.mem_cons.mp (h r a)).elim (fun e=>by simp[e] at b) id) (fun r hr=>p0 r (List.mem_filter.mp hr).1) f (fun u=>Int.le_trans (atM_filter _ u p0) (hf u))
   have:tot (R.filter fun r=>decide (r.1=m))=atM m R:=rfl
   have:=hf m
   rw[List.length_cons,Int.natCast_succ,Int.mul_add,Int.mul_one]
   omega
/-- what a part row must be -/
structure PRw (js:List Jb) (f:Int) (R:List Rw3):Prop where
 ok:∀ r∈R,RwOk js r
 mi:∀ u,atM u R≤f
 jo:∀ i:Nat,ofJ i R≤(pcs js).getD i 0
theorem sum_le {a b:Nat→Int}:∀ {L:List Nat},(∀ i∈L,a i≤b i)→(L.map a).sum≤(L.map b).sum
 | [],_=>Int.le_refl _
 | x::L,h=>by
   rw[List.map_cons,List.map_cons,List.sum_cons,List.sum_cons]
   have:=h x List.mem_cons_self
   have:=sum_le (L:=L) fun i hi=>h i (List.mem_cons_of_mem _ hi)
   omega
theorem sum_filt {α:Type} (p:α→Bool) (g:α→Int):∀ L:List α,((L.filter p).map g).sum=(L.map fun x=>if p x=true then g x else 0).sum
 | []=>rfl
 | x::L=>by
   rw[List.filter_cons,List.map_cons,List.sum_cons,← sum_filt p g L]
   by_cases z:p x=true
   · rw[if_pos z,if_pos z,List.map_cons,List.sum_cons]
   · rw[if_neg z,if_neg z]; omega
theorem sum_rangeJ (g:Jb→Int) (js:List Jb):((List.range js.length).map fun i=>g (js.getD i (0,0,0))).sum=(js.map g).sum:=by
 have:(List.range js.length).map (fun i=>g (js.getD i (0,0,0)))=js.map g:=by
   refine List.ext_getElem (by simp) fun i h1 h2=>?_
   have:i<js.length:=by simpa using h1
   simp[List.getD_eq_getElem?_getD,List.getElem?_eq_getElem this]
 rw[this]
/-- no fewer find places than any part row lays -/
theorem row_le {js:List Jb} {f:Int} {R:List Rw3} {H:List ((Int × Int) × Nat)} {bs:List Bool} {T:List (Int × Int)} (nn:∀ j∈js,0≤j.2.2) (m:Mat (adjP (partJ js f)) (partJ js f).length H bs T) (h:PRw js f R) (f0:0≤f):tot R≤trues bs:=by
 obtain⟨T',nd,hT⟩:=dedup T
 have h1:=fail_le m nd hT
 have h2:=part_cnt (sub T) f js nn
 have h3:=part_len f js nn
 have p0:∀ r∈R,0<r.2.2:=fun r hr=>(h.ok r hr).p0
 have s:=tot_split (fun r=>sub T (spotsJ f (js.getD r.2.1.toNat (0,0,0)))) R
 have hin:tot (R.filter fun r=>sub T (spotsJ f (js.getD r.2.1.toNat (0,0,0))))≤T'.length:=by
   obtain⟨M,ndM,hM⟩:=dedup ((R.filter fun r=>sub T (spotsJ f (js.getD r.2.1.toNat (0,0,0)))).map fun r=>r.1)
   have a:=tot_min M (R:=R.filter fun r=>sub T (spotsJ f (js.getD r.2.1.toNat (0,0,0)))) (fun r hr=>(hM _).mpr (List.mem_map_of_mem hr)) (fun r hr=>p0 r (List.mem_filter.mp hr).1) f fun u=>Int.le_trans (atM_filter _ u p0) (h.mi u)
   have b:=grid (f:=f.toNat) (T:=T') ndM fun u hu p hp=>by
     obtain⟨r,hr,rfl⟩:=List.mem_map.mp ((hM u).mp hu)
     obtain⟨hr,hs⟩:=List.mem_filter.mp hr
     obtain⟨⟨j,hj,e,b1,b2⟩,_⟩:=h.ok r hr
     have e2:js.getD r.2.1.toNat (0,0,0)=js[j]:=by
       rw[e,Int.toNat_natCast,List.getD_eq_getElem?_getD,List.getElem?_eq_getElem hj]
       rfl
     rw[e2] at hs
     refine (hT _).mpr (sub_iff.mp hs _ (mem_spots.mpr ⟨⟨b1,b2⟩,?_,?_⟩))
     · show (0:Int)≤(p:Int); omega
     · show (p:Int)<f; omega
   have c:(M.length*f.toNat:Nat)=f*(M.length:Int):=by
     rw[Int.natCast_mul,show ((f.toNat:Nat):Int)=f by omega,Int.mul_comm]
   omega
 have hout:tot (R.filter fun r=>!sub T (spotsJ f (js.getD r.2.1.toNat (0,0,0))))≤((js.filter fun j=>!sub T (spotsJ f j)).map fun j=>j.2.2).sum:=by
   have t:=tot_ofJ (n:=js.length) (R.filter fun r=>!sub T (spotsJ f (js.getD r.2.1.toNat (0,0,0)))) fun r hr=>by
     obtain⟨⟨j,hj,e,_,_⟩,_⟩:=h.ok r (List.mem_filter.mp hr).1
     exact⟨j,hj,e⟩
   rw[t,sum_filt,← sum_rangeJ (fun j=>if (!sub T (spotsJ f j))=true then j.2.2 else 0) js]
   refine sum_le fun i hi=>?_
   have il:=List.mem_range.mp hi
   have fl:∀ {R:List Rw3},(∀ r∈R,0<r.2.2) → ∀ q:Rw3→Bool,ofJ i (R.filter q)≤ofJ i R:=fun {R} p0 q=>by
     induction R with
     | nil=>exact Int.le_refl _
     | cons r R ih =>
       have h0:=p0 r List.mem_cons_self
       have:=ih fun r hr=>p0 r (List.mem_cons_of_mem _ hr)
       rw[List.filter_cons,ofJ_cons]
       by_cases z:q r=true
       · rw[if_pos z,ofJ_cons]
         exact Int.add_le_add_left this _
       · rw[if_neg z]
         split <;> omega
   by_cases z:sub T (spotsJ f (js.getD i (0,0,0)))=true
   · have : ofJ i (R.filter fun r => !sub T (spotsJ f (js.getD r.2.1.toNat (0, 0, 0)))) = 0 := by
       have:(R.filter fun r=>!sub T (spotsJ f (js.getD r.2.1.toNat (0,0,0)))).filter (fun r=>decide (r.2.1=(i:Int)))=[]:=by
         refine List.filter_eq_nil_iff.mpr fun r hr=>?_
         obtain⟨_,b⟩:=List.mem_filter.mp hr
         intro e
         have e:=of_decide_eq_true e
         rw[e,Int.toNat_natCast,z] at b
         cases b
       unfold ofJ
       rw[this]
       rfl
     rw[this,z]
     exact Int.le_refl _
   · have:=fl p0 fun r=>!sub T (spotsJ f (js.getD r.2.1.toNat (0,0,0)))
     have o:=h.jo i
     have e:(pcs js).getD i 0=(js.getD i (0,0,0)).2.2:=by
       unfold pcs
       rw[List.getD_eq_getElem?_getD,List.getD_eq_getElem?_getD,List.getElem?_map,List.getElem?_eq_getElem il]
       rfl
     rw[Bool.not_eq_true] at z
     rw[z]
     simp only[Bool.not_false,if_true]
     omega
 have all:totJ js=((js.filter fun j=>sub T (spotsJ f j)).map fun j=>j.2.2).sum+((js.filter fun j=>!sub T (spotsJ f j)).map fun j=>j.2.2).sum:=by
   unfold totJ
   clear h1 h2 h3 s hin hout m h nn
   induction js with
   | nil=>rfl
   | cons j js ih =>
     rw[List.map_cons,List.sum_cons,ih,List.filter_cons,List.filter_cons]
     cases sub T (spotsJ f j) <;> simp <;> omega
 omega
/-- no more than the stretches let: of jobs that lie within these places -/
theorem hall_js {js : List Jb} {f : Int} {H : List ((Int × Int) × Nat)} {bs : List Bool} {T : List (Int × Int)} (nn : ∀ j ∈ js, 0 ≤ j.2.2) (m : Mat (adjP (partJ js f)) (partJ js f).length H bs T) (P : Jb → Bool) (B : List (Int × Int)) (hB : ∀ j ∈ js, P j = true → ∀ s ∈ spotsJ f j, s ∈ B) :
   (trues bs:Int)+((js.filter P).map fun j=>j.2.2).sum≤B.length+totJ js:=by
 have h1:=hall_le m B
 have h2:=part_cnt (sub B) f js nn
 have h3:=part_len f js nn
 have h4:((js.filter P).map fun j=>j.2.2).sum≤((js.filter fun j=>sub B (spotsJ f j)).map fun j=>j.2.2).sum:=by
   clear h1 h2 h3 m
   induction js with
   | nil=>exact Int.le_refl _
   | cons j js ih =>
     have:=ih (fun j hj=>nn j (List.mem_cons_of_mem _ hj)) fun j hj=>hB j (List.mem_cons_of_mem _ hj)
     have j0:=nn j List.mem_cons_self
     rw[List.filter_cons,List.filter_cons]
     by_cases z:P j=true
     · have y:sub B (spotsJ f j)=true:=sub_iff.mpr (hB j List.mem_cons_self z)
       rw[if_pos z,if_pos y,List.map_cons,List.map_cons,List.sum_cons,List.sum_cons]
       omega
     · rw[if_neg z]
       by_cases y:sub B (spotsJ f j)=true
       · rw[if_pos y,List.map_cons,List.sum_cons]
         omega
       · rw[if_neg y]
         exact this
 omega
/-- the places of a stretch -/
def gridS (f b e:Int):List (Int × Int):=spotsJ f (b,e,0)
theorem grid_len {f b e:Int} (f0:0≤f) (h:b≤e):((gridS f b e).length:Int)=f*(e-b):=by
 unfold gridS spotsJ
 rw[List.length_flatMap]
 have:((List.range (e-b).toNat).map fun (t:Nat)=>((List.range f.toNat).map fun (p:Nat)=>((b:Int)+(t:Int),(p:Int))).length)=List.replicate (e-b).toNat f.toNat:=by
   refine List.ext_getElem (by simp) fun i h1 h2=>by simp
 dsimp only
 rw[this,List.sum_replicate_nat,Int.natCast_mul,show (((e-b).toNat:Nat):Int)=e-b by omega,show ((f.toNat:Nat):Int)=f by omega,Int.mul_comm]
theorem grid_all {f b e:Int} {j:Jb} (hb:b≤j.1) (he:j.2.1≤e):∀ s∈spotsJ f j,s∈gridS f b e:=fun s hs=>by
 obtain⟨⟨h1,h2⟩,h3⟩:=mem_spots.mp hs
 exact mem_spots.mpr ⟨⟨by show b≤s.1; omega,by show s.1<e; omega⟩,h3⟩
end KT
namespace KT
open PySem VL G Kd W9 W26 WG TB
end KT
namespace KT
open PySem VL G Kd W9 W26 WG TB
/-- the dict of minutes: sums,keys that rise -/
structure Mns (kvs:List (Int × Int)) (R:List Rw3):Prop where
 sm:Sums (fun r=>r.1) kvs R
 pw:(kvs.map (·.1)).Pairwise (·<·)
 ks:∀ u,u∈kvs.map (·.1)↔u∈R.map fun r=>r.1
 ln:kvs.length≤R.length
theorem Mns.nil:Mns [] []:=⟨Sums.nil _,by simp,fun u=>by simp,by simp⟩
theorem has_mem {kvs:List (Int × Int)} {k:Int}:has kvs k=true↔k∈kvs.map (·.1):=by
 unfold has
 rw[List.any_eq_true,List.mem_map]
 exact⟨fun ⟨p,h,e⟩=>⟨p,h,by simpa using e⟩,fun ⟨p,h,e⟩=>⟨p,h,by simpa using e⟩⟩
theorem Mns.snoc {kvs:List (Int × Int)} {R:List Rw3} (h:Mns kvs R) (r:Rw3) (hr:∀ a∈R,a.1≤r.1):Mns (G.put kvs r.1 ((look kvs r.1).getD 0+r.2.2)) (R++[r]):=by
 have le:∀ u∈kvs.map (·.1),u≤r.1:=fun u hu=>by
   obtain⟨a,ha,rfl⟩:=List.mem_map.mp ((h.ks u).mp hu)
   exact hr a ha
 refine⟨h.sm.snoc r,?_,fun u=>?_,?_⟩
 · unfold G.put
   split
   · rw[List.map_map]
     have e:((fun x:Int × Int=>x.1)∘fun p:Int × Int=>if p.1=r.1 then (p.1,(look kvs r.1).getD 0+r.2.2) else p)=fun p=>p.1:=by
       funext p
       simp only[Function.comp]
       split <;> rfl
     rw[e]
     exact h.pw
   · rename_i z
     rw[has_mem] at z
     rw[List.map_append,List.pairwise_append]
     refine⟨h.pw,by simp,fun a ha b hb=>?_⟩
     simp only[List.map_cons,List.map_nil,List.mem_singleton] at hb
     subst hb
     have:=le a ha
     have:a≠r.1:=fun e=>z (e ▸ ha)
     omega
 · rw[List.map_append,List.mem_append]
   have:u∈(G.put kvs r.1 ((look kvs r.1).getD 0+r.2.2)).map (·.1)↔u∈kvs.map (·.1)∨u=r.1:=by
     unfold G.put
     split
     · rename_i z
       rw[has_mem] at z
       rw[List.map_map]
       have e:((fun x:Int × Int=>x.1)∘fun p:Int × Int=>if p.1=r.1 then (p.1,(look kvs r.1).getD 0+r.2.2) else p)=fun p=>p.1:=by
         funext p
         simp only[Function.comp]
         split <;> rfl
       rw[e]
       exact⟨.inl,fun q=>q.elim id fun q=>q ▸ z⟩
     · rw[List.map_append,List.mem_append]
       simp
   rw[this,h.ks u]
   simp
 · have:=put_lenK kvs r.1 ((look kvs r.1).getD 0+r.2.2)
   have:=h.ln
   rw[List.length_append,List.length_singleton]
   omega
theorem Mns.val {kvs:List (Int × Int)} {R:List Rw3} (h:Mns kvs R) {p:Int × Int} (hp:p∈kvs):look kvs p.1=some (atM p.1 R):=by
 have:has kvs p.1=true:=has_mem.mpr (List.mem_map_of_mem hp)
 rw[has_look] at this
 obtain⟨v,lv⟩:=Option.isSome_iff_exists.mp this
 have h1:=h.sm p.1
 rw[lv] at h1
 have h1:v=atM p.1 R:=h1
 rw[lv,h1]
/-- a refusal,with cells behind -/
def XE (a:Option (Str × Int)) (X:AS):XQ:=fun c fs s=>∃ w i Z,a=some (w,i)∧c=Str.ofString "NoPaper" ∧ fs=[(Str.ofString "at",.int i),(Str.ofString "word",.str w)]∧s=X++Z
theorem XE.mk {w:Str} {i:Int} {X Z:AS} {a:Option (Str × Int)} (h:a=some (w,i)):XE a X (Str.ofString "NoPaper") [(Str.ofString "at",.int i),(Str.ofString "word",.str w)] (X++Z):=⟨w,i,Z,h,rfl,rfl,rfl⟩
end KT
namespace KT
open PySem VL G Kd W9 W26 WG TB
end KT
namespace KT
open PySem VL G Kd W9 W26 WG TB
end KT
namespace KT
open PySem VL G Kd W9 W26 WG TB
theorem ne_ints (ns:List Int) (S:AS):eqD true (.lst (ns.map D.int)) (.lst []) S = .ok (.bl (!ns.isEmpty)) S:=by
 have f1:=fit_ints ns
 have f2:=fit_nil
 unfold eqD
 rw[show valD S (.lst (ns.map D.int)) = .lst (ns.map D.int) from rfl,show valD S (.lst []) = .lst [] from rfl,f1,f2]
 cases ns with
 | nil=>simp[scalD,eqvD,D.py,D.pys,PyData.eqv,PyData.eqvAll]
 | cons n l=>simp[scalD,eqvD,D.py,D.pys,PyData.eqv,PyData.eqvAll]
theorem Mns.nd {kvs:List (Int × Int)} {R:List Rw3} (h:Mns kvs R):(kvs.map (·.1)).Nodup:=h.pw.imp fun {a b} z=>by omega
end KT
namespace KT
open PySem VL G Kd W9 W26 WG TB
end KT
namespace KT
open PySem VL G Kd W9 W26 WG TB
abbrev kIJ (p:Int × Int):List L2.Key:=[Sum.inl p.1,Sum.inl p.2]
theorem kIJ_inj (a b:Int × Int) (h:kIJ a=kIJ b):a=b:=by
 obtain⟨a1,a2⟩:=a
 obtain⟨b1,b2⟩:=b
 simp[kIJ] at h
 rw[h.1,h.2]
abbrev eF (fv:List ((Int × Int) × Int)):List (List L2.Key × D):=enK kIJ D.int fv
abbrev st3 (S:AS) (kv:List (Int × Int)) (fv:List ((Int × Int) × Int)) (ls:List D):AS:=S++[C.dct (eU kv),C.dtt (eF fv),C.lst ls]
def rgB (b:Int) (N t:Nat):List D:=((List.range N).drop t).map fun (k:Nat)=>D.int (b+(k:Int))
theorem rgB_at {b:Int} {N t:Nat} {d:D} {ds:List D} (h:d::ds=rgB b N t):t<N∧d = .int (b+(t:Int))∧ds=rgB b N (t+1):=by
 unfold rgB at h ⊢
 by_cases z:t<N
 · rw[List.drop_eq_getElem_cons (by simpa using z),List.map_cons] at h
   injection h with h1 h2
   exact⟨z,by rw[h1]; simp,h2⟩
 · rw[List.drop_eq_nil_of_le (by simp; omega)] at h
   cases h
/-- what room is left; what is found -/
def Room (f:Int) (kv:List (Int × Int)):Prop:=∀ t,0≤(look kv t).getD f∧(look kv t).getD f≤20
def Fnd (fv:List ((Int × Int) × Int)):Prop:=∀ p∈fv,(0≤p.1.1∧p.1.1≤500)∧(0≤p.1.2∧p.1.2≤12)∧0<p.2∧p.2≤7
theorem Room.put {f:Int} {kv:List (Int × Int)} (h:Room f kv) (t v:Int) (h0:0≤v) (h1:v≤20):Room f (G.put kv t v):=fun u=>by
 rw[look_put]
 by_cases z:u=t
 · rw[if_pos z]
   exact⟨h0,h1⟩
 · rw[if_neg z]
   exact h u
theorem Fnd.put {fv:List ((Int × Int) × Int)} (h:Fnd fv) (a b v:Int) (h1:0≤a∧a≤500) (h2:0≤b∧b≤12) (h3:0<v∧v≤7):Fnd (G.put fv (a,b) v):=fun p hp=>by
 rcases mem_putX hp with hp | rfl
 · exact h p hp.1
 · exact⟨h1,h2,h3⟩
end KT
namespace VL
open PySem PySem.Spec PyProof.Rows L2 TB
@[simp] def inKD (neg:Bool) (x y:D) (st:AS):Out D:=match lookD st y x with
 | some r=>.ok (.bl (xor neg r.isSome)) st
 | none=>.bad
theorem look_is {K:PySem.W.Frag} {mg:MG} {β:Bt} {H:Hp} {st:AS} {x y:D} {u v:V} {r:Option D} (S:Sim K mg β st H) (rx:Rep K H β x u) (ry:Rep K H β y v) (h:lookD st x y=some r):∃ a r',u = .ref a∧DGet H a v r'∧r'.isSome=r.isSome:=by
 have fin:∀ {κ:Type} [DecidableEq κ] {kvs:List (κ × D)} {us:List (κ × V)} (k:κ),RepK K H β kvs us→(valV us k).isSome=(valK kvs k).isSome:=by
   intro κ _ kvs us k q
   obtain⟨h1,h2⟩:=vals_lookup k q
   unfold valK
   cases e:kvs.find? fun kv=>decide (kv.1=k) with
   | none=>rw[h2 e]; rfl
   | some kv =>
     obtain⟨w,e1,_⟩:=h1 kv.2 (by rw[e]; rfl)
     rw[e1]
     rfl
 cases rx with
 | ref er =>
   rename_i i a
   unfold lookD at h
   dsimp only at h
   split at h
   · rename_i kvs ec
     obtain⟨us,eu,q⟩:=S.cell i a _ er ec
     split at h
     · rename_i k ek
       cases h
       rw[ry.key ek]
       exact⟨a,_,rfl,DGet.k eu,fin k q⟩
     · cases h
   · rename_i kvs ec
     obtain⟨us,eu,q⟩:=S.cell i a _ er ec
     cases ry with
     | tup n2 e2 r2 =>
       dsimp only at h
       split at h
       · rename_i k ek
         cases h
         have z:=r2.keys ek
         subst z
         exact⟨a,_,rfl,DGet.t eu e2,fin k q⟩
       · cases h
     | _=>cases h
   · cases h
 | _=>cases h
section
variable {X:Cx} {E:XK}
theorem oc_notinK (hu:X.A.units+65<cLine):OkC X E .NotIn (inKD true):=⟨_,op_dNotIn (Nat.lt_of_le_of_lt (by omega) hu),fun β H st x y u v Q S rx ry h=>by
 unfold inKD at h
 split at h
 · rename_i r e
   obtain⟨a,r',rfl,g,i⟩:=look_is S ry rx e
   exact⟨a,r',rfl,g,by rw[i]; exact h.here S (.bl _)⟩
 · exact h.elim⟩
end
end VL
namespace G
open PySem VL
noncomputable def B__law_finds (F : List D → AS → Out D) : En → AS → Fl :=
   (sSeq (sFor (v1 itD (v2 ixD (vVar 0) (vVar 2))) (kName 4) (sKill [4] (sIf (vB (v2 (inKD true) (vVar 4) (vVar 3))) (sSeq (sAsg (vC (.bl true)) (kSub (vVar 3) (vVar 4)))
   (sIf (vOr (vB (v2 (inKD true) (vVar 4) (vVar 1))) (v1 truD (vCallA 4 0 [] [.pos 0,.pos 1,.pos 2,.pos 3] F (vCons (vVar 0) (vCons (vVar 1) (vCons (v2 ixD (vVar 1) (vVar 4)) (vCons (vVar 3) vNil)))) vNil))) (sSeq (sAsg (vVar 2) (kSub (vVar 1) (vVar 4)))
   (sRet (vC (.bl true)))) sNext)) sNext)))
   (sRet (vC (.bl false))))
noncomputable def F__law_finds:Nat→List D→AS→Out D
 | 0=>fun _ _=>.bad
 | n+1=>vFn 5 0 (B__law_finds (F__law_finds n))
noncomputable def B__law_matched : En → AS → Fl :=
   (sSeq (sSet 2 (vA (gLst true) vNil))
   (sSeq (sFor (v1 itD (vVar 0)) (kTup 3 (kCons (kName 3) (kCons (kName 4) (kCons (kName 5) kNil)))) (sKill [3,4,5,6,7] (sSeq (sSet 6 (vA (gLst true) vNil))
   (sSeq (sFor (vA rng2 (vCons (vVar 3) (vCons (vVar 4) vNil))) (kName 7) (sKill [7] (sExpr (vML extD (vVar 6) (vCons (vLc false [10] (vA rng1 (vCons (vVar 1) vNil)) (kName 10) tYesV (vA gTup (vCons (vVar 7) (vCons (vVar 10) vNil)))) vNil)))))
   (sExpr (vML extD (vVar 2) (vCons (v2 (mulD false) (vA (gLst false) (vCons (vVar 6) vNil)) (vVar 5)) vNil)))))))
   (sSeq (sSet 8 vDNewT)
   (sRet (vML cntGD (vLc false [9] (vA rng1 (vCons (vA (g1 lenD) (vCons (vVar 2) vNil)) vNil)) (kName 9) tYesV (vCallA 4 0 [] [.pos 0,.pos 1,.pos 2,.pos 3] (F__law_finds 32) (vCons (vVar 2) (vCons (vVar 8) (vCons (vVar 9) (vCons vDNewT vNil)))) vNil)) (vCons (vC (.bl true)) vNil))))))
noncomputable def F__law_matched:List D→AS→Out D:=vFn 11 0 B__law_matched
noncomputable def B_law_637a : En → AS → Fl :=
   (sSeq (sSet 1 (vCallA 1 0 [] [.pos 0] F__law_coil (vCons (vVar 0) vNil) vNil))
   (sSeq (sPar 2 3 (vCons (vCallA 2 0 [] [.pos 0,.pos 1] F__law_jobs_09f3 (vCons (vVar 1) (vCons (vC (.int 4)) vNil)) vNil) (vCons (v2 (addD false) (vC (.int 1)) (vCallA 2 0 [] [.pos 0,.pos 1] F__law_pull (vCons (vVar 1) (vCons (vC (.int 3)) vNil)) vNil)) vNil)))
   (sSeq (sSet 4 (vA (g1 sumD) (vCons (vLc false [7] (v1 itD (vVar 2)) (kName 7) tYesV (v2 ixD (vVar 7) (vC (.int 2)))) vNil)))
   (sSeq (sFor (v1 itD (vA gTup (vCons (vVar 3) (vCons (v2 (addD false) (vVar 3) (vC (.int 1))) (vCons (vC (.int 1)) vNil))))) (kName 5) (sKill [5,6] (sSeq (sSet 6 (vIfE (vB (v2 (eqD false) (vCallA 2 0 [] [.pos 0,.pos 1] F__law_matched (vCons (vVar 2) (vCons (vVar 5) vNil)) vNil) (vVar 4))) (vC (.str "row")) (vC (.str "full"))))
   (sIf (vB (v2 (eqD true) (v2 ixD (vCallA 1 1 [.int 1] [.pos 0,.kw 0] F_kitchen (vCons (vVar 2) vNil) (vCons (vVar 5) vNil)) (vC (.int 0))) (vVar 6))) (sRet (vC (.bl false))) sNext))))
   (sRet (vC (.bl true)))))))
noncomputable def F_law_637a:List D→AS→Out D:=vFn 8 0 B_law_637a
end G
namespace KT
open PySem VL G Kd W9 W26 WG TB
abbrev eHd (H:List ((Int × Int) × Nat)):List (List L2.Key × D):=enK kIJ (fun u:Nat=>D.int (u:Int)) H
abbrev eSd (S:List (Int × Int)):List (List L2.Key × D):=enK kIJ (fun _:Unit=>D.bl true) (S.map fun s=>(s,()))
theorem look_unit {S:List (Int × Int)} {s:Int × Int}:look (S.map fun s=>(s,())) s=if s∈S then some () else none:=by
 induction S with
 | nil=>rfl
 | cons x S ih =>
   rw[List.map_cons,look_cons,ih]
   by_cases z:x=s
   · simp[z]
   · simp[z,Ne.symm z]
structure Wf (A:List (Int × Int)) (H:List ((Int × Int) × Nat)) (S:List (Int × Int)):Prop where
 hn:(H.map (·.1)).Nodup
 ha:∀ k∈H.map (·.1),k∈A
 sn:S.Nodup
 sa:∀ s∈S,s∈A
theorem Wf.hl {A S:List (Int × Int)} {H:List ((Int × Int) × Nat)} (w:Wf A H S):H.length≤A.length:=by
 have:=nodup_sub w.hn w.ha
 rwa [List.length_map] at this
theorem Wf.sl {A S:List (Int × Int)} {H:List ((Int × Int) × Nat)} (w:Wf A H S):S.length≤A.length:=nodup_sub w.sn w.sa
theorem Wf.puth {A S:List (Int × Int)} {H:List ((Int × Int) × Nat)} (w:Wf A H S) {s:Int × Int} (hs:s∈A) (u:Nat):Wf A (put H s u) S :=
 ⟨put_nodup w.hn s u,fun k hk=>by
   rw[put_keys] at hk
   split at hk
   · exact w.ha k hk
   · rcases List.mem_append.mp hk with hk | hk
     · exact w.ha k hk
     · rw[List.mem_singleton.mp hk]; exact hs,w.sn,w.sa⟩
theorem Wf.adds {A S:List (Int × Int)} {H:List ((Int × Int) × Nat)} (w:Wf A H S) {s:Int × Int} (hs:s∈A) (z:s∉S):Wf A H (S++[s]) :=
 ⟨w.hn,w.ha,by
   rw[List.nodup_append]
   refine⟨w.sn,by simp,fun a ha b hb e=>?_⟩
   rw[List.mem_singleton.mp hb] at e
   exact z (e ▸ ha),fun t ht=>(List.mem_append.mp ht).elim (w.sa t) fun ht=>by rw[List.mem_singleton.mp ht]; exact hs⟩
theorem loop_wf {A : List (Int × Int)} {rec : List ((Int × Int) × Nat) → List (Int × Int) → Nat → Bool × List ((Int × Int) × Nat) × List (Int × Int)} {u : Nat} (ih : ∀ H S v, Wf A H S → Wf A (rec H S v).2.1 (rec H S v).2.2) :
   ∀ (ss:List (Int × Int)) (H:List ((Int × Int) × Nat)) (S:List (Int × Int)),Wf A H S→(∀ s∈ss,s∈A)→Wf A (fLoop rec u ss H S).2.1 (fLoop rec u ss H S).2.2
 | [],H,S,w,_=>w
 | s::ss,H,S,w,hs=>by
   have sA:=hs s List.mem_cons_self
   have hs:=fun t ht=>hs t (List.mem_cons_of_mem _ ht)
   rw[fLoop]
   by_cases z:s∈S
   · rw[if_pos z]
     exact loop_wf ih ss H S w hs
   · rw[if_neg z]
     have w2:=w.adds sA z
     cases e:look H s with
     | none=>exact w2.puth sA u
     | some v =>
       have i:=ih H (S++[s]) v w2
       dsimp only
       generalize rec H (S++[s]) v=r at i ⊢
       obtain⟨b,H2,S2⟩:=r
       cases b with
       | true=>exact i.puth sA u
       | false=>exact loop_wf ih ss H2 S2 i hs
theorem fnd_wf {A:List (Int × Int)} {adj:Nat→List (Int × Int)} (ha:∀ u,∀ s∈adj u,s∈A):∀ (n:Nat) (H:List ((Int × Int) × Nat)) (S:List (Int × Int)) (u:Nat),Wf A H S→Wf A (fnd adj n H S u).2.1 (fnd adj n H S u).2.2
 | 0,_,_,_,w=>w
 | n+1,H,S,u,w=>loop_wf (fun H S v w=>fnd_wf ha n H S v w) (adj u) H S w (ha u)
structure Fst (X:AS) (p h e N:Nat) (c:Nat→Nat) (adj:Nat→List (Int × Int)):Prop where
 pr:X[p]? = some (.lst ((List.range N).map fun u=>D.ref (c u)))
 sp:∀ u,u<N→X[c u]? = some (.lst ((adj u).map eSt))
 ph:p<h
 ch:∀ u,u<N→c u<h
 he:h<e
 el:e<X.length
def fX (X:AS) (h e:Nat) (H:List ((Int × Int) × Nat)) (S:List (Int × Int)):AS:=(X.set h (.dtt (eHd H))).set e (.dtt (eSd S))
section
variable {X:AS} {p h e N:Nat} {c:Nat→Nat} {adj:Nat→List (Int × Int)}
theorem fx_len {H:List ((Int × Int) × Nat)} {S:List (Int × Int)}:(fX X h e H S).length=X.length:=by simp[fX]
theorem fx_lo {H:List ((Int × Int) × Nat)} {S:List (Int × Int)} {i:Nat} (h1:i<h) (h2:h<e):(fX X h e H S)[i]? = X[i]?:=by
 unfold fX
 rw[List.getElem?_set_ne (by omega),List.getElem?_set_ne (by omega)]
theorem fx_h (st:Fst X p h e N c adj) (H:List ((Int × Int) × Nat)) (S:List (Int × Int)):(fX X h e H S)[h]? = some (.dtt (eHd H)):=by
 have h1:=st.he
 have h2:=st.el
 unfold fX
 rw[List.getElem?_set_ne (by omega),List.getElem?_set_self (by omega)]
theorem fx_e (st:Fst X p h e N c adj) (H:List ((Int × Int) × Nat)) (S:List (Int × Int)):(fX X h e H S)[e]? = some (.dtt (eSd S)):=by
 have h2:=st.el
 unfold fX
 rw[List.getElem?_set_self (by rw[List.length_set]; omega)]
theorem fx_sh (st:Fst X p h e N c adj) (H H':List ((Int × Int) × Nat)) (S:List (Int × Int)):(fX X h e H S).set h (.dtt (eHd H'))=fX X h e H' S:=by
 have h1:=st.he
 unfold fX
 rw[List.set_comm _ _ (by omega),List.set_set]
theorem fx_se (H:List ((Int × Int) × Nat)) (S S':List (Int × Int)):(fX X h e H S).set e (.dtt (eSd S'))=fX X h e H S':=by
 unfold fX
 rw[List.set_set]
theorem set_h (st:Fst X p h e N c adj) (H:List ((Int × Int) × Nat)) (S:List (Int × Int)) (s:Int × Int) (u:Nat) (hl:H.length<16000000):setD (.ref h) (eSt s) (.int (u:Nat)) (fX X h e H S) = .ok () (fX X h e (put H s u) S):=by
 have pk:=putKD_enK (f:=kIJ) (g:=fun u:Nat=>D.int (u:Int)) kIJ_inj H s u
 unfold setD
 simp only[fx_h st,keysD,keyD]
 rw[if_pos (by rw[enK_length,sizeLine_eq]; omega)]
 have pk:putKD (eHd H) [Sum.inl s.1,Sum.inl s.2] (.int (u:Nat))=eHd (put H s u):=pk
 rw[pk,fx_sh st]
theorem set_e (st:Fst X p h e N c adj) (H:List ((Int × Int) × Nat)) (S:List (Int × Int)) (s:Int × Int) (z:s∉S) (hl:S.length<16000000):setD (.ref e) (eSt s) (.bl true) (fX X h e H S) = .ok () (fX X h e H (S++[s])):=by
 have pk:=putKD_enK (f:=kIJ) (g:=fun _:Unit=>D.bl true) kIJ_inj (S.map fun s=>(s,())) s ()
 have pp:put (S.map fun s=>(s,())) s ()=(S++[s]).map fun s=>(s,()):=by
   unfold put
   rw[has_look,look_unit,if_neg z]
   simp
 rw[pp] at pk
 unfold setD
 simp only[fx_e st,keysD,keyD]
 rw[if_pos (by rw[enK_length,sizeLine_eq,List.length_map]; omega)]
 have pk:putKD (eSd S) [Sum.inl s.1,Sum.inl s.2] (.bl true)=eSd (S++[s]):=pk
 rw[pk,fx_se]
theorem in_h (st:Fst X p h e N c adj) (H:List ((Int × Int) × Nat)) (S:List (Int × Int)) (s:Int × Int):inKD true (eSt s) (.ref h) (fX X h e H S) = .ok (.bl (look H s).isNone) (fX X h e H S):=by
 have v:=valK_enK (f:=kIJ) (g:=fun u:Nat=>D.int (u:Int)) kIJ_inj H s
 have v:valK (eHd H) [Sum.inl s.1,Sum.inl s.2]=(look H s).map fun u:Nat=>D.int (u:Int):=v
 unfold inKD lookD
 simp only[fx_h st,keysD,keyD]
 rw[v]
 cases look H s <;> rfl
theorem in_e (st:Fst X p h e N c adj) (H:List ((Int × Int) × Nat)) (S:List (Int × Int)) (s:Int × Int):inKD true (eSt s) (.ref e) (fX X h e H S) = .ok (.bl (!decide (s∈S))) (fX X h e H S):=by
 have v:=valK_enK (f:=kIJ) (g:=fun _:Unit=>D.bl true) kIJ_inj (S.map fun s=>(s,())) s
 have v:valK (eSd S) [Sum.inl s.1,Sum.inl s.2]=(look (S.map fun s=>(s,())) s).map fun _=>D.bl true:=v
 rw[look_unit] at v
 unfold inKD lookD
 simp only[fx_e st,keysD,keyD]
 rw[v]
 by_cases z:s∈S <;> simp[z]
theorem ix_h (st:Fst X p h e N c adj) {H:List ((Int × Int) × Nat)} (S:List (Int × Int)) {s:Int × Int} {u:Nat} (hu:look H s=some u):ixD (.ref h) (eSt s) (fX X h e H S) = .ok (.int (u:Nat)) (fX X h e H S):=by
 have v:=valK_enK (f:=kIJ) (g:=fun u:Nat=>D.int (u:Int)) kIJ_inj H s
 rw[hu] at v
 have v':(List.find? (fun kv=>decide (kv.1=[Sum.inl s.1,Sum.inl s.2])) (eHd H)).map (fun x=>x.2)=some (D.int (u:Nat)):=v
 have g:=fx_h st H S
 simp[g,v']
theorem ix_p (st:Fst X p h e N c adj) (H:List ((Int × Int) × Nat)) (S:List (Int × Int)) {u:Nat} (hu:u<N):ixD (.ref p) (.int (u:Nat)) (fX X h e H S) = .ok (.ref (c u)) (fX X h e H S):=by
 have g:(fX X h e H S)[p]? = some (.lst ((List.range N).map fun u=>D.ref (c u))):=by rw[fx_lo st.ph st.he]; exact st.pr
 have a:L2.atI ((List.range N).map fun u=>D.ref (c u)) (u:Nat)=some (D.ref (c u)):=by
   rw[atI_pos (by omega) (by simp; omega)]
   simp[hu]
 simp[g,a]
theorem f_finds (st : Fst X p h e N c adj) {A : List (Int × Int)} (ha : ∀ u, ∀ s ∈ adj u, s ∈ A) (al : A.length < 16000000) (aN : ∀ u, (adj u).length ≤ 16000000) : ∀ (n : Nat) (H : List ((Int × Int) × Nat)) (S : List (Int × Int)) (u : Nat) (L : List Nat), Pre adj H S u → L.length < n → (∀ t w, t ∉ S → look H t = some w → w ∈ L) → (∀ w ∈ L, w < N) → u < N → Wf A H S →
   F__law_finds n [.ref p,.ref h,.int (u:Nat),.ref e] (fX X h e H S) = .ok (.bl (fnd adj n H S u).1) (fX X h e (fnd adj n H S u).2.1 (fnd adj n H S u).2.2)
 | 0,_,_,_,_,_,hl,_,_,_,_=>by omega
 | n+1,H0,S0,u,L,p0,hl,hL,hN,hu,w0=>by
   have IH:=f_finds st ha al aN n
   have IS:=fun H S v (L:List Nat)=>fnd_spec (adj:=adj) n H S v L
   have IW:=fnd_wf (A:=A) ha n
   refine eq_of_wpK ?_
   have ret:∀ (d:D) (H:List ((Int × Int) × Nat)) (S:List (Int × Int)),VL.ret 0 (fX X h e H0 S0) d (fX X h e H S) = .ok d (fX X h e H S):=fun d H S=>ret_len (by rw[fx_len,fx_len])
   rw[show fnd adj (n+1) H0 S0 u=fLoop (fnd adj n) u (adj u) H0 S0 from rfl]
   generalize hR:fLoop (fnd adj n) u (adj u) H0 S0=R
   show (vFn 5 0 (B__law_finds (F__law_finds n)) [.ref p,.ref h,.int (u:Nat),.ref e] (fX X h e H0 S0)).wp _ _
   rw[E8]; simp only[List.map_cons,List.map_nil,List.length_cons,List.length_nil,Nat.reduceAdd,Nat.reduceSub,List.replicate_succ,List.replicate_zero,List.cons_append,List.nil_append]
   unfold B__law_finds
   have ix0:=ix_p st H0 S0 hu
   have gc:∀ H S,(fX X h e H S)[c u]? = some (.lst ((adj u).map eSt)):=fun H S=>by rw[fx_lo (st.ch u hu) st.he]; exact st.sp u hu
   have it0:itD (.ref (c u)) (fX X h e H0 S0) = .ok ((adj u).map eSt,[(c u,.lst ((adj u).map eSt))]) (fX X h e H0 S0):=by
     unfold itD
     simp[gc]
   have al2:((adj u).map eSt).length≤16000000:=by rw[List.length_map]; exact aN u
   have hin:=ha u
   generalize hG:F__law_finds n=GF at *
   try simp -dsimp -implicitDefEqProofs [-ixD,-Int.toNat_natCast,↓A7,↓B1,↓B5,↓A9,↓D0,↓D6,↓E4,↓F4,↓E6,↓D9,↓E3,↓F6,↓F5,↓E9,↓F9,↓F3,↓F1,↓E5,↓F0,↓E7,↓F7,↓F8,↓B7,↓B6,↓C6,↓B8,↓C4,↓C5,↓A8,↓C3,↓B4,↓C7,↓A6,↓B9,↓C2,↓C9,↓C8,↓E8,mk,G0,G1,G5,G6,G7,G8,G9,H9,I6,I7,I8,I9,J0,J3,J4,J5,J6,J7,J8,J9,K0,K3,ix0,-itD,it0,al2]
   refine wp_for (fun ds env S'=>Hold (∃ (ss:List (Int × Int)) (H:List ((Int × Int) × Nat)) (S:List (Int × Int)),ds=ss.map eSt∧env=[some (.ref p),some (.ref h),some (.int (u:Nat)),some (.ref e),none]∧S'=fX X h e H S∧fLoop (fnd adj n) u ss H S=R∧Pre adj H S u∧(∀ t w,t∉S→look H t=some w→w∈L)∧Wf A H S∧(∀ s∈ss,s∈adj u))) _ _ _ ?_ ?_ ?_ ?_
   · exact⟨adj u,H0,S0,rfl,rfl,rfl,hR,p0,hL,w0,fun s h=>h⟩
   · rintro ds env S' ⟨ss,H,S,_,_,rfl,_⟩
     exact ok_one (gc H S)
   · rintro d ds env S' ⟨ss,H,S,e1,e2,e3,e4,pr,hL,wf,hs⟩
     subst e2
     subst e3
     obtain⟨s,ss,rfl,rfl,rfl⟩:∃ s r,ss=s::r∧d=eSt s∧ds=r.map eSt:=by
       cases ss with
       | nil=>cases e1
       | cons s r=>injection e1 with h1 h2; exact⟨s,r,rfl,h1,h2⟩
     clear e1
     have sA:=hin s (hs s List.mem_cons_self)
     have hs':=fun t (ht:t∈ss)=>hs t (List.mem_cons_of_mem _ ht)
     have i1:=in_e st H S s
     by_cases z:s∈S
     · rw[fLoop,if_pos z] at e4
       rw[decide_eq_true z] at i1
       have fin:Hold (∃ (ss':List (Int × Int)) (H':List ((Int × Int) × Nat)) (S':List (Int × Int)),ss.map eSt=ss'.map eSt∧([some (.ref p),some (.ref h),some (.int (u:Nat)),some (.ref e),none]:En)=[some (.ref p),some (.ref h),some (.int (u:Nat)),some (.ref e),none]∧fX X h e H S=fX X h e H' S'∧fLoop (fnd adj n) u ss' H' S'=R∧Pre adj H' S' u∧(∀ t w,t∉S'→look H' t=some w→w∈L)∧Wf A H' S'∧(∀ s∈ss',s∈adj u)):=⟨ss,H,S,rfl,rfl,rfl,e4,pr,hL,wf,hs'⟩
       generalize eSt s=sD at *
       try simp -dsimp -implicitDefEqProofs [-ixD,-Int.toNat_natCast,↓A7,↓B1,↓B5,↓A9,↓D0,↓D6,↓E4,↓F4,↓E6,↓D9,↓E3,↓F6,↓F5,↓E9,↓F9,↓F3,↓F1,↓E5,↓F0,↓E7,↓F7,↓F8,↓B7,↓B6,↓C6,↓B8,↓C4,↓C5,↓A8,↓C3,↓B4,↓C7,↓A6,↓B9,↓C2,↓C9,↓C8,↓E8,mk,G0,G1,G5,G6,G7,G8,G9,H9,I6,I7,I8,I9,J0,J3,J4,J5,J6,J7,J8,J9,K0,K3,-inKD,i1]
       exact fin
     · rw[fLoop,if_neg z] at e4
       rw[decide_eq_false z] at i1
       have wf2:=wf.adds sA z
       have se:=set_e st H S s z (by have:=wf.sl; omega)
       have i2:=in_h st H (S++[s]) s
       cases el:look H s with
       | none =>
         rw[el] at e4 i2
         dsimp only at e4
         have sh:=set_h st H (S++[s]) s u (by have:=wf.hl; omega)
         rw[← e4]
         generalize eSt s=sD at *
         try simp -dsimp -implicitDefEqProofs [-ixD,-Int.toNat_natCast,↓A7,↓B1,↓B5,↓A9,↓D0,↓D6,↓E4,↓F4,↓E6,↓D9,↓E3,↓F6,↓F5,↓E9,↓F9,↓F3,↓F1,↓E5,↓F0,↓E7,↓F7,↓F8,↓B7,↓B6,↓C6,↓B8,↓C4,↓C5,↓A8,↓C3,↓B4,↓C7,↓A6,↓B9,↓C2,↓C9,↓C8,↓E8,mk,G0,G1,G5,G6,G7,G8,G9,H9,I6,I7,I8,I9,J0,J3,J4,J5,J6,J7,J8,J9,K0,K3,-inKD,-setD,i1,i2,se,sh,ret]
         exact⟨rfl,rfl⟩
       | some v =>
         rw[el] at e4 i2
         have vL:=hL s v z el
         have sS:∀ t∈S,t∈S++[s]:=fun t h=>List.mem_append_left _ h
         have pv:Pre adj H (S++[s]) v:=by
           have q:=pr.mono (S':=S++[s]) sS
           refine⟨q.ed,q.ij,fun t a b=>?_⟩
           have:=pr.ij t s v (fun h=>a (sS t h)) z b el
           subst this
           exact a (by simp)
         have L1:(L.erase v).length<n:=by
           rw[List.length_erase_of_mem vL]
           have:=List.length_pos_of_mem vL
           omega
         have L2':∀ t w,t∉S++[s]→look H t=some w→w∈L.erase v:=fun t w a b=>by
           refine (List.mem_erase_of_ne fun e2=>?_).mpr (hL t w (fun h=>a (sS t h)) b)
           subst e2
           exact pv.nu t a b
         have ih:=IH H (S++[s]) v (L.erase v) pv L1 L2' (fun w hw=>hN w (List.mem_of_mem_erase hw)) (hN v vL) wf2
         have sp:=IS H (S++[s]) v (L.erase v) pv L1 L2'
         have iw:=IW H (S++[s]) v wf2
         have ixh:=ix_h st (S++[s]) el
         dsimp only at e4
         generalize hr:fnd adj n H (S++[s]) v=r at ih sp iw e4
         obtain⟨b,H2,S2⟩:=r
         dsimp only at ih iw
         cases b with
         | true =>
           dsimp only at e4
           have sh:=set_h st H2 S2 s u (by have:=iw.hl; omega)
           rw[← e4]
           generalize eSt s=sD at *
           try simp -dsimp -implicitDefEqProofs [-ixD,-Int.toNat_natCast,↓A7,↓B1,↓B5,↓A9,↓D0,↓D6,↓E4,↓F4,↓E6,↓D9,↓E3,↓F6,↓F5,↓E9,↓F9,↓F3,↓F1,↓E5,↓F0,↓E7,↓F7,↓F8,↓B7,↓B6,↓C6,↓B8,↓C4,↓C5,↓A8,↓C3,↓B4,↓C7,↓A6,↓B9,↓C2,↓C9,↓C8,↓E8,mk,G0,G1,G5,G6,G7,G8,G9,H9,I6,I7,I8,I9,J0,J3,J4,J5,J6,J7,J8,J9,K0,K3,-inKD,-setD,i1,i2,se,ixh,ih,sh,ret]
           exact⟨rfl,rfl⟩
         | false =>
           obtain⟨e2,fai⟩:=sp.2 rfl
           dsimp only at e2 fai e4
           subst e2
           have S2S:∀ t∈S,t∈S2:=fun t h=>fai.sb t (sS t h)
           have fin:Hold (∃ (ss':List (Int × Int)) (H':List ((Int × Int) × Nat)) (S':List (Int × Int)),ss.map eSt=ss'.map eSt∧([some (.ref p),some (.ref h),some (.int (u:Nat)),some (.ref e),none]:En)=[some (.ref p),some (.ref h),some (.int (u:Nat)),some (.ref e),none]∧fX X h e H2 S2=fX X h e H' S'∧fLoop (fnd adj n) u ss' H' S'=R∧Pre adj H' S' u∧(∀ t w,t∉S'→look H' t=some w→w∈L)∧Wf A H' S'∧(∀ s∈ss',s∈adj u)):=⟨ss,H2,S2,rfl,rfl,rfl,e4,pr.mono S2S,fun t w a b=>hL t w (fun h=>a (S2S t h)) b,iw,hs'⟩
           generalize eSt s=sD at *
           try simp -dsimp -implicitDefEqProofs [-ixD,-Int.toNat_natCast,↓A7,↓B1,↓B5,↓A9,↓D0,↓D6,↓E4,↓F4,↓E6,↓D9,↓E3,↓F6,↓F5,↓E9,↓F9,↓F3,↓F1,↓E5,↓F0,↓E7,↓F7,↓F8,↓B7,↓B6,↓C6,↓B8,↓C4,↓C5,↓A8,↓C3,↓B4,↓C7,↓A6,↓B9,↓C2,↓C9,↓C8,↓E8,mk,G0,G1,G5,G6,G7,G8,G9,H9,I6,I7,I8,I9,J0,J3,J4,J5,J6,J7,J8,J9,K0,K3,-inKD,-setD,i1,i2,se,ixh,ih]
           exact fin
   · rintro env S' ⟨ss,H,S,e1,e2,e3,e4,pr,hL,wf,hs⟩
     subst e2
     subst e3
     have r0:ss=[]:=by
       cases ss with
       | nil=>rfl
       | cons _ _=>cases e1
     subst r0
     rw[fLoop] at e4
     rw[← e4]
     try simp -dsimp -implicitDefEqProofs [-ixD,-Int.toNat_natCast,↓A7,↓B1,↓B5,↓A9,↓D0,↓D6,↓E4,↓F4,↓E6,↓D9,↓E3,↓F6,↓F5,↓E9,↓F9,↓F3,↓F1,↓E5,↓F0,↓E7,↓F7,↓F8,↓B7,↓B6,↓C6,↓B8,↓C4,↓C5,↓A8,↓C3,↓B4,↓C7,↓A6,↓B9,↓C2,↓C9,↓C8,↓E8,mk,G0,G1,G5,G6,G7,G8,G9,H9,I6,I7,I8,I9,J0,J3,J4,J5,J6,J7,J8,J9,K0,K3,ret]
     exact⟨rfl,rfl⟩
end
end KT
namespace KT
open PySem VL G Kd W9 W26 WG TB
def refsJ:Nat→List Jb→List Nat
 | _,[]=>[]
 | b,j::js=>List.replicate j.2.2.toNat b++refsJ (b+1) js
theorem refs_snoc (j:Jb):∀ (js:List Jb) (b:Nat),refsJ b (js++[j])=refsJ b js++List.replicate j.2.2.toNat (b+js.length)
 | [],b=>by simp[refsJ]
 | i::js,b=>by
   rw[List.cons_append,refsJ,refsJ,refs_snoc j js,List.append_assoc]
   rw[show b+1+js.length=b+(i::js).length by simp; omega]
theorem refs_len (f:Int):∀ (js:List Jb) (b:Nat),(refsJ b js).length=(partJ js f).length
 | [],_=>rfl
 | j::js,b=>by
   have e:partJ (j::js) f=List.replicate j.2.2.toNat (spotsJ f j)++partJ js f:=rfl
   rw[refsJ,e,List.length_append,List.length_append,refs_len f js,List.length_replicate,List.length_replicate]
theorem refs_at (f:Int):∀ (js:List Jb) (b u:Nat),u<(partJ js f).length → ∃ i,∃ h:i<js.length,(refsJ b js).getD u 0=b+i∧(partJ js f).getD u []=spotsJ f js[i]
 | [],_,_,h=>by cases h
 | j::js,b,u,h=>by
   have e:partJ (j::js) f=List.replicate j.2.2.toNat (spotsJ f j)++partJ js f:=rfl
   rw[e,List.length_append,List.length_replicate] at h
   rw[refsJ,e]
   by_cases z:u<j.2.2.toNat
   · refine⟨0,by simp,?_,?_⟩
     · rw[List.getD_eq_getElem?_getD,List.getElem?_append_left (by simpa using z)]
       simp[z]
     · rw[List.getD_eq_getElem?_getD,List.getElem?_append_left (by simpa using z)]
       simp[z]
   · obtain⟨i,hi,e1,e2⟩:=refs_at f js (b+1) (u-j.2.2.toNat) (by omega)
     refine⟨i+1,by simp; omega,?_,?_⟩
     · rw[List.getD_eq_getElem?_getD,List.getElem?_append_right (by simp; omega),List.length_replicate,← List.getD_eq_getElem?_getD,e1]
       omega
     · rw[List.getD_eq_getElem?_getD,List.getElem?_append_right (by simp; omega),List.length_replicate,← List.getD_eq_getElem?_getD,e2]
       simp
theorem ext_at {S:AS} {i:Nat} {xs ys:List D} (h:S[i]? = some (.lst xs)) (hl:xs.length+ys.length≤16000000):extD (.ref i) [.lst ys] S = .ok .non (S.set i (.lst (xs++ys))):=by
 simp[h,G0,hl]
/-- the places of the first minutes -/
def spt (f b:Int) (t:Nat):List (Int × Int):=(List.range t).flatMap fun (t:Nat)=>(List.range f.toNat).map fun (p:Nat)=>(b+(t:Int),(p:Int))
theorem spt_succ (f b:Int) (t:Nat):spt f b (t+1)=spt f b t++(List.range f.toNat).map fun (p:Nat)=>(b+(t:Int),(p:Int)):=by
 unfold spt
 rw[List.range_succ,List.flatMap_append]
 simp
theorem spt_len (f b:Int):∀ t:Nat,(spt f b t).length=t*f.toNat
 | 0=>by simp[spt]
 | t+1=>by
   rw[spt_succ,List.length_append,spt_len f b t,List.length_map,List.length_range,Nat.succ_mul]
theorem spt_all (f:Int) (j:Jb):spt f j.1 (j.2.1-j.1).toNat=spotsJ f j:=rfl
theorem mul_refs (i:Nat) (p:Int) (h0:0≤p) (h1:p≤1000) (S:AS):mulD false (.lst [.ref i]) (.int p) S = .ok (.lst (List.replicate p.toNat (.ref i))) S:=by
 have e:(List.replicate p.toNat [D.ref i]).flatten=List.replicate p.toNat (.ref i):=by
   generalize p.toNat=n
   induction n with
   | zero=>rfl
   | succ n ih=>rw[List.replicate_succ,List.replicate_succ,List.flatten_cons,ih]; rfl
 have c:(-9223372036854775808≤p∧p<9223372036854775808):=by omega
 simp[listW,G0,mk,e,c,show p.toNat≤16000000 by omega]
theorem cnt_bls (bs:List Bool) (hl:bs.length≤1000) (S:AS):cntGD (.lst (bs.map D.bl)) [.bl true] S = .ok (.int (trues bs:Nat)) S:=by
 have o:Kd.Ok 2001 1 0 (.lst (bs.map D.bl)):=ok_lstS (m:=2000) (k:=0) (fun d hd=>by
   obtain⟨b,_,rfl⟩:=List.mem_map.mp hd
   exact⟨by simp[pln],by simp[D.py,PyData.depth],by rw[D.py]; simp[Ats]⟩) (by
   have:∀ bs:List Bool,szs ((bs.map D.bl).map D.py)≤2*bs.length:=fun bs=>by
     induction bs with
     | nil=>simp[szs]
     | cons b bs ih=>simp[szs,D.py,sz] at ih ⊢; omega
   have:=this bs
   omega)
 have f1:=o.fit (by omega) (by omega)
 have f2:(D.bl true).fit=true:=by decide
 have e:(bs.map D.bl).countP (fun d=>eqvD d (.bl true))=trues bs:=by
   rw[List.countP_map]
   unfold trues
   refine List.countP_congr fun b _=>?_
   cases b <;> simp[eqvD,D.py,PyData.eqv]
 unfold cntGD
 dsimp only
 rw[f1,f2,e]
 rfl
end KT
namespace KT
open PySem VL G Kd W9 W26 WG TB
/-- the cells of the jobs' places -/
def spC (f:Int) (js:List Jb):List C:=js.map fun j=>C.lst ((spotsJ f j).map eSt)
theorem spC_len (f:Int) (js:List Jb):(spC f js).length=js.length:=by simp[spC]
theorem g_part {X W:AS} {c:C}:(X++c::W)[X.length]? = some c:=by simp
theorem s_part {X W:AS} {c d:C}:(X++c::W).set X.length d=X++d::W:=by simp
theorem g_spt {X SC:AS} {c d:C}:(X++c::(SC++[d]))[X.length+1+SC.length]? = some d:=by
 rw[List.getElem?_append_right (by omega),show X.length+1+SC.length-X.length=SC.length+1 by omega,List.getElem?_cons_succ,List.getElem?_append_right (by omega)]
 simp
theorem s_spt {X SC:AS} {c d d2:C}:(X++c::(SC++[d])).set (X.length+1+SC.length) d2=X++c::(SC++[d2]):=by
 rw[List.set_append_right _ _ (by omega),show X.length+1+SC.length-X.length=SC.length+1 by omega,List.set_cons_succ,List.set_append_right _ _ (by omega)]
 simp
theorem allF_len {adj:Nat→List (Int × Int)} {F:Nat}:∀ n,(allF adj F n).2.length=n
 | 0=>rfl
 | n+1=>by rw[allF,List.length_append,allF_len n]; rfl
theorem allF_wf {A:List (Int × Int)} {adj:Nat→List (Int × Int)} (ha:∀ u,∀ s∈adj u,s∈A) {F:Nat}:∀ n,Wf A (allF adj F n).1 []
 | 0=>⟨by simp[allF],by simp[allF],by simp,by simp⟩
 | n+1=>by
   rw[allF]
   have w:=fnd_wf ha F (allF adj F n).1 [] n (allF_wf ha n)
   exact⟨w.hn,w.ha,by simp,by simp⟩
theorem spots_len (f:Int) (j:Jb):(spotsJ f j).length=(j.2.1-j.1).toNat*f.toNat:=by
 rw[← spt_all,spt_len]
/-- all places of all jobs -/
def allS (js:List Jb) (f:Int):List (Int × Int):=js.flatMap fun j=>spotsJ f j
theorem part_sub {js:List Jb} {f:Int} (u:Nat):∀ s∈adjP (partJ js f) u,s∈allS js f:=fun s hs=>by
 unfold adjP at hs
 by_cases z:u<(partJ js f).length
 · obtain⟨i,hi,_,e⟩:=refs_at f js 0 u z
   rw[e] at hs
   exact List.mem_flatMap.mpr ⟨_,List.getElem_mem hi,hs⟩
 · rw[List.getD_eq_getElem?_getD,List.getElem?_eq_none (by omega)] at hs
   cases hs
theorem allS_len {js:List Jb} {f:Int} {k:Nat} (hk:∀ j∈js,(spotsJ f j).length≤k):(allS js f).length≤js.length*k:=by
 induction js with
 | nil=>simp[allS]
 | cons j js ih =>
   have:=ih fun j hj=>hk j (List.mem_cons_of_mem _ hj)
   have h0:=hk j List.mem_cons_self
   have e:allS (j::js) f=spotsJ f j++allS js f:=rfl
   rw[e,List.length_append,List.length_cons,Nat.succ_mul]
   omega
/-- what the search needs of the jobs -/
structure Few (js:List Jb) (f:Int):Prop where
 ok:∀ j∈js,(0≤j.1∧j.1≤1000)∧(j.1≤j.2.1∧j.2.1≤1000)∧0≤j.2.2∧j.2.2≤1000
 f0:0≤f
 f9:f≤100
 jl:js.length≤100
 fw:(partJ js f).length<32
def found (js:List Jb) (f:Int):Nat:=trues (allF (adjP (partJ js f)) 32 (partJ js f).length).2
section
variable {js:List Jb} {f:Int} {X:AS}
theorem Few.sl (h:Few js f):∀ j∈js,(spotsJ f j).length≤100000:=fun j hj=>by
 have o:=h.ok j hj
 rw[spots_len]
 have a:(j.2.1-j.1).toNat≤1000:=by omega
 have b:f.toNat≤100:=by have:=h.f9; omega
 exact Nat.mul_le_mul a b
theorem f_matched (h:Few js f) {JD:D} (hI:∀ S,itD JD S = .ok (js.map eJb,[]) S):F__law_matched [JD,.int f] X = .ok (.int (found js f:Nat)) X:=by
 refine eq_of_wpK ?_
 have f0:=h.f0
 have f9:=h.f9
 have jl:=h.jl
 have jl2:(js.map eJb).length≤16000000:=by rw[List.length_map]; omega
 unfold F__law_matched
 rw[E8]; simp only[List.map_cons,List.map_nil,List.length_cons,List.length_nil,Nat.reduceAdd,Nat.reduceSub,List.replicate_succ,List.replicate_zero,List.cons_append,List.nil_append]
 unfold B__law_matched
 try simp -dsimp -implicitDefEqProofs [-ixD,-Int.toNat_natCast,↓A7,↓B1,↓B5,↓A9,↓D0,↓D6,↓E4,↓F4,↓E6,↓D9,↓E3,↓F6,↓F5,↓E9,↓F9,↓F3,↓F1,↓E5,↓F0,↓E7,↓F7,↓F8,↓B7,↓B6,↓C6,↓B8,↓C4,↓C5,↓A8,↓C3,↓B4,↓C7,↓A6,↓B9,↓C2,↓C9,↓C8,↓E8,mk,G0,G1,G5,G6,G7,G8,G9,H9,I6,I7,I8,I9,J0,J3,J4,J5,J6,J7,J8,J9,K0,K3,-itD,hI,jl2]
 refine wp_for0 (fun ds env S'=>Hold (∃ j1 j2:List Jb,js=j1++j2∧ds=j2.map eJb∧env=[some JD,some (.int f),some (.ref X.length),none,none,none,none,none,none,none,none]∧S'=X++C.lst ((refsJ (X.length+1) j1).map D.ref)::spC f j1)) ?_ ?_ ?_
 · exact⟨[],js,rfl,rfl,rfl,rfl⟩
 · rintro d ds env S' ⟨j1,j2,e1,e2,e4,e5⟩
   subst e4
   subst e5
   obtain⟨j,j3,rfl,rfl,rfl⟩:∃ j j3,j2=j::j3∧d=eJb j∧ds=j3.map eJb:=by
     cases j2 with
     | nil=>cases e2
     | cons j j3=>injection e2 with h1 h2; exact⟨j,j3,rfl,h1,h2⟩
   clear e2
   obtain⟨⟨b0,b1⟩,⟨c0,c1⟩,p0,p1⟩:=h.ok j (by rw[e1]; simp)
   have sl:=h.sl j (by rw[e1]; simp)
   have un:eJb j = .tup [.int j.1,.int j.2.1,.int j.2.2]:=rfl
   have rl:(refsJ (X.length+1) j1).length+j.2.2.toNat<32:=by
     have:=h.fw
     rw[refs_len f,← refs_len f js 0,e1] at *
     have e:refsJ 0 (j1++j::j3)=refsJ 0 ((j1++[j])++j3):=by simp
     have ap:∀ (a b:List Jb) (n:Nat),(refsJ n (a++b)).length=(refsJ n a).length+(refsJ (n+a.length) b).length:=fun a=>by
       induction a with
       | nil=>intro b n; simp[refsJ]
       | cons x a ih =>
         intro b n
         rw[List.cons_append,refsJ,refsJ,List.length_append,List.length_append,ih,List.length_cons,show n+(a.length+1)=n+1+a.length by omega]
         omega
     rw[e,ap,refs_snoc,List.length_append,List.length_replicate] at this
     rw[← refs_len f j1 0]
     omega
   have fin:Hold (∃ a b:List Jb,js=a++b∧j3.map eJb=b.map eJb∧([some JD,some (.int f),some (.ref X.length),none,none,none,none,none,none,none,none]:En)=[some JD,some (.int f),some (.ref X.length),none,none,none,none,none,none,none,none]∧X++C.lst ((refsJ (X.length+1) j1).map D.ref++List.replicate j.2.2.toNat (D.ref (X.length+1+j1.length)))::(spC f j1++[C.lst ((spotsJ f j).map eSt)])=X++C.lst ((refsJ (X.length+1) a).map D.ref)::spC f a) :=
     ⟨j1++[j],j3,by rw[e1]; simp,rfl,rfl,by rw[refs_snoc]; simp[spC]⟩
   rw[un]
   obtain⟨jb,je,jp⟩:=j
   dsimp only at b0 b1 c0 c1 p0 p1 sl rl fin ⊢
   have cl:(spC f j1).length=j1.length:=spC_len f j1
   generalize spC f j1=SC at *
   generalize hPR:(refsJ (X.length+1) j1).map D.ref=PR at *
   have PRl:PR.length+jp.toNat<32:=by rw[← hPR,List.length_map]; exact rl
   have ln:(X++C.lst PR::SC).length=X.length+1+SC.length:=by simp; omega
   have app:(X++C.lst PR::SC)++[C.lst []]=X++C.lst PR::(SC++[C.lst []]):=by simp
   have r2:=fun S=>rng2_ok (i:=jb) (j:=je) (st:=S) (by omega) (by omega)
   have r2:∀ S,rng2 [.int jb,.int je] S = .ok (rgB jb (je-jb).toNat 0,[]) S:=r2
   have r2l:(rgB jb (je-jb).toNat 0).length≤16000000:=by simp[rgB]; omega
   have rf:∀ S,rng1 [.int f] S = .ok (rgL f.toNat 0,[]) S:=fun S=>rng1_ok (j:=f) (by omega) (by omega)
   have rfl':(rgL f.toNat 0).length≤16000000:=by simp[rgL]; omega
   try simp -dsimp -implicitDefEqProofs [-ixD,-Int.toNat_natCast,↓A7,↓B1,↓B5,↓A9,↓D0,↓D6,↓E4,↓F4,↓E6,↓D9,↓E3,↓F6,↓F5,↓E9,↓F9,↓F3,↓F1,↓E5,↓F0,↓E7,↓F7,↓F8,↓B7,↓B6,↓C6,↓B8,↓C4,↓C5,↓A8,↓C3,↓B4,↓C7,↓A6,↓B9,↓C2,↓C9,↓C8,↓E8,mk,G0,G1,G5,G6,G7,G8,G9,H9,I6,I7,I8,I9,J0,J3,J4,J5,J6,J7,J8,J9,K0,K3,ln,app,r2,r2l]
   refine wp_for0 (fun ds env S'=>Hold (∃ t:Nat,t≤(je-jb).toNat∧ds=rgB jb (je-jb).toNat t∧env=[some JD,some (.int f),some (.ref X.length),some (.int jb),some (.int je),some (.int jp),some (.ref (X.length+1+SC.length)),none,none,none,none]∧S'=X++C.lst PR::(SC++[C.lst ((spt f jb t).map eSt)]))) ?_ ?_ ?_
   · exact⟨0,by omega,rfl,rfl,rfl⟩
   · rintro d ds env S' ⟨t,tl,e2,e4,e5⟩
     subst e4
     subst e5
     obtain⟨ht,rfl,rfl⟩:=rgB_at e2
     have cm:∀ a0 a1 a2 a3 a4 a5 a6 a8 a9 S,compL (kName 10) tYesV (vA gTup (vCons (vVar 7) (vCons (vVar 10) vNil))) [a0,a1,a2,a3,a4,a5,a6,some (.int (jb+(t:Int))),a8,a9,none] [] (rgL f.toNat 0) S = .ok (((List.range f.toNat).map fun (p:Nat)=>(jb+(t:Int),(p:Int))).map eSt) S:=fun a0 a1 a2 a3 a4 a5 a6 a8 a9 S=>by
       rw[List.map_map]
       exact comp_all (fun p:Nat=>D.int (p:Int)) _ gd_nilOk (List.range f.toNat) fun p _=>⟨_,rfl,rfl,by simp[G0]⟩
     have sl2:(spt f jb t).length+f.toNat≤16000000:=by
       rw[spt_len]
       have:t*f.toNat≤1000*100:=Nat.mul_le_mul (by omega) (by omega)
       omega
     have gsp:=g_spt (X:=X) (SC:=SC) (c:=C.lst PR) (d:=C.lst ((spt f jb t).map eSt))
     have ex:=ext_at (g_spt (X:=X) (SC:=SC) (c:=C.lst PR) (d:=C.lst ((spt f jb t).map eSt))) (ys:=((List.range f.toNat).map fun (p:Nat)=>(jb+(t:Int),(p:Int))).map eSt) (by simpa using sl2)
     rw[s_spt,← List.map_append,← spt_succ] at ex
     try simp -dsimp -implicitDefEqProofs [-ixD,-Int.toNat_natCast,↓A7,↓B1,↓B5,↓A9,↓D0,↓D6,↓E4,↓F4,↓E6,↓D9,↓E3,↓F6,↓F5,↓E9,↓F9,↓F3,↓F1,↓E5,↓F0,↓E7,↓F7,↓F8,↓B7,↓B6,↓C6,↓B8,↓C4,↓C5,↓A8,↓C3,↓B4,↓C7,↓A6,↓B9,↓C2,↓C9,↓C8,↓E8,mk,G0,G1,G5,G6,G7,G8,G9,H9,I6,I7,I8,I9,J0,J3,J4,J5,J6,J7,J8,J9,K0,K3,-rng1,gsp,rf,rfl']
     refine wp_of (cm _ _ _ _ _ _ _ _ _ _) ?_
     have cl2:(((List.range f.toNat).map fun (p:Nat)=>(jb+(t:Int),(p:Int))).map eSt).length≤16000000:=by simp; omega
     generalize ((List.range f.toNat).map fun (p:Nat)=>(jb+(t:Int),(p:Int))).map eSt=YS at *
     try simp -dsimp -implicitDefEqProofs [-ixD,-Int.toNat_natCast,↓A7,↓B1,↓B5,↓A9,↓D0,↓D6,↓E4,↓F4,↓E6,↓D9,↓E3,↓F6,↓F5,↓E9,↓F9,↓F3,↓F1,↓E5,↓F0,↓E7,↓F7,↓F8,↓B7,↓B6,↓C6,↓B8,↓C4,↓C5,↓A8,↓C3,↓B4,↓C7,↓A6,↓B9,↓C2,↓C9,↓C8,↓E8,mk,G0,G1,G5,G6,G7,G8,G9,H9,I6,I7,I8,I9,J0,J3,J4,J5,J6,J7,J8,J9,K0,K3,cl2,-extD,ex]
     exact⟨t+1,by omega,rfl,rfl,rfl⟩
   · rintro env S' ⟨t,tl,e2,e4,e5⟩
     subst e4
     subst e5
     have te:t=(je-jb).toNat:=by
       have:=congrArg List.length e2
       simp[rgB] at this
       omega
     subst te
     have sa:spt f jb (je-jb).toNat=spotsJ f (jb,je,jp):=rfl
     rw[sa]
     have mr:=fun S=>mul_refs (X.length+1+SC.length) jp p0 (by omega) S
     have ex:=ext_at (g_part (X:=X) (W:=SC++[C.lst ((spotsJ f (jb,je,jp)).map eSt)]) (c:=C.lst PR)) (ys:=List.replicate jp.toNat (D.ref (X.length+1+SC.length))) (by rw[List.length_replicate]; omega)
     rw[s_part] at ex
     rw[← cl] at fin
     generalize (spotsJ f (jb,je,jp)).map eSt=XS at *
     generalize List.replicate jp.toNat (D.ref (X.length+1+SC.length))=YS at *
     try simp -dsimp -implicitDefEqProofs [-ixD,-Int.toNat_natCast,↓A7,↓B1,↓B5,↓A9,↓D0,↓D6,↓E4,↓F4,↓E6,↓D9,↓E3,↓F6,↓F5,↓E9,↓F9,↓F3,↓F1,↓E5,↓F0,↓E7,↓F7,↓F8,↓B7,↓B6,↓C6,↓B8,↓C4,↓C5,↓A8,↓C3,↓B4,↓C7,↓A6,↓B9,↓C2,↓C9,↓C8,↓E8,mk,G0,G1,G5,G6,G7,G8,G9,H9,I6,I7,I8,I9,J0,J3,J4,J5,J6,J7,J8,J9,K0,K3,-mulD,mr,-extD,ex]
     exact fin
 · rintro env S' ⟨j1,j2,e1,e2,e4,e5⟩
   subst e4
   subst e5
   have r0:j2=[]:=by
     cases j2 with
     | nil=>rfl
     | cons _ _=>cases e2
   subst r0
   rw[List.append_nil] at e1
   subst e1
   clear e2
   have nl:(refsJ (X.length+1) js).length=(partJ js f).length:=refs_len f js _
   have fw:=h.fw
   obtain⟨N,hN⟩:∃ N,N=(partJ js f).length:=⟨_,rfl⟩
   have Yl:(X++C.lst ((refsJ (X.length+1) js).map D.ref)::spC f js).length=X.length+1+js.length:=by simp[spC]; omega
   obtain⟨Y,hY⟩:∃ Y,Y=X++C.lst ((refsJ (X.length+1) js).map D.ref)::spC f js:=⟨_,rfl⟩
   have gp:Y[X.length]? = some (.lst ((List.range N).map fun u=>D.ref ((refsJ (X.length+1) js).getD u 0))):=by
     rw[hY,g_part]
     have:(refsJ (X.length+1) js).map D.ref=(List.range N).map fun u=>D.ref ((refsJ (X.length+1) js).getD u 0):=by
       refine List.ext_getElem (by simp; omega) fun i h1 h2=>?_
       have:i<(refsJ (X.length+1) js).length:=by simpa using h1
       simp[List.getD_eq_getElem?_getD,List.getElem?_eq_getElem this]
     rw[this]
   have gs:∀ u,u<N→(refsJ (X.length+1) js).getD u 0<X.length+1+js.length∧Y[(refsJ (X.length+1) js).getD u 0]? = some (.lst ((adjP (partJ js f) u).map eSt)):=fun u hu=>by
     obtain⟨i,hi,e1,e2⟩:=refs_at f js (X.length+1) u (by omega)
     rw[e1]
     refine⟨by omega,?_⟩
     unfold adjP
     rw[e2,hY,List.getElem?_append_right (by omega),show X.length+1+i-X.length=i+1 by omega,List.getElem?_cons_succ]
     unfold spC
     rw[List.getElem?_map,List.getElem?_eq_getElem hi]
     rfl
   have ln0:lenD (.ref X.length) (Y++[C.dtt []]) = .ok (.int (N:Nat)) (Y++[C.dtt []]):=by
     have:(Y++[C.dtt []])[X.length]? = some (.lst ((List.range N).map fun u=>D.ref ((refsJ (X.length+1) js).getD u 0))):=by
       rw[List.getElem?_append_left (by rw[hY,Yl]; omega)]
       exact gp
     simp[this]
   have rN:∀ S,rng1 [.int (N:Nat)] S = .ok (rgL N 0,[]) S:=fun S=>by
     have:=rng1_ok (st:=S) (j:=(N:Int)) (by omega) (by omega)
     rw[Int.toNat_natCast] at this
     exact this
   have rNl:(rgL N 0).length≤16000000:=by simp[rgL]; omega
   have hYl:Y.length=X.length+1+js.length:=by rw[hY]; exact Yl
   have rt:∀ (d:D) (W:AS),d.pure=true→VL.ret 0 X d (Y++W) = .ok d X:=fun d W hp=>by
     rw[hY,List.append_assoc]
     exact ret_app _ hp
   have A1:=fun u=>part_sub (js:=js) (f:=f) u
   have A2:(allS js f).length<16000000:=by
     have:=allS_len h.sl
     have:js.length*100000≤100*100000:=Nat.mul_le_mul_right _ jl
     omega
   have A3:∀ u,(adjP (partJ js f) u).length≤16000000:=fun u=>by
     unfold adjP
     by_cases z:u<(partJ js f).length
     · obtain⟨i,hi,_,e⟩:=refs_at f js 0 u z
       rw[e]
       have:=h.sl _ (List.getElem_mem hi)
       omega
     · rw[List.getD_eq_getElem?_getD,List.getElem?_eq_none (by omega)]
       simp
   unfold found
   rw[← hY]
   clear hY Yl
   rw[← hN]
   generalize hadj:adjP (partJ js f)=adj at *
   try simp -dsimp -implicitDefEqProofs [-ixD,-Int.toNat_natCast,↓A7,↓B1,↓B5,↓A9,↓D0,↓D6,↓E4,↓F4,↓E6,↓D9,↓E3,↓F6,↓F5,↓E9,↓F9,↓F3,↓F1,↓E5,↓F0,↓E7,↓F7,↓F8,↓B7,↓B6,↓C6,↓B8,↓C4,↓C5,↓A8,↓C3,↓B4,↓C7,↓A6,↓B9,↓C2,↓C9,↓C8,↓E8,mk,G0,G1,G5,G6,G7,G8,G9,H9,I6,I7,I8,I9,J0,J3,J4,J5,J6,J7,J8,J9,K0,K3,-lenD,-rng1,ln0,rN,rNl]
   refine wp_comp0 (fun ds acc S'=>Hold (∃ (u:Nat) (Z:AS),u≤N∧ds=rgL N u∧acc=(allF adj 32 u).2.map D.bl∧S'=Y++(C.dtt (eHd (allF adj 32 u).1)::Z))) ?_ ?_ ?_
   · exact⟨0,[],by omega,rfl,rfl,rfl⟩
   · rintro d ds acc S' ⟨u,Z,ul,e2,e4,e5⟩
     subst e4
     subst e5
     obtain⟨hu,rfl,rfl⟩:=rgL_at e2
     have fx:∀ H S,fX (Y++(C.dtt []::(Z++[C.dtt []]))) Y.length (Y.length+1+Z.length) H S=Y++(C.dtt (eHd H)::(Z++[C.dtt (eSd S)])):=fun H S=>by
       unfold fX
       rw[s_part,s_spt]
     have fs:Fst (Y++(C.dtt []::(Z++[C.dtt []]))) X.length Y.length (Y.length+1+Z.length) N (fun u=>(refsJ (X.length+1) js).getD u 0) adj :=
       ⟨by rw[List.getElem?_append_left (by omega)]; exact gp,fun u hu=>by
         have:=gs u hu
         rw[List.getElem?_append_left (by omega)]
         exact this.2,by omega,fun u hu=>by have:=gs u hu; omega,by omega,by simp; omega⟩
     obtain⟨T,m⟩:=allF_mat (adj:=adj) (F:=32) u (by omega)
     have w:=allF_wf (A:=allS js f) (adj:=adj) A1 (F:=32) u
     have sc:allF adj 32 (u+1)=((fnd adj 32 (allF adj 32 u).1 [] u).2.1,(allF adj 32 u).2++[(fnd adj 32 (allF adj 32 u).1 [] u).1]):=rfl
     have bl:=allF_len (adj:=adj) (F:=32) u
     generalize allF adj 32 u=q at *
     obtain⟨H,bs⟩:=q
     dsimp only at m w sc bl ⊢
     have rg:∀ t v,look H t=some v→v<u:=fun t v h=>by
       have:=(m.rg v).mp ⟨t,h⟩
       have:=(List.getElem?_eq_some_iff.mp this).1
       omega
     have ff:=f_finds fs A1 A2 A3 32 H [] u (List.range u) ⟨fun t v _ h=>m.ed t v h,fun t t' v _ _ h h'=>m.ij t t' v h h',fun t _ h=>by have:=rg t u h; omega⟩ (by rw[List.length_range]; omega) (fun t w _ h=>List.mem_range.mpr (rg t w h)) (fun w hw=>by have:=List.mem_range.mp hw; omega) hu w
     rw[fx,fx] at ff
     have ap:(Y++C.dtt (eHd H)::Z)++[C.dtt []]=Y++(C.dtt (eHd H)::(Z++[C.dtt (eSd [])])):=by rw[show eSd []=[] from rfl]; simp
     have l9:(Y++C.dtt (eHd H)::Z).length=Y.length+1+Z.length:=by simp; omega
     have gi:(([some JD,some (.int f),some (.ref X.length),none,none,none,none,none,some (.ref Y.length),none,none]:En).set 9 (some (.int (u:Nat))))=[some JD,some (.int f),some (.ref X.length),none,none,none,none,none,some (.ref Y.length),some (.int (u:Nat)),none]:=rfl
     generalize hr:fnd adj 32 H [] u=r at *
     obtain⟨b,H2,S2⟩:=r
     dsimp only at ff sc
     have fin:Hold (∃ (u':Nat) (Z':AS),u'≤N∧rgL N (u+1)=rgL N u'∧bs.map D.bl++[D.bl b]=(allF adj 32 u').2.map D.bl∧Y++(C.dtt (eHd H2)::(Z++[C.dtt (eSd S2)]))=Y++(C.dtt (eHd (allF adj 32 u').1)::Z')):=⟨u+1,Z++[C.dtt (eSd S2)],by omega,rfl,by rw[sc]; simp,by rw[sc]⟩
     try simp -dsimp -implicitDefEqProofs [-ixD,-Int.toNat_natCast,↓A7,↓B1,↓B5,↓A9,↓D0,↓D6,↓E4,↓F4,↓E6,↓D9,↓E3,↓F6,↓F5,↓E9,↓F9,↓F3,↓F1,↓E5,↓F0,↓E7,↓F7,↓F8,↓B7,↓B6,↓C6,↓B8,↓C4,↓C5,↓A8,↓C3,↓B4,↓C7,↓A6,↓B9,↓C2,↓C9,↓C8,↓E8,mk,G0,G1,G5,G6,G7,G8,G9,H9,I6,I7,I8,I9,J0,J3,J4,J5,J6,J7,J8,J9,K0,K3,ap,l9,ff]
     exact fin
   · rintro acc S' ⟨u,Z,ul,e2,e4,e5⟩
     subst e4
     subst e5
     have ue:u=N:=by
       have:=congrArg List.length e2
       simp[rgL] at this
       omega
     subst ue
     have bl:=allF_len (adj:=adj) (F:=32) u
     have cb:=fun S=>cnt_bls (allF adj 32 u).2 (by omega) S
     have bll:((allF adj 32 u).2.map D.bl).length≤16000000:=by rw[List.length_map]; omega
     have rt2:=fun (n:Int) (W:AS)=>rt (.int n) W (by simp[D.pure])
     generalize (allF adj 32 u).2.map D.bl=BL at *
     try simp -dsimp -implicitDefEqProofs [-ixD,-Int.toNat_natCast,↓A7,↓B1,↓B5,↓A9,↓D0,↓D6,↓E4,↓F4,↓E6,↓D9,↓E3,↓F6,↓F5,↓E9,↓F9,↓F3,↓F1,↓E5,↓F0,↓E7,↓F7,↓F8,↓B7,↓B6,↓C6,↓B8,↓C4,↓C5,↓A8,↓C3,↓B4,↓C7,↓A6,↓B9,↓C2,↓C9,↓C8,↓E8,mk,G0,G1,G5,G6,G7,G8,G9,H9,I6,I7,I8,I9,J0,J3,J4,J5,J6,J7,J8,J9,K0,K3,bll,-cntGD,cb,rt2]
     exact⟨rfl,rfl⟩
end
end KT
namespace KT
open PySem VL G Kd W9 W26 WG TB
end KT
set_option exponentiation.threshold 2000
namespace KT
open PySem VL G Kd W9 W26 WG TB
def Tr (x:D):Prop:=Kd.Ok 49700 9 2 x
end KT
set_option exponentiation.threshold 2000
namespace KT
open PySem VL G Kd W9 W26 WG TB
end KT
namespace G
open PySem VL
end G
namespace KT
open PySem VL G Kd W9 W26 WG TB
theorem S_sum (P:Int × Int→Bool):∀ js:List Jb,S P (entJ js)=((js.filter fun j=>P (j.1,j.2.1)).map fun j=>j.2.2).sum
 | []=>rfl
 | j::js=>by
   have ih:=S_sum P js
   show (if P (j.1,j.2.1)=true then j.2.2 else 0)+S P (entJ js)=_
   rw[ih,List.filter_cons]
   by_cases z:P (j.1,j.2.1)=true
   · rw[if_pos z,if_pos z,List.map_cons,List.sum_cons]
   · rw[if_neg z,if_neg z]; omega
end KT
namespace KT
open PySem VL G Kd W9 W26 WG TB
theorem Few.of {k:Nat} {js:List Jb} {f:Int} (J:Jobs k js) (hk:k≤4) (f0:0≤f) (f9:f≤100):Few js f :=
 ⟨fun j hj=>by
   have o:=J.ok j hj
   have:=o.b
   have:=o.e
   have:=o.p
   omega,f0,f9,by have:=J.ln; omega,by
   have h:=part_len f js fun j hj=>(J.ok j hj).p.1
   have b:=totJ_bd J
   omega⟩
theorem found_all {k:Nat} {js:List Jb} {f:Int} (J:Jobs k js) (hk:k≤1000) (F:Few js f) (h:fullK js f=[]):(found js f:Int)=totJ js:=by
 have nn:∀ j∈js,0≤j.2.2:=fun j hj=>(J.ok j hj).p.1
 obtain⟨T,m⟩:=allF_mat (adj:=adjP (partJ js f)) (F:=32) (partJ js f).length F.fw
 have H:=rows_right J hk F.f0 h
 have a:=row_le nn m ⟨fun r hr=>(H.ok r hr).1,fun u=>(H.mi u).2,fun i=>by rw[H.jo i]; exact Int.le_refl _⟩ F.f0
 have b:=trues_le (allF (adjP (partJ js f)) 32 (partJ js f).length).2
 have c:=part_len f js nn
 have d:=tot_rws H
 have e:=m.ln
 unfold found
 omega
theorem found_few {k:Nat} {js:List Jb} {f:Int} (J:Jobs k js) (hk:k≤1000) (F:Few js f) {p:Int × Int} (h:p∈fullK js f):(found js f:Int)<totJ js:=by
 have nn:∀ j∈js,0≤j.2.2:=fun j hj=>(J.ok j hj).p.1
 obtain⟨T,m⟩:=allF_mat (adj:=adjP (partJ js f)) (F:=32) (partJ js f).length F.fw
 obtain⟨h1,h2⟩:=List.mem_filter.mp h
 have h2:=of_decide_eq_true h2
 have be:=(mem_strK.mp h1).2.2
 have a:=hall_js nn m (fun j=>decide (p.1≤j.1∧j.2.1≤p.2)) (gridS f p.1 p.2) fun j hj hP=>by
   have hP:=of_decide_eq_true hP
   exact grid_all hP.1 hP.2
 rw[grid_len F.f0 be] at a
 unfold overI at h2
 rw[S_sum] at h2
 dsimp only at h2
 unfold found
 omega
theorem kit_0 {js:List Jb} {f:Int} (S:AS):ixD (kitD js f) (.int 0) S = .ok (.str (Str.ofString (if fullK js f=[] then "row" else "full"))) S:=by
 unfold kitD
 cases fullK js f with
 | nil=>simp[L2.atI,L2.ixN]
 | cons p r=>simp[L2.atI,L2.ixN]
theorem law_wp59 (ns:List Int) (hl:ns.length≤63):(F_law_637a [.fzl (ns.map D.int)] []).wp (fun d _=>d = .bl true) noX:=by
 have e0:=f_coil ns hl
 unfold F_law_637a
 rw[E8]; simp only[List.map_cons,List.map_nil,List.length_cons,List.length_nil,Nat.reduceAdd,Nat.reduceSub,List.replicate_succ,List.replicate_zero,List.cons_append,List.nil_append]
 unfold B_law_637a
 try simp -dsimp -implicitDefEqProofs [-ixD,-Int.toNat_natCast,↓A7,↓B1,↓B5,↓A9,↓D0,↓D6,↓E4,↓F4,↓E6,↓D9,↓E3,↓F6,↓F5,↓E9,↓F9,↓F3,↓F1,↓E5,↓F0,↓E7,↓F7,↓F8,↓B7,↓B6,↓C6,↓B8,↓C4,↓C5,↓A8,↓C3,↓B4,↓C7,↓A6,↓B9,↓C2,↓C9,↓C8,↓E8,mk,G0,G1,G5,G6,G7,G8,G9,H9,I6,I7,I8,I9,J0,J3,J4,J5,J6,J7,J8,J9,K0,K3,e0]
 have q:Cq ns 0 [] [coC ns 0 0 0]:=⟨rfl,0,0,0,rfl,by omega,by omega,by simp⟩
 refine wp_jobs0 (k:=4) q (by omega) (by omega) ?_; intro js S J ln q
 try simp -dsimp -implicitDefEqProofs [-ixD,-Int.toNat_natCast,↓A7,↓B1,↓B5,↓A9,↓D0,↓D6,↓E4,↓F4,↓E6,↓D9,↓E3,↓F6,↓F5,↓E9,↓F9,↓F3,↓F1,↓E5,↓F0,↓E7,↓F7,↓F8,↓B7,↓B6,↓C6,↓B8,↓C4,↓C5,↓A8,↓C3,↓B4,↓C7,↓A6,↓B9,↓C2,↓C9,↓C8,↓E8,mk,G0,G1,G5,G6,G7,G8,G9,H9,I6,I7,I8,I9,J0,J3,J4,J5,J6,J7,J8,J9,K0,K3]
 refine wp_pull0 q (by omega) (by omega) (by omega) ?_; intro r S z y ln q
 have jl:=J.ln
 have it:∀ S,itD (.tup (js.map eJb)) S = .ok (js.map eJb,[]) S:=fun S=>rfl
 have jl2:js.length≤16000000:=by omega
 have cm:∀ a0 a1 a2 a3 a4 a5 a6 S,compL (kName 7) tYesV (v2 ixD (vVar 7) (vC (.int 2))) [a0,a1,a2,a3,a4,a5,a6,none] [] (js.map eJb) S = .ok ((js.map fun j=>j.2.2).map D.int) S:=fun a0 a1 a2 a3 a4 a5 a6 S=>by
   rw[List.map_map]
   exact comp_all eJb _ gd_nilOk js fun j _=>⟨_,rfl,rfl,by simp[eJb,L2.atI,L2.ixN]⟩
 have sl:∀ S:AS,sumD (.lst ((js.map fun j=>j.2.2).map D.int)) S = .ok (.int (totJ js)) S:=fun S=>sum_lst _ S
 have cl:((js.map fun j=>j.2.2).map D.int).length≤16000000:=by rw[List.length_map,List.length_map]; exact jl2
 have ai:∀ (a b:Int) (S:AS),addD false (.int a) (.int b) S = .ok (.int (a+b)) S:=fun _ _ _=>rfl
 have fm:∀ g:Int,1≤g→g≤4 → ∀ S,F__law_matched [.tup (js.map eJb),.int g] S = .ok (.int (found js g:Nat)) S:=fun g h1 h2 S=>f_matched (Few.of J (by omega) (by omega) (by omega)) it
 have fk:∀ g:Int,1≤g→g≤4 → ∀ S,F_kitchen [.tup (js.map eJb),.int g] S = .ok (kitD js g) S:=fun g h1 h2 S=>f_kitchen J (by omega) (by omega) (by omega) S
 have fa:∀ g:Int,1≤g→g≤4→fullK js g=[]→(found js g:Int)=totJ js:=fun g h1 h2 h=>found_all J (by omega) (Few.of J (by omega) (by omega) (by omega)) h
 have fw:∀ g:Int,1≤g→g≤4→fullK js g≠[]→¬ (found js g:Int)=totJ js:=fun g h1 h2 h=>by
   cases e:fullK js g with
   | nil=>exact absurd e h
   | cons p t =>
     have:=found_few J (by omega) (Few.of J (by omega) (by omega) (by omega)) (f:=g) (p:=p) (by rw[e]; exact List.mem_cons_self)
     omega
 have un:(js.map eJb).length=js.length:=List.length_map _
 generalize hJ:D.tup (js.map eJb)=JD at *
 try simp -dsimp -implicitDefEqProofs [-ixD,-Int.toNat_natCast,↓A7,↓B1,↓B5,↓A9,↓D0,↓D6,↓E4,↓F4,↓E6,↓D9,↓E3,↓F6,↓F5,↓E9,↓F9,↓F3,↓F1,↓E5,↓F0,↓E7,↓F7,↓F8,↓B7,↓B6,↓C6,↓B8,↓C4,↓C5,↓A8,↓C3,↓B4,↓C7,↓A6,↓B9,↓C2,↓C9,↓C8,↓E8,mk,G0,G1,G5,G6,G7,G8,G9,H9,I6,I7,I8,I9,J0,J3,J4,J5,J6,J7,J8,J9,K0,K3,-itD,it,jl2,un,-addD,ai]
 refine wp_of (cm _ _ _ _ _ _ _ _) ?_
 generalize (js.map fun j=>j.2.2).map D.int=CL at *
 try simp -dsimp -implicitDefEqProofs [-ixD,-Int.toNat_natCast,↓A7,↓B1,↓B5,↓A9,↓D0,↓D6,↓E4,↓F4,↓E6,↓D9,↓E3,↓F6,↓F5,↓E9,↓F9,↓F3,↓F1,↓E5,↓F0,↓E7,↓F7,↓F8,↓B7,↓B6,↓C6,↓B8,↓C4,↓C5,↓A8,↓C3,↓B4,↓C7,↓A6,↓B9,↓C2,↓C9,↓C8,↓E8,mk,G0,G1,G5,G6,G7,G8,G9,H9,I6,I7,I8,I9,J0,J3,J4,J5,J6,J7,J8,J9,K0,K3,cl,-sumD,sl,-addD,ai]
 refine wp_for0 (fun ds env S'=>Hold ((∀ d∈ds,∃ g:Int,d = .int g∧1≤g∧g≤4)∧env=[some (.fzl (ns.map D.int)),some (.ref 0),some JD,some (.int (1+r)),some (.int (totJ js)),none,none,none])) ?_ ?_ ?_
 · refine⟨fun d hd=>?_,rfl⟩
   simp only[List.mem_cons,List.not_mem_nil,or_false] at hd
   rcases hd with rfl | rfl | rfl
   · exact⟨_,rfl,by omega,by omega⟩
   · exact⟨_,rfl,by omega,by omega⟩
   · exact⟨_,rfl,by omega,by omega⟩
 · rintro d ds env S' ⟨h1,e4⟩
   subst e4
   obtain⟨g,rfl,g1,g2⟩:=h1 d List.mem_cons_self
   have h1:=fun x hx=>h1 x (List.mem_cons_of_mem _ hx)
   have m1:=fm g g1 g2
   have k1:=fk g g1 g2
   have k0:=fun S=>kit_0 (js:=js) (f:=g) S
   have ei:∀ (a b:Int) S,eqD false (.int a) (.int b) S = .ok (.bl (decide (a=b))) S:=fun a b S=>by simp[eqvD,D.py,PyData.eqv]
   have es:=fun (X:Str) S=>es_eq true X S
   generalize kitD js g=KD at *
   by_cases z:fullK js g=[]
   · have fe:=fa g g1 g2 z
     rw[if_pos z] at k0
     try simp -dsimp -implicitDefEqProofs [-ixD,-Int.toNat_natCast,↓A7,↓B1,↓B5,↓A9,↓D0,↓D6,↓E4,↓F4,↓E6,↓D9,↓E3,↓F6,↓F5,↓E9,↓F9,↓F3,↓F1,↓E5,↓F0,↓E7,↓F7,↓F8,↓B7,↓B6,↓C6,↓B8,↓C4,↓C5,↓A8,↓C3,↓B4,↓C7,↓A6,↓B9,↓C2,↓C9,↓C8,↓E8,mk,G0,G1,G5,G6,G7,G8,G9,H9,I6,I7,I8,I9,J0,J3,J4,J5,J6,J7,J8,J9,K0,K3,m1,k1,-ixD,k0,-eqD,ei,fe,es]
     exact⟨h1,rfl⟩
   · have fe:=fw g g1 g2 z
     rw[if_neg z] at k0
     try simp -dsimp -implicitDefEqProofs [-ixD,-Int.toNat_natCast,↓A7,↓B1,↓B5,↓A9,↓D0,↓D6,↓E4,↓F4,↓E6,↓D9,↓E3,↓F6,↓F5,↓E9,↓F9,↓F3,↓F1,↓E5,↓F0,↓E7,↓F7,↓F8,↓B7,↓B6,↓C6,↓B8,↓C4,↓C5,↓A8,↓C3,↓B4,↓C7,↓A6,↓B9,↓C2,↓C9,↓C8,↓E8,mk,G0,G1,G5,G6,G7,G8,G9,H9,I6,I7,I8,I9,J0,J3,J4,J5,J6,J7,J8,J9,K0,K3,m1,k1,-ixD,k0,-eqD,ei,fe,es]
     exact⟨h1,rfl⟩
 · rintro env S' ⟨_,e⟩
   subst e
   try simp -dsimp -implicitDefEqProofs [-ixD,-Int.toNat_natCast,↓A7,↓B1,↓B5,↓A9,↓D0,↓D6,↓E4,↓F4,↓E6,↓D9,↓E3,↓F6,↓F5,↓E9,↓F9,↓F3,↓F1,↓E5,↓F0,↓E7,↓F7,↓F8,↓B7,↓B6,↓C6,↓B8,↓C4,↓C5,↓A8,↓C3,↓B4,↓C7,↓A6,↓B9,↓C2,↓C9,↓C8,↓E8,mk,G0,G1,G5,G6,G7,G8,G9,H9,I6,I7,I8,I9,J0,J3,J4,J5,J6,J7,J8,J9,K0,K3]
   exact ret_blK
end KT
namespace V59
open PySem VL G KT
theorem law_true (ns:List Int) (h:ns.length≤63):∃ st,F_law_637a [.fzl (ns.map D.int)] [] = .ok (.bl true) st:=by
 obtain⟨d,st,e,rfl⟩:=(law_wp59 ns h).eq
 exact⟨st,e⟩
end V59
namespace V59
open PySem PySem.Spec PyProof.Rows L2 TB VL G
def topS (i:Nat):Stmt:=PySem.Challenge.pw_tablebills_k59_whole_row_or_full.main.body.getD i (.Pass ⟨0,0,0,0⟩)
abbrev s_within:Stmt:=topS 1
abbrev s_excess:Stmt:=topS 2
abbrev s_stretches:Stmt:=topS 3
abbrev s_full_stretches:Stmt:=topS 4
abbrev s_next_minute:Stmt:=topS 8
abbrev s_waiting:Stmt:=topS 9
abbrev s_laid:Stmt:=topS 7
abbrev s_kitchen:Stmt:=topS 6
abbrev s__law_coil:Stmt:=topS 11
abbrev s__law_pull:Stmt:=topS 12
abbrev s__law_jobs:Stmt:=topS 13
abbrev s__law_finds:Stmt:=topS 14
abbrev s__law_matched:Stmt:=topS 15
abbrev s_law:Stmt:=topS 16
theorem sc_within:FnScope ["jobs","begin","end","starts","ends","pieces"] ["jobs","begin","end"] (defScope s_within):=⟨rfl,rfl,rfl,by decide +kernel,rfl,by decide +kernel,by decide +kernel⟩
theorem sc_excess:FnScope ["jobs","fires","begin","end"] ["jobs","fires","begin","end"] (defScope s_excess):=⟨rfl,rfl,rfl,by decide +kernel,rfl,by decide +kernel,by decide +kernel⟩
theorem sc_stretches:FnScope ["jobs","begins","ends","begin","end","pieces"] ["jobs"] (defScope s_stretches):=⟨rfl,rfl,rfl,by decide +kernel,rfl,by decide +kernel,by decide +kernel⟩
theorem sc_full_stretches:FnScope ["jobs","fires","begin","end"] ["jobs","fires"] (defScope s_full_stretches):=⟨rfl,rfl,rfl,by decide +kernel,rfl,by decide +kernel,by decide +kernel⟩
theorem sc_next_minute:FnScope ["jobs","left","least","minutes","still","begin","end","pieces"] ["jobs","left","least"] (defScope s_next_minute):=⟨rfl,rfl,rfl,by decide +kernel,rfl,by decide +kernel,by decide +kernel⟩
theorem sc_waiting:FnScope ["jobs","left","minute","ends","job","begin","end","pieces"] ["jobs","left","minute"] (defScope s_waiting):=⟨rfl,rfl,rfl,by decide +kernel,rfl,by decide +kernel,by decide +kernel⟩
theorem sc_laid:FnScope ["jobs","fires","left","rows","minute","room","turn","job","pieces","begin","end"] ["jobs","fires"] (defScope s_laid):=⟨rfl,rfl,rfl,by decide +kernel,rfl,by decide +kernel,by decide +kernel⟩
theorem sc_kitchen:FnScope ["jobs","fires","full"] ["jobs","fires"] (defScope s_kitchen):=⟨rfl,rfl,rfl,by decide +kernel,rfl,by decide +kernel,by decide +kernel⟩
theorem sc__law_coil:FnScope ["_law_script"] ["_law_script"] (defScope s__law_coil):=⟨rfl,rfl,rfl,by decide +kernel,rfl,by decide +kernel,by decide +kernel⟩
theorem sc__law_pull:FnScope ["_law_coil_here","_law_many","_law_turn","_law_found","_law_at","_law_cell","_law_mixed"] ["_law_coil_here","_law_many"] (defScope s__law_pull):=⟨rfl,rfl,rfl,by decide +kernel,rfl,by decide +kernel,by decide +kernel⟩
theorem sc__law_jobs:FnScope ["_law_coil_here","_law_many_now","_law_base","_law_found","_law_k","_law_start","_law_stop"] ["_law_coil_here","_law_many_now"] (defScope s__law_jobs):=⟨rfl,rfl,rfl,by decide +kernel,rfl,by decide +kernel,by decide +kernel⟩
theorem sc__law_finds:FnScope ["_law_part","_law_held","_law_unit","_law_seen","_law_spot"] ["_law_part","_law_held","_law_unit","_law_seen"] (defScope s__law_finds):=⟨rfl,rfl,rfl,by decide +kernel,rfl,by decide +kernel,by decide +kernel⟩
theorem sc__law_matched:FnScope ["_law_tasks","_law_heat","_law_part","_law_start","_law_stop","_law_pieces","_law_spots","_law_minute","_law_held","_law_unit","_law_place"] ["_law_tasks","_law_heat"] (defScope s__law_matched):=⟨rfl,rfl,rfl,by decide +kernel,rfl,by decide +kernel,by decide +kernel⟩
theorem sc_law:FnScope ["_law_script","_law_coil_here","_law_tasks","_law_heat","_law_pieces","_law_many","_law_due","_law_job"] ["_law_script"] (defScope s_law):=⟨rfl,rfl,rfl,by decide +kernel,rfl,by decide +kernel,by decide +kernel⟩
section
variable {P:Program} {w:World} {K:PySem.W.Frag} {mg:Str→Option Value} {base:Heap}
theorem ok_within {f_within:Addr} {fd_within:FuncData} (F_:Fun K "within" "within" s_within f_within fd_within) (m_sum:mg "sum" = none):FnG P w K mg base (L2.CX P w) 2 f_within fd_within ["jobs","begin","end"] (spV K ⟨mg,w⟩ 3 F_within):=by
 refine gokV (k:=1) 0 F_ sc_within fun cdv A gd outer s H E hr=>?_
 have hu:=hu65 hr
 exact (vss_one (vs_ret (ve_callB (ob_sum rfl) (by rfl) m_sum (by decide +kernel) (va_cons (ve_lc false (own:=[("starts",3),("ends",4),("pieces",5)]) (by decide) rfl sc_within.nd (vi_seq (ve_var 0)) (blkOk_by (own:=[("starts",3),("ends",4),("pieces",5)]) (N:=["jobs","begin","end","starts","ends","pieces"]) (sc:=defScope s_within) (by decide +kernel)) (fun _ _ _ _ _=>(vg_tup rfl (vgs_cons (vg_name (i:=3) sc_within.nd rfl (.inl rfl)) (vgs_cons (vg_name (i:=4) sc_within.nd rfl (.inl rfl)) (vgs_cons (vg_name (i:=5) sc_within.nd rfl (.inl rfl)) vgs_nil))))) (fun _ _ _ _ _=>(vts_one (PW.pt (vw_and (OkC.vt (oc_le hu) (ve_var 1) (ve_var 3) (nomark _)) (vw_and1 (OkC.vt (oc_le hu) (ve_var 4) (ve_var 2) (nomark _))))))) (fun _ _ _ _ _=>(ve_var 5))) va_nil))))
theorem ok_excess {f_excess:Addr} {fd_excess:FuncData} (F_:Fun K "excess" "excess" s_excess f_excess fd_excess) {f_within:Addr} {fd_within:FuncData} (G_within:FnG P w K mg base (L2.CX P w) 2 f_within fd_within ["jobs","begin","end"] (spV K ⟨mg,w⟩ 3 F_within)) (k_within:PySem.W.keepIn K (.ref f_within)=true) (g_within:mg "within" = some (.ref f_within)) (b_within_3:BindV K fd_within ["jobs","begin","end"] 3 [] [] [.pos 0,.pos 1,.pos 2]):FnG P w K mg base (L2.CX P w) 3 f_excess fd_excess ["jobs","fires","begin","end"] (spV K ⟨mg,w⟩ 4 F_excess):=by
 refine gokV (k:=2) 0 F_ sc_excess fun cdv A gd outer s H E hr=>?_
 have hu:=hu65 hr
 exact (vss_one (vs_ret (ve_sub (ve_callP (ds:=[]) (dvs:=[]) (ss:=[.pos 0,.pos 1,.pos 2]) G_within gd (hr.mono (by decide)) (by rfl) g_within k_within b_within_3 (by intro us ws h1 h2; match us,h1,ws,h2 with | [_,_,_],_,[],_=>rfl) (fun _ _=>.nil) (passes_call (takes_of rfl rfl rfl rfl) (fun _ _ _ _ h=>h)) (va_cons (ve_var 0) (va_cons (ve_var 2) (va_cons (ve_var 3) va_nil)))) (ve_mul false (ve_var 1) (ve_sub (ve_var 3) (ve_var 2))))))
theorem ok_stretches {f_stretches:Addr} {fd_stretches:FuncData} (F_:Fun K "stretches" "stretches" s_stretches f_stretches fd_stretches) (m_set:mg "set" = none) (m_sorted:mg "sorted" = none):FnG P w K mg base (L2.CX P w) 2 f_stretches fd_stretches ["jobs"] (spV K ⟨mg,w⟩ 1 F_stretches):=by
 refine gokV (k:=1) 0 F_ sc_stretches fun cdv A gd outer s H E hr=>?_
 have hu:=hu65 hr
 exact (vss_cons (vs_set (i:=1) sc_stretches.nd rfl (.inl rfl) (ve_sortedSet false rfl (by rfl) m_sorted (by rfl) m_set (ve_lc false (own:=[("begin", 3), ("end", 4), ("pieces", 5)]) (by decide) rfl sc_stretches.nd (vi_seq (ve_var 0)) (blkOk_by (own:=[("begin", 3), ("end", 4), ("pieces", 5)]) (N:=["jobs", "begins", "ends", "begin", "end", "pieces"]) (sc:=defScope s_stretches) (by decide +kernel)) (fun _ _ _ _ _ => (vg_tup rfl (vgs_cons (vg_name (i:=3) sc_stretches.nd rfl (.inl rfl)) (vgs_cons (vg_name (i:=4) sc_stretches.nd rfl (.inl rfl)) (vgs_cons (vg_name (i:=5) sc_stretches.nd rfl (.inl rfl)) vgs_nil))))) (fun _ _ _ _ _ => vts_nil) (fun _ _ _ _ _ => (ve_var 3)))))
     (vss_cons (vs_set (i:=2) sc_stretches.nd rfl (.inr rfl) (ve_sortedSet false rfl (by rfl) m_sorted (by rfl) m_set (ve_lc false (own:=[("begin",3),("end",4),("pieces",5)]) (by decide) rfl sc_stretches.nd (vi_seq (ve_var 0)) (blkOk_by (own:=[("begin",3),("end",4),("pieces",5)]) (N:=["jobs","begins","ends","begin","end","pieces"]) (sc:=defScope s_stretches) (by decide +kernel)) (fun _ _ _ _ _=>(vg_tup rfl (vgs_cons (vg_name (i:=3) sc_stretches.nd rfl (.inl rfl)) (vgs_cons (vg_name (i:=4) sc_stretches.nd rfl (.inl rfl)) (vgs_cons (vg_name (i:=5) sc_stretches.nd rfl (.inl rfl)) vgs_nil))))) (fun _ _ _ _ _=>vts_nil) (fun _ _ _ _ _=>(ve_var 4)))))
     (vss_one (vs_ret (ve_lc2 false (own:=[("begin",3),("end",4)]) (vs1:=[4]) (by decide) (by decide) (by decide) rfl sc_stretches.nd (vi_seq (ve_var 1)) (blkOk_by (own:=[("begin",3),("end",4)]) (N:=["jobs","begins","ends","begin","end","pieces"]) (sc:=defScope s_stretches) (by decide +kernel)) (fun _ _ _ _ _=>(vg_name (i:=3) sc_stretches.nd rfl (.inl rfl))) (fun _ _ _ _ _=>vts_nil) (fun _ _ _ _ _=>(vi_seq (ve_var 2))) (fun _ _ _ _ _=>(vg_name (i:=4) sc_stretches.nd rfl (.inl rfl))) (fun _ _ _ _ _=>(vts_one (OkC.vt (oc_le hu) (ve_var 3) (ve_var 4) (nomark _)))) (fun _ _ _ _ _=>(ve_tup (va_cons (ve_var 3) (va_cons (ve_var 4) va_nil)))))))))
theorem ok_full_stretches {f_full_stretches:Addr} {fd_full_stretches:FuncData} (F_:Fun K "full_stretches" "full_stretches" s_full_stretches f_full_stretches fd_full_stretches) {f_excess:Addr} {fd_excess:FuncData} (G_excess:FnG P w K mg base (L2.CX P w) 3 f_excess fd_excess ["jobs","fires","begin","end"] (spV K ⟨mg,w⟩ 4 F_excess)) (k_excess:PySem.W.keepIn K (.ref f_excess)=true) (g_excess:mg "excess" = some (.ref f_excess)) {f_stretches:Addr} {fd_stretches:FuncData} (G_stretches:FnG P w K mg base (L2.CX P w) 2 f_stretches fd_stretches ["jobs"] (spV K ⟨mg,w⟩ 1 F_stretches)) (k_stretches:PySem.W.keepIn K (.ref f_stretches)=true) (g_stretches:mg "stretches" = some (.ref f_stretches)) (b_excess_4:BindV K fd_excess ["jobs","fires","begin","end"] 4 [] [] [.pos 0,.pos 1,.pos 2,.pos 3]) (b_stretches_1:BindV K fd_stretches ["jobs"] 1 [] [] [.pos 0]):FnG P w K mg base (L2.CX P w) 4 f_full_stretches fd_full_stretches ["jobs","fires"] (spV K ⟨mg,w⟩ 2 F_full_stretches):=by
 refine gokV (k:=3) 0 F_ sc_full_stretches fun cdv A gd outer s H E hr=>?_
 have hu:=hu65 hr
 exact (vss_one (vs_ret (ve_lc false (own:=[("begin",2),("end",3)]) (by decide) rfl sc_full_stretches.nd (vi_seq (ve_callP (ds:=[]) (dvs:=[]) (ss:=[.pos 0]) G_stretches gd (hr.mono (by decide)) (by rfl) g_stretches k_stretches b_stretches_1 (by intro us ws h1 h2; match us,h1,ws,h2 with | [_],_,[],_=>rfl) (fun _ _=>.nil) (passes_call (takes_of rfl rfl rfl rfl) (fun _ _ _ _ h=>h)) (va_cons (ve_var 0) va_nil))) (blkOk_by (own:=[("begin",2),("end",3)]) (N:=["jobs","fires","begin","end"]) (sc:=defScope s_full_stretches) (by decide +kernel)) (fun _ _ _ _ _=>(vg_tup rfl (vgs_cons (vg_name (i:=2) sc_full_stretches.nd rfl (.inl rfl)) (vgs_cons (vg_name (i:=3) sc_full_stretches.nd rfl (.inl rfl)) vgs_nil)))) (fun _ _ _ _ _=>(vts_one (OkC.vt oc_gt (ve_callP (ds:=[]) (dvs:=[]) (ss:=[.pos 0,.pos 1,.pos 2,.pos 3]) G_excess gd (hr.mono (by decide)) (by rfl) g_excess k_excess b_excess_4 (by intro us ws h1 h2; match us,h1,ws,h2 with | [_,_,_,_],_,[],_=>rfl) (fun _ _=>.nil) passL (va_cons (ve_var 0) (va_cons (ve_var 1) (va_cons (ve_var 2) (va_cons (ve_var 3) va_nil))))) ve_int (nomark _)))) (fun _ _ _ _ _=>(ve_tup (va_cons (ve_var 2) (va_cons (ve_var 3) va_nil)))))))
theorem ok_next_minute {f_next_minute:Addr} {fd_next_minute:FuncData} (F_:Fun K "next_minute" "next_minute" s_next_minute f_next_minute fd_next_minute) (m_max:mg "max" = none) (m_min:mg "min" = none) (m_zip:mg "zip" = none):FnG P w K mg base (L2.CX P w) 2 f_next_minute fd_next_minute ["jobs","left","least"] (spV K ⟨mg,w⟩ 3 F_next_minute):=by
 refine gokV (k:=1) 0 F_ sc_next_minute fun cdv A gd outer s H E hr=>?_
 have hu:=hu65 hr
 exact (vss_cons (vs_setLc false (i:=3) (own:=[("still", 4), ("begin", 5), ("end", 6), ("pieces", 7)]) (by decide) rfl sc_next_minute.nd rfl rfl (sw_true rfl rfl rfl (by decide +kernel)) (vi_zip (by rfl) m_zip (va_cons (ve_var 0) (va_cons (ve_var 1) va_nil))) (blkOk_by (own:=[("still", 4), ("begin", 5), ("end", 6), ("pieces", 7)]) (N:=["jobs", "left", "least", "minutes", "still", "begin", "end", "pieces"]) (sc:=defScope s_next_minute) (by decide +kernel)) (fun _ _ _ _ _ => (vg_tup rfl (vgs_cons (vg_tup rfl (vgs_cons (vg_name (i:=5) sc_next_minute.nd rfl (.inl rfl)) (vgs_cons (vg_name (i:=6) sc_next_minute.nd rfl (.inl rfl)) (vgs_cons (vg_name (i:=7) sc_next_minute.nd rfl (.inl rfl)) vgs_nil)))) (vgs_cons (vg_name (i:=4) sc_next_minute.nd rfl (.inl rfl)) vgs_nil)))) (fun _ _ _ _ _ => (vts_one (PW.pt (vw_and (OkC.vt oc_gt (ve_var 4) ve_int (nomark _)) (vw_and1 (OkC.vt (oc_lt hu) (ve_callB (ob_max rfl) (by rfl) m_max (by decide +kernel) (va_cons (ve_var 5) (va_cons (ve_var 2) va_nil))) (ve_var 6) (nomark _))))))) (fun _ _ _ _ _ => (ve_callB (ob_max rfl) (by rfl) m_max (by decide +kernel) (va_cons (ve_var 5) (va_cons (ve_var 2) va_nil)))))
     (vss_one (vs_ret (ve_minDf rfl (by rfl) m_min (va_cons (ve_var 3) va_nil) ve_non))))
theorem ok_waiting {f_waiting:Addr} {fd_waiting:FuncData} (F_:Fun K "waiting" "waiting" s_waiting f_waiting fd_waiting) (m_enumerate:mg "enumerate" = none) (m_sorted:mg "sorted" = none):FnG P w K mg base (L2.CX P w) 2 f_waiting fd_waiting ["jobs","left","minute"] (spV K ⟨mg,w⟩ 3 F_waiting):=by
 refine gokV (k:=1) 0 F_ sc_waiting fun cdv A gd outer s H E hr=>?_
 have hu:=hu65 hr
 exact (vss_cons (vs_setLc false (i:=3) (own:=[("job", 4), ("begin", 5), ("end", 6), ("pieces", 7)]) (by decide) rfl sc_waiting.nd rfl rfl (sw_true rfl rfl rfl (by decide +kernel)) (vi_enum (by rfl) m_enumerate (va_cons (ve_var 0) va_nil)) (blkOk_by (own:=[("job", 4), ("begin", 5), ("end", 6), ("pieces", 7)]) (N:=["jobs", "left", "minute", "ends", "job", "begin", "end", "pieces"]) (sc:=defScope s_waiting) (by decide +kernel)) (fun _ _ _ _ _ => (vg_tup rfl (vgs_cons (vg_name (i:=4) sc_waiting.nd rfl (.inl rfl)) (vgs_cons (vg_tup rfl (vgs_cons (vg_name (i:=5) sc_waiting.nd rfl (.inl rfl)) (vgs_cons (vg_name (i:=6) sc_waiting.nd rfl (.inl rfl)) (vgs_cons (vg_name (i:=7) sc_waiting.nd rfl (.inl rfl)) vgs_nil)))) vgs_nil)))) (fun _ _ _ _ _ => (vts_one (PW.pt (vw_and (OkC.vt oc_gt (ve_sub_ix hu (ve_var 1) (ve_var 4) (fun _ _ => rfl)) ve_int (nomark _)) (vw_and1 (vt_chain (oc_le hu) (oc_lt hu) (ve_var 5) (ve_var 2) (ve_var 6))))))) (fun _ _ _ _ _ => (ve_tup (va_cons (ve_var 6) (va_cons (ve_var 4) va_nil)))))
     (vss_one (vs_ret (ve_lc false (own:=[("end",6),("job",4)]) (by decide) rfl sc_waiting.nd (vi_seq (ve_callB (ob_sortedA hu false) (by rfl) m_sorted (by decide +kernel) (va_cons (ve_var 3) va_nil))) (blkOk_by (own:=[("end",6),("job",4)]) (N:=["jobs","left","minute","ends","job","begin","end","pieces"]) (sc:=defScope s_waiting) (by decide +kernel)) (fun _ _ _ _ _=>(vg_tup rfl (vgs_cons (vg_name (i:=6) sc_waiting.nd rfl (.inl rfl)) (vgs_cons (vg_name (i:=4) sc_waiting.nd rfl (.inl rfl)) vgs_nil)))) (fun _ _ _ _ _=>vts_nil) (fun _ _ _ _ _=>(ve_var 4))))))
theorem ok_laid {f_laid:Addr} {fd_laid:FuncData} (F_:Fun K "laid" "laid" s_laid f_laid fd_laid) {f_next_minute:Addr} {fd_next_minute:FuncData} (G_next_minute:FnG P w K mg base (L2.CX P w) 2 f_next_minute fd_next_minute ["jobs","left","least"] (spV K ⟨mg,w⟩ 3 F_next_minute)) (k_next_minute:PySem.W.keepIn K (.ref f_next_minute)=true) (g_next_minute:mg "next_minute" = some (.ref f_next_minute)) {f_waiting:Addr} {fd_waiting:FuncData} (G_waiting:FnG P w K mg base (L2.CX P w) 2 f_waiting fd_waiting ["jobs","left","minute"] (spV K ⟨mg,w⟩ 3 F_waiting)) (k_waiting:PySem.W.keepIn K (.ref f_waiting)=true) (g_waiting:mg "waiting" = some (.ref f_waiting)) (b_next_minute_3:BindV K fd_next_minute ["jobs","left","least"] 3 [] [] [.pos 0,.pos 1,.pos 2]) (b_waiting_3:BindV K fd_waiting ["jobs","left","minute"] 3 [] [] [.pos 0,.pos 1,.pos 2]) (m_min:mg "min" = none) (m_sorted:mg "sorted" = none) (m_tuple:mg "tuple" = none):FnG P w K mg base (L2.CX P w) 3 f_laid fd_laid ["jobs","fires"] (spV K ⟨mg,w⟩ 2 F_laid):=by
 refine gokV (k:=2) 0 F_ sc_laid fun cdv A gd outer s H E hr=>?_
 have hu:=hu65 hr
 exact (vss_cons (vs_setLc true (i:=2) (own:=[("begin", 9), ("end", 10), ("pieces", 8)]) (by decide) rfl sc_laid.nd rfl rfl (sw_true rfl rfl rfl (by decide +kernel)) (vi_seq (ve_var 0)) (blkOk_by (own:=[("begin", 9), ("end", 10), ("pieces", 8)]) (N:=["jobs", "fires", "left", "rows", "minute", "room", "turn", "job", "pieces", "begin", "end"]) (sc:=defScope s_laid) (by decide +kernel)) (fun _ _ _ _ _ => (vg_tup rfl (vgs_cons (vg_name (i:=9) sc_laid.nd rfl (.inl rfl)) (vgs_cons (vg_name (i:=10) sc_laid.nd rfl (.inl rfl)) (vgs_cons (vg_name (i:=8) sc_laid.nd rfl (.inl rfl)) vgs_nil))))) (fun _ _ _ _ _ => vts_nil) (fun _ _ _ _ _ => (ve_var 8)))
     (vss_cons (vs_set (i:=3) sc_laid.nd rfl (.inl rfl) (ve_lst true va_nil))
     (vss_cons (vs_set (i:=4) sc_laid.nd rfl (.inl rfl) (ve_callP (ds:=[]) (dvs:=[]) (ss:=[.pos 0,.pos 1,.pos 2]) G_next_minute gd (hr.mono (by decide)) (by rfl) g_next_minute k_next_minute b_next_minute_3 (by intro us ws h1 h2; match us,h1,ws,h2 with | [_,_,_],_,[],_=>rfl) (fun _ _=>.nil) (passes_call (takes_of rfl rfl rfl rfl) (fun _ _ _ _ h=>h)) (va_cons (ve_var 0) (va_cons (ve_var 2) (va_cons ve_int va_nil)))))
     (vss_cons (vs_while (passes_of rfl) (OkC.vt oc_isnot (ve_var 4) ve_non (nomark _)) (vss_kill [5,6,7,8] (vss_cons (vs_set (i:=5) sc_laid.nd rfl (.inl rfl) (ve_var 1))
     (vss_cons (vs_set (i:=6) sc_laid.nd rfl (.inl rfl) (ve_callP (ds:=[]) (dvs:=[]) (ss:=[.pos 0,.pos 1,.pos 2]) G_waiting gd (hr.mono (by decide)) (by rfl) g_waiting k_waiting b_waiting_3 (by intro us ws h1 h2; match us,h1,ws,h2 with | [_,_,_],_,[],_=>rfl) (fun _ _=>.nil) (passes_call (takes_of rfl rfl rfl rfl) (fun _ _ _ _ h=>h)) (va_cons (ve_var 0) (va_cons (ve_var 2) (va_cons (ve_var 4) va_nil)))))
     (vss_cons (vs_for (passes_of rfl) rfl (vi_seq (ve_var 6)) (vg_name (i:=7) sc_laid.nd rfl (.inl rfl)) (vss_kill [7,8] (vss_cons (vs_set (i:=8) sc_laid.nd rfl (.inl rfl) (ve_callB (ob_min rfl) (by rfl) m_min (by decide +kernel) (va_cons (ve_var 5) (va_cons (ve_sub_ix hu (ve_var 2) (ve_var 7) (fun _ _=>rfl)) va_nil))))
     (vss_cons (vs_if (OkC.vt oc_gt (ve_var 8) ve_int (nomark _)) (vss_one (vs_expr (ve_ml PySem.F.slot_list_append PySem.F.type_list_append om_append (ve_var 3) (va_cons (ve_tup (va_cons (ve_var 4) (va_cons (ve_var 7) (va_cons (ve_var 8) va_nil)))) va_nil)))) vss_nil)
     (vss_cons (vs_augS hu (ve_var 2) (ve_var 7) (ve_var 8) oi_sub)
     (vss_one (vs_aug (i:=5) sc_laid.nd rfl (.inl rfl) (ve_var 8) oi_sub)))))))
     (vss_one (vs_set (i:=4) sc_laid.nd rfl (.inl rfl) (ve_callP (ds:=[]) (dvs:=[]) (ss:=[.pos 0,.pos 1,.pos 2]) G_next_minute gd (hr.mono (by decide)) (by rfl) g_next_minute k_next_minute b_next_minute_3 (by intro us ws h1 h2; match us,h1,ws,h2 with | [_,_,_],_,[],_=>rfl) (fun _ _=>.nil) (passes_call (takes_of rfl rfl rfl rfl) (fun _ _ _ _ h=>h)) (va_cons (ve_var 0) (va_cons (ve_var 2) (va_cons (ve_add false (ve_var 4) ve_int) va_nil)))))))))))
     (vss_one (vs_ret (ve_callTy ob_tuple (by rfl) m_tuple (by decide +kernel) (va_cons (ve_callB (ob_sortedA hu false) (by rfl) m_sorted (by decide +kernel) (va_cons (ve_var 3) va_nil)) va_nil))))))))
theorem ok_kitchen {f_kitchen:Addr} {fd_kitchen:FuncData} {dvs_kitchen:List V} (F_:FunD K "kitchen" "kitchen" (defArgs s_kitchen) (defBody s_kitchen) (defScope s_kitchen) dvs_kitchen [] f_kitchen fd_kitchen) {f_full_stretches:Addr} {fd_full_stretches:FuncData} (G_full_stretches:FnG P w K mg base (L2.CX P w) 4 f_full_stretches fd_full_stretches ["jobs","fires"] (spV K ⟨mg,w⟩ 2 F_full_stretches)) (k_full_stretches:PySem.W.keepIn K (.ref f_full_stretches)=true) (g_full_stretches:mg "full_stretches" = some (.ref f_full_stretches)) {f_laid:Addr} {fd_laid:FuncData} (G_laid:FnG P w K mg base (L2.CX P w) 3 f_laid fd_laid ["jobs","fires"] (spV K ⟨mg,w⟩ 2 F_laid)) (k_laid:PySem.W.keepIn K (.ref f_laid)=true) (g_laid:mg "laid" = some (.ref f_laid)) (b_full_stretches_2:BindV K fd_full_stretches ["jobs","fires"] 2 [] [] [.pos 0,.pos 1]) (b_laid_2:BindV K fd_laid ["jobs","fires"] 2 [] [] [.pos 0,.pos 1]):FnG P w K mg base (L2.CX P w) 5 f_kitchen fd_kitchen ["jobs","fires"] (spV K ⟨mg,w⟩ 2 F_kitchen):=by
 refine gokVD (k:=4) 0 F_ sc_kitchen fun cdv A gd outer s H E hr=>?_
 have hu:=hu65 hr
 exact (vss_cons (vs_set (i:=2) sc_kitchen.nd rfl (.inl rfl) (ve_callP (ds:=[]) (dvs:=[]) (ss:=[.pos 0, .pos 1]) G_full_stretches gd (hr.mono (by decide)) (by rfl) g_full_stretches k_full_stretches b_full_stretches_2 (by intro us ws h1 h2; match us, h1, ws, h2 with | [_, _], _, [], _ => rfl) (fun _ _ => .nil) (passes_call (takes_of rfl rfl rfl rfl) (fun _ _ _ _ h => h)) (va_cons (ve_var 0) (va_cons (ve_var 1) va_nil))))
     (vss_cons (vs_if (vt_val (ve_var 2)) (vss_one (vs_ret (ve_tup (va_cons ve_str (va_cons (ve_sub_ix hu (ve_var 2) ve_int (fun _ _=>rfl)) va_nil))))) vss_nil)
     (vss_one (vs_ret (ve_tup (va_cons ve_str (va_cons (ve_callP (ds:=[]) (dvs:=[]) (ss:=[.pos 0,.pos 1]) G_laid gd (hr.mono (by decide)) (by rfl) g_laid k_laid b_laid_2 (by intro us ws h1 h2; match us,h1,ws,h2 with | [_,_],_,[],_=>rfl) (fun _ _=>.nil) (passes_call (takes_of rfl rfl rfl rfl) (fun _ _ _ _ h=>h)) (va_cons (ve_var 0) (va_cons (ve_var 1) va_nil))) va_nil)))))))
theorem ok__law_coil {f__law_coil:Addr} {fd__law_coil:FuncData} (F_:Fun K "_law_coil" "_law_coil" s__law_coil f__law_coil fd__law_coil)  : FnG P w K mg base (L2.CX P w) 2 f__law_coil fd__law_coil ["_law_script"] (spV K ⟨mg,w⟩ 1 F__law_coil):=by
 refine gokV (k:=1) 0 F_ sc__law_coil fun cdv A gd outer s H E hr=>?_
 have hu:=hu65 hr
 exact (vss_one (vs_ret (ve_lst true (va_cons (ve_slice false (ve_var 0) vo_none (vo_some ve_int)) (va_cons ve_int (va_cons ve_int (va_cons ve_int va_nil)))))))
theorem ok__law_pull {f__law_pull:Addr} {fd__law_pull:FuncData} (F_:Fun K "_law_pull" "_law_pull" s__law_pull f__law_pull fd__law_pull) (m_len:mg "len" = none):FnG P w K mg base (L2.CX P w) 2 f__law_pull fd__law_pull ["_law_coil_here","_law_many"] (spV K ⟨mg,w⟩ 2 F__law_pull):=by
 refine gokV (k:=1) 0 F_ sc__law_pull fun cdv A gd outer s H E hr=>?_
 have hu:=hu65 hr
 exact (vss_cons (vs_set (i:=2) sc__law_pull.nd rfl (.inl rfl) (ve_sub_ix hu (ve_var 0) ve_int (fun _ _ => rfl)))
     (vss_cons (vs_asg (ve_add false (ve_var 2) ve_int) (vg_sub hu (ve_var 0) ve_int))
     (vss_cons (vs_if (OkC.vt oc_gt (ve_sub_ix hu (ve_var 0) ve_int (fun _ _=>rfl)) ve_int (nomark _)) (vss_cons (vs_set (i:=3) sc__law_pull.nd rfl (.inl rfl) (ve_mod (ve_sub_ix hu (ve_var 0) ve_int (fun _ _=>rfl)) (ve_var 1)))
     (vss_cons (vs_asg (ve_fdiv (ve_sub_ix hu (ve_var 0) ve_int (fun _ _=>rfl)) (ve_var 1)) (vg_sub hu (ve_var 0) ve_int))
     (vss_one (vs_ret (ve_var 3))))) vss_nil)
     (vss_cons (vs_set (i:=4) sc__law_pull.nd rfl (.inl rfl) (ve_sub_ix hu (ve_var 0) ve_int (fun _ _=>rfl)))
     (vss_cons (vs_asg (ve_add false (ve_var 4) ve_int) (vg_sub hu (ve_var 0) ve_int))
     (vss_cons (vs_set (i:=5) sc__law_pull.nd rfl (.inl rfl) (ve_ifExp (OkC.vt (oc_ne hu) (ve_sub_ix hu (ve_var 0) ve_int (fun _ _=>rfl)) (ve_lst false va_nil) (nomark _)) (ve_sub_ix hu (ve_sub_ix hu (ve_var 0) ve_int (fun _ _=>rfl)) (ve_mod (ve_var 4) (ve_callB ob_len (by rfl) m_len (by decide +kernel) (va_cons (ve_sub_ix hu (ve_var 0) ve_int (fun _ _=>rfl)) va_nil))) (fun _ _=>rfl)) ve_int))
     (vss_cons (vs_if (PW.pt (vw_and (OkC.vt oc_ge (ve_var 5) (ve_pow ve_int ve_int) (nomark _)) (vw_and1 (OkC.vt (oc_lt hu) (ve_var 4) (ve_callB ob_len (by rfl) m_len (by decide +kernel) (va_cons (ve_sub_ix hu (ve_var 0) ve_int (fun _ _=>rfl)) va_nil)) (nomark _))))) (vss_cons (vs_asg (ve_fdiv (ve_var 5) (ve_var 1)) (vg_sub hu (ve_var 0) ve_int))
     (vss_one (vs_ret (ve_mod (ve_var 5) (ve_var 1))))) vss_nil)
     (vss_cons (vs_set (i:=6) sc__law_pull.nd rfl (.inl rfl) (ve_add false (ve_add false (ve_add false (ve_mod (ve_var 5) ve_int) (ve_mul false (ve_mul false ve_int (ve_var 2)) (ve_var 2))) (ve_mul false ve_int (ve_var 2))) ve_int))
     (vss_cons (vs_set (i:=6) sc__law_pull.nd rfl (.inl rfl) (ve_mod (ve_add false (ve_add false (ve_mul false (ve_var 6) (ve_var 6)) (ve_mul false ve_int (ve_var 2))) ve_int) ve_int))
     (vss_one (vs_ret (ve_mod (ve_fdiv (ve_mod (ve_add false (ve_mul false (ve_var 6) (ve_var 6)) (ve_mul false ve_int (ve_var 6))) ve_int) ve_int) (ve_var 1)))))))))))))
theorem ok__law_jobs {f__law_jobs:Addr} {fd__law_jobs:FuncData} (F_:Fun K "_law_jobs" "_law_jobs" s__law_jobs f__law_jobs fd__law_jobs) {f__law_pull:Addr} {fd__law_pull:FuncData} (G__law_pull:FnG P w K mg base (L2.CX P w) 2 f__law_pull fd__law_pull ["_law_coil_here","_law_many"] (spV K ⟨mg,w⟩ 2 F__law_pull)) (k__law_pull:PySem.W.keepIn K (.ref f__law_pull)=true) (g__law_pull:mg "_law_pull" = some (.ref f__law_pull)) (b__law_pull_2:BindV K fd__law_pull ["_law_coil_here","_law_many"] 2 [] [] [.pos 0,.pos 1]) (m_range:mg "range" = none) (m_tuple:mg "tuple" = none):FnG P w K mg base (L2.CX P w) 3 f__law_jobs fd__law_jobs ["_law_coil_here","_law_many_now"] (spV K ⟨mg,w⟩ 2 F__law_jobs_09f3):=by
 refine gokV (k:=2) 0 F_ sc__law_jobs fun cdv A gd outer s H E hr=>?_
 have hu:=hu65 hr
 exact (vss_cons (vs_set (i:=2) sc__law_jobs.nd rfl (.inl rfl) (ve_sub_ix hu (ve_lst false (va_cons ve_int (va_cons (ve_callP (ds:=[]) (dvs:=[]) (ss:=[.pos 0, .pos 1]) G__law_pull gd (hr.mono (by decide)) (by rfl) g__law_pull k__law_pull b__law_pull_2 (by intro us ws h1 h2; match us, h1, ws, h2 with | [_, _], _, [], _ => rfl) (fun _ _ => .nil) (passes_call (takes_of rfl rfl rfl rfl) (fun _ _ _ _ h => h)) (va_cons (ve_var 0) (va_cons ve_int va_nil))) (va_cons ve_int va_nil)))) (ve_callP (ds:=[]) (dvs:=[]) (ss:=[.pos 0, .pos 1]) G__law_pull gd (hr.mono (by decide)) (by rfl) g__law_pull k__law_pull b__law_pull_2 (by intro us ws h1 h2; match us, h1, ws, h2 with | [_, _], _, [], _ => rfl) (fun _ _ => .nil) (passes_call (takes_of rfl rfl rfl rfl) (fun _ _ _ _ h => h)) (va_cons (ve_var 0) (va_cons ve_int va_nil))) (fun _ _ => rfl)))
     (vss_cons (vs_set (i:=3) sc__law_jobs.nd rfl (.inl rfl) (ve_lst true va_nil))
     (vss_cons (vs_for (passes_of rfl) rfl (vi_range1 (by rfl) m_range (va_cons (ve_callP (ds:=[]) (dvs:=[]) (ss:=[.pos 0,.pos 1]) G__law_pull gd (hr.mono (by decide)) (by rfl) g__law_pull k__law_pull b__law_pull_2 (by intro us ws h1 h2; match us,h1,ws,h2 with | [_,_],_,[],_=>rfl) (fun _ _=>.nil) (passes_call (takes_of rfl rfl rfl rfl) (fun _ _ _ _ h=>h)) (va_cons (ve_var 0) (va_cons (ve_add false (ve_var 1) ve_int) va_nil))) va_nil)) (vg_name (i:=4) sc__law_jobs.nd rfl (.inl rfl)) (vss_kill [4,5,6] (vss_cons (vs_set (i:=5) sc__law_jobs.nd rfl (.inl rfl) (ve_add false (ve_var 2) (ve_callP (ds:=[]) (dvs:=[]) (ss:=[.pos 0,.pos 1]) G__law_pull gd (hr.mono (by decide)) (by rfl) g__law_pull k__law_pull b__law_pull_2 (by intro us ws h1 h2; match us,h1,ws,h2 with | [_,_],_,[],_=>rfl) (fun _ _=>.nil) (passes_call (takes_of rfl rfl rfl rfl) (fun _ _ _ _ h=>h)) (va_cons (ve_var 0) (va_cons ve_int va_nil)))))
     (vss_cons (vs_set (i:=6) sc__law_jobs.nd rfl (.inl rfl) (ve_add false (ve_var 5) (ve_sub_ix hu (ve_lst false (va_cons ve_int (va_cons ve_int (va_cons ve_int (va_cons ve_int (va_cons ve_int (va_cons (ve_add false ve_int (ve_callP (ds:=[]) (dvs:=[]) (ss:=[.pos 0,.pos 1]) G__law_pull gd (hr.mono (by decide)) (by rfl) g__law_pull k__law_pull b__law_pull_2 (by intro us ws h1 h2; match us,h1,ws,h2 with | [_,_],_,[],_=>rfl) (fun _ _=>.nil) (passes_call (takes_of rfl rfl rfl rfl) (fun _ _ _ _ h=>h)) (va_cons (ve_var 0) (va_cons ve_int va_nil)))) va_nil))))))) (ve_callP (ds:=[]) (dvs:=[]) (ss:=[.pos 0,.pos 1]) G__law_pull gd (hr.mono (by decide)) (by rfl) g__law_pull k__law_pull b__law_pull_2 (by intro us ws h1 h2; match us,h1,ws,h2 with | [_,_],_,[],_=>rfl) (fun _ _=>.nil) (passes_call (takes_of rfl rfl rfl rfl) (fun _ _ _ _ h=>h)) (va_cons (ve_var 0) (va_cons ve_int va_nil))) (fun _ _=>rfl))))
     (vss_cons (vs_if (OkC.vt (oc_eq hu) (ve_callP (ds:=[]) (dvs:=[]) (ss:=[.pos 0,.pos 1]) G__law_pull gd (hr.mono (by decide)) (by rfl) g__law_pull k__law_pull b__law_pull_2 (by intro us ws h1 h2; match us,h1,ws,h2 with | [_,_],_,[],_=>rfl) (fun _ _=>.nil) (passes_call (takes_of rfl rfl rfl rfl) (fun _ _ _ _ h=>h)) (va_cons (ve_var 0) (va_cons ve_int va_nil))) ve_int (nomark _)) (vss_one (vs_set (i:=6) sc__law_jobs.nd rfl (.inl rfl) (ve_var 5))) vss_nil)
     (vss_one (vs_expr (ve_ml PySem.F.slot_list_append PySem.F.type_list_append om_append (ve_var 3) (va_cons (ve_tup (va_cons (ve_var 5) (va_cons (ve_var 6) (va_cons (ve_sub_ix hu (ve_lst false (va_cons (ve_callP (ds:=[]) (dvs:=[]) (ss:=[.pos 0,.pos 1]) G__law_pull gd (hr.mono (by decide)) (by rfl) g__law_pull k__law_pull b__law_pull_2 (by intro us ws h1 h2; match us,h1,ws,h2 with | [_,_],_,[],_=>rfl) (fun _ _=>.nil) (passes_call (takes_of rfl rfl rfl rfl) (fun _ _ _ _ h=>h)) (va_cons (ve_var 0) (va_cons ve_int va_nil))) (va_cons ve_int (va_cons ve_int (va_cons ve_int (va_cons ve_int (va_cons ve_int va_nil))))))) (ve_callP (ds:=[]) (dvs:=[]) (ss:=[.pos 0,.pos 1]) G__law_pull gd (hr.mono (by decide)) (by rfl) g__law_pull k__law_pull b__law_pull_2 (by intro us ws h1 h2; match us,h1,ws,h2 with | [_,_],_,[],_=>rfl) (fun _ _=>.nil) (passes_call (takes_of rfl rfl rfl rfl) (fun _ _ _ _ h=>h)) (va_cons (ve_var 0) (va_cons ve_int va_nil))) (fun _ _=>rfl)) va_nil)))) va_nil)))))))))
     (vss_one (vs_ret (ve_callTy ob_tuple (by rfl) m_tuple (by decide +kernel) (va_cons (ve_var 3) va_nil)))))))
theorem ok__law_finds {f__law_finds:Addr} {fd__law_finds:FuncData} (F_:Fun K "_law_finds" "_law_finds" s__law_finds f__law_finds fd__law_finds) (k__law_finds:PySem.W.keepIn K (.ref f__law_finds)=true) (g__law_finds:mg "_law_finds" = some (.ref f__law_finds)) (b__law_finds_4:BindV K fd__law_finds ["_law_part","_law_held","_law_unit","_law_seen"] 4 [] [] [.pos 0,.pos 1,.pos 2,.pos 3]):∀ n,FnG P w K mg base (L2.CX P w) (n+2) f__law_finds fd__law_finds ["_law_part","_law_held","_law_unit","_law_seen"] (spV K ⟨mg,w⟩ 4 (F__law_finds n)):=by
 intro n
 induction n with
 | zero=>exact FnG.never
 | succ n G__law_finds =>
   refine gokV (k:=n+2) 0 F_ sc__law_finds fun cdv A gd outer s H E hr=>?_
   have hu:=hu65 hr
   exact (vss_cons (vs_for (passes_of rfl) rfl (vi_seq (ve_sub_ix hu (ve_var 0) (ve_var 2) (fun _ _=>rfl))) (vg_name (i:=4) sc__law_finds.nd rfl (.inl rfl)) (vss_kill [4] (vss_one (vs_if (OkC.vt (oc_notinK hu) (ve_var 4) (ve_var 3) (by rfl)) (vss_cons (vs_asg ve_bl (vg_sub hu (ve_var 3) (ve_var 4)))
     (vss_one (vs_if (PW.pt (vw_or (OkC.vt (oc_notinK hu) (ve_var 4) (ve_var 1) (by rfl)) (vw_or1 (vt_val (ve_callP (ds:=[]) (dvs:=[]) (ss:=[.pos 0,.pos 1,.pos 2,.pos 3]) G__law_finds gd (hr.mono (by omega)) (by rfl) g__law_finds k__law_finds b__law_finds_4 (by intro us ws h1 h2; match us,h1,ws,h2 with | [_,_,_,_],_,[],_=>rfl) (fun _ _=>.nil) (passes_call (takes_of rfl rfl rfl rfl) (fun _ _ _ _ h=>h)) (va_cons (ve_var 0) (va_cons (ve_var 1) (va_cons (ve_sub_ix hu (ve_var 1) (ve_var 4) (fun _ _=>rfl)) (va_cons (ve_var 3) va_nil))))))))) (vss_cons (vs_asg (ve_var 2) (vg_sub hu (ve_var 1) (ve_var 4)))
     (vss_one (vs_ret ve_bl))) vss_nil))) vss_nil))))
     (vss_one (vs_ret ve_bl)))
theorem ok__law_matched {f__law_matched:Addr} {fd__law_matched:FuncData} (F_:Fun K "_law_matched" "_law_matched" s__law_matched f__law_matched fd__law_matched) {f__law_finds:Addr} {fd__law_finds:FuncData} (G__law_finds:FnG P w K mg base (L2.CX P w) 34 f__law_finds fd__law_finds ["_law_part","_law_held","_law_unit","_law_seen"] (spV K ⟨mg,w⟩ 4 (F__law_finds 32))) (k__law_finds:PySem.W.keepIn K (.ref f__law_finds)=true) (g__law_finds:mg "_law_finds" = some (.ref f__law_finds)) (b__law_finds_4:BindV K fd__law_finds ["_law_part","_law_held","_law_unit","_law_seen"] 4 [] [] [.pos 0,.pos 1,.pos 2,.pos 3]) (m_len:mg "len" = none) (m_range:mg "range" = none):FnG P w K mg base (L2.CX P w) 35 f__law_matched fd__law_matched ["_law_tasks","_law_heat"] (spV K ⟨mg,w⟩ 2 F__law_matched):=by
 refine gokV (k:=34) 0 F_ sc__law_matched fun cdv A gd outer s H E hr=>?_
 have hu:=hu65 hr
 exact (vss_cons (vs_set (i:=2) sc__law_matched.nd rfl (.inr rfl) (ve_lst true va_nil))
     (vss_cons (vs_for (passes_of rfl) rfl (vi_seq (ve_var 0)) (vg_tup rfl (vgs_cons (vg_name (i:=3) sc__law_matched.nd rfl (.inl rfl)) (vgs_cons (vg_name (i:=4) sc__law_matched.nd rfl (.inl rfl)) (vgs_cons (vg_name (i:=5) sc__law_matched.nd rfl (.inl rfl)) vgs_nil)))) (vss_kill [3,4,5,6,7] (vss_cons (vs_set (i:=6) sc__law_matched.nd rfl (.inl rfl) (ve_lst true va_nil))
     (vss_cons (vs_for (passes_of rfl) rfl (vi_range2 (by rfl) m_range (va_cons (ve_var 3) (va_cons (ve_var 4) va_nil))) (vg_name (i:=7) sc__law_matched.nd rfl (.inr rfl)) (vss_kill [7] (vss_one (vs_expr (ve_ml PySem.F.slot_list_extend PySem.F.type_list_extend om_extend (ve_var 6) (va_cons (ve_lc false (own:=[("_law_place",10)]) (by decide) rfl sc__law_matched.nd (vi_range1 (by rfl) m_range (va_cons (ve_var 1) va_nil)) (blkOk_by (own:=[("_law_place",10)]) (N:=["_law_tasks","_law_heat","_law_part","_law_start","_law_stop","_law_pieces","_law_spots","_law_minute","_law_held","_law_unit","_law_place"]) (sc:=defScope s__law_matched) (by decide +kernel)) (fun _ _ _ _ _=>(vg_name (i:=10) sc__law_matched.nd rfl (.inl rfl))) (fun _ _ _ _ _=>vts_nil) (fun _ _ _ _ _=>(ve_tup (va_cons (ve_var 7) (va_cons (ve_var 10) va_nil))))) va_nil))))))
     (vss_one (vs_expr (ve_ml PySem.F.slot_list_extend PySem.F.type_list_extend om_extend (ve_var 2) (va_cons (ve_mul false (ve_lst false (va_cons (ve_var 6) va_nil)) (ve_var 5)) va_nil))))))))
     (vss_cons (vs_set (i:=8) sc__law_matched.nd rfl (.inr rfl) ve_dnewT)
     (vss_one (vs_ret (ve_ml PySem.F.slot_list_count PySem.F.type_list_count (om_countG hu) (ve_lc false (own:=[("_law_unit",9)]) (by decide) rfl sc__law_matched.nd (vi_range1 (by rfl) m_range (va_cons (ve_callB ob_len (by rfl) m_len (by decide +kernel) (va_cons (ve_var 2) va_nil)) va_nil)) (blkOk_by (own:=[("_law_unit",9)]) (N:=["_law_tasks","_law_heat","_law_part","_law_start","_law_stop","_law_pieces","_law_spots","_law_minute","_law_held","_law_unit","_law_place"]) (sc:=defScope s__law_matched) (by decide +kernel)) (fun _ _ _ _ _=>(vg_name (i:=9) sc__law_matched.nd rfl (.inl rfl))) (fun _ _ _ _ _=>vts_nil) (fun _ _ _ _ _=>(ve_callP (ds:=[]) (dvs:=[]) (ss:=[.pos 0,.pos 1,.pos 2,.pos 3]) G__law_finds gd (hr.mono (by decide)) (by rfl) g__law_finds k__law_finds b__law_finds_4 (by intro us ws h1 h2; match us,h1,ws,h2 with | [_,_,_,_],_,[],_=>rfl) (fun _ _=>.nil) passL (va_cons (ve_var 2) (va_cons (ve_var 8) (va_cons (ve_var 9) (va_cons ve_dnewT va_nil))))))) (va_cons ve_bl va_nil)))))))
theorem ok_law {f_law:Addr} {fd_law:FuncData} (F_:Fun K "law" "law" s_law f_law fd_law) {f__law_coil:Addr} {fd__law_coil:FuncData} (G__law_coil:FnG P w K mg base (L2.CX P w) 2 f__law_coil fd__law_coil ["_law_script"] (spV K ⟨mg,w⟩ 1 F__law_coil)) (k__law_coil:PySem.W.keepIn K (.ref f__law_coil)=true) (g__law_coil:mg "_law_coil" = some (.ref f__law_coil)) {f__law_jobs:Addr} {fd__law_jobs:FuncData} (G__law_jobs:FnG P w K mg base (L2.CX P w) 3 f__law_jobs fd__law_jobs ["_law_coil_here","_law_many_now"] (spV K ⟨mg,w⟩ 2 F__law_jobs_09f3)) (k__law_jobs:PySem.W.keepIn K (.ref f__law_jobs)=true) (g__law_jobs:mg "_law_jobs" = some (.ref f__law_jobs)) {f__law_matched:Addr} {fd__law_matched:FuncData} (G__law_matched:FnG P w K mg base (L2.CX P w) 35 f__law_matched fd__law_matched ["_law_tasks","_law_heat"] (spV K ⟨mg,w⟩ 2 F__law_matched)) (k__law_matched:PySem.W.keepIn K (.ref f__law_matched)=true) (g__law_matched:mg "_law_matched" = some (.ref f__law_matched)) {f__law_pull:Addr} {fd__law_pull:FuncData} (G__law_pull:FnG P w K mg base (L2.CX P w) 2 f__law_pull fd__law_pull ["_law_coil_here","_law_many"] (spV K ⟨mg,w⟩ 2 F__law_pull)) (k__law_pull:PySem.W.keepIn K (.ref f__law_pull)=true) (g__law_pull:mg "_law_pull" = some (.ref f__law_pull)) {f_kitchen:Addr} {fd_kitchen:FuncData} (G_kitchen:FnG P w K mg base (L2.CX P w) 5 f_kitchen fd_kitchen ["jobs","fires"] (spV K ⟨mg,w⟩ 2 F_kitchen)) (k_kitchen:PySem.W.keepIn K (.ref f_kitchen)=true) (g_kitchen:mg "kitchen" = some (.ref f_kitchen)) (b__law_coil_1:BindV K fd__law_coil ["_law_script"] 1 [] [] [.pos 0]) (b__law_jobs_2:BindV K fd__law_jobs ["_law_coil_here","_law_many_now"] 2 [] [] [.pos 0,.pos 1]) (b__law_matched_2:BindV K fd__law_matched ["_law_tasks","_law_heat"] 2 [] [] [.pos 0,.pos 1]) (b__law_pull_2:BindV K fd__law_pull ["_law_coil_here","_law_many"] 2 [] [] [.pos 0,.pos 1]) (b_kitchen_1_fires:BindV K fd_kitchen ["jobs","fires"] 1 ["fires"] [.int 1] [.pos 0,.kw 0]) (m_sum:mg "sum" = none):FnG P w K mg base (L2.CX P w) 36 f_law fd_law ["_law_script"] (spV K ⟨mg,w⟩ 1 F_law_637a):=by
 refine gokV (k:=35) 0 F_ sc_law fun cdv A gd outer s H E hr=>?_
 have hu:=hu65 hr
 exact (vss_cons (vs_set (i:=1) sc_law.nd rfl (.inl rfl) (ve_callP (ds:=[]) (dvs:=[]) (ss:=[.pos 0]) G__law_coil gd (hr.mono (by decide)) (by rfl) g__law_coil k__law_coil b__law_coil_1 (by intro us ws h1 h2; match us, h1, ws, h2 with | [_], _, [], _ => rfl) (fun _ _ => .nil) (passes_call (takes_of rfl rfl rfl rfl) (fun _ _ _ _ h => h)) (va_cons (ve_var 0) va_nil)))
     (vss_cons (vs_par (i:=2) (j:=3) (by rfl) sc_law.nd rfl rfl (by decide) rfl rfl (va_cons (ve_callP (ds:=[]) (dvs:=[]) (ss:=[.pos 0,.pos 1]) G__law_jobs gd (hr.mono (by decide)) (by rfl) g__law_jobs k__law_jobs b__law_jobs_2 (by intro us ws h1 h2; match us,h1,ws,h2 with | [_,_],_,[],_=>rfl) (fun _ _=>.nil) (passes_call (takes_of rfl rfl rfl rfl) (fun _ _ _ _ h=>h)) (va_cons (ve_var 1) (va_cons ve_int va_nil))) (va_cons (ve_add false ve_int (ve_callP (ds:=[]) (dvs:=[]) (ss:=[.pos 0,.pos 1]) G__law_pull gd (hr.mono (by decide)) (by rfl) g__law_pull k__law_pull b__law_pull_2 (by intro us ws h1 h2; match us,h1,ws,h2 with | [_,_],_,[],_=>rfl) (fun _ _=>.nil) (passes_call (takes_of rfl rfl rfl rfl) (fun _ _ _ _ h=>h)) (va_cons (ve_var 1) (va_cons ve_int va_nil)))) va_nil)) (by rfl))
     (vss_cons (vs_set (i:=4) sc_law.nd rfl (.inl rfl) (ve_callB (ob_sum rfl) (by rfl) m_sum (by decide +kernel) (va_cons (ve_lc false (own:=[("_law_job",7)]) (by decide) rfl sc_law.nd (vi_seq (ve_var 2)) (blkOk_by (own:=[("_law_job",7)]) (N:=["_law_script","_law_coil_here","_law_tasks","_law_heat","_law_pieces","_law_many","_law_due","_law_job"]) (sc:=defScope s_law) (by decide +kernel)) (fun _ _ _ _ _=>(vg_name (i:=7) sc_law.nd rfl (.inl rfl))) (fun _ _ _ _ _=>vts_nil) (fun _ _ _ _ _=>(ve_sub_ix hu (ve_var 7) ve_int (fun _ _=>rfl)))) va_nil)))
     (vss_cons (vs_for (passes_of rfl) rfl (vi_seq (ve_tup (va_cons (ve_var 3) (va_cons (ve_add false (ve_var 3) ve_int) (va_cons ve_int va_nil))))) (vg_name (i:=5) sc_law.nd rfl (.inl rfl)) (vss_kill [5,6] (vss_cons (vs_set (i:=6) sc_law.nd rfl (.inl rfl) (ve_ifExp (OkC.vt (oc_eq hu) (ve_callP (ds:=[]) (dvs:=[]) (ss:=[.pos 0,.pos 1]) G__law_matched gd (hr.mono (by decide)) (by rfl) g__law_matched k__law_matched b__law_matched_2 (by intro us ws h1 h2; match us,h1,ws,h2 with | [_,_],_,[],_=>rfl) (fun _ _=>.nil) (passes_call (takes_of rfl rfl rfl rfl) (fun _ _ _ _ h=>h)) (va_cons (ve_var 2) (va_cons (ve_var 5) va_nil))) (ve_var 4) (nomark _)) ve_str ve_str))
     (vss_one (vs_if (OkC.vt (oc_ne hu) (ve_sub_ix hu (ve_callK (ds:=[.int 1]) (dvs:=[.int 1]) (ss:=[.pos 0,.kw 0]) G_kitchen gd (hr.mono (by decide)) (by rfl) g_kitchen k_kitchen b_kitchen_1_fires (by intro us ws h1 h2; match us,h1,ws,h2 with | [_],_,[_],_=>rfl) (fun _ _=>(.cons (.int _) .nil)) (passes_call (takes_of rfl rfl rfl rfl) (fun _ _ _ _ h=>h)) (va_cons (ve_var 2) va_nil) (vk_cons (ve_var 5) vk_nil) rfl) ve_int (fun _ _=>rfl)) (ve_var 6) (nomark _)) (vss_one (vs_ret ve_bl)) vss_nil)))))
     (vss_one (vs_ret ve_bl))))))
end
end V59
namespace V59
open PySem PySem.Spec PyProof.Rows L2 TB VL G
theorem all_mk {l : PySem.W.OpenLaw} {w : World} {K : PySem.W.Frag} {h : Heap} {mg : Str → Option Value} {fa : Addr} (X : K.In h) (G : h.Ns mainGlobals mg) (hfa : mg "law" = some (.ref fa))
   {f_within:Addr} {od_within:Option Addr} {an_within:Option Addr} {sl_within:Array (Option Value)} {oc_within:Value} {kV_within:Value} {dc_within:Value} {pm_within:Value} {cd_within:Value} {ct_within:Value}
   {f_excess:Addr} {od_excess:Option Addr} {an_excess:Option Addr} {sl_excess:Array (Option Value)} {oc_excess:Value} {kV_excess:Value} {dc_excess:Value} {pm_excess:Value} {cd_excess:Value} {ct_excess:Value}
   {f_stretches:Addr} {od_stretches:Option Addr} {an_stretches:Option Addr} {sl_stretches:Array (Option Value)} {oc_stretches:Value} {kV_stretches:Value} {dc_stretches:Value} {pm_stretches:Value} {cd_stretches:Value} {ct_stretches:Value}
   {f_full_stretches:Addr} {od_full_stretches:Option Addr} {an_full_stretches:Option Addr} {sl_full_stretches:Array (Option Value)} {oc_full_stretches:Value} {kV_full_stretches:Value} {dc_full_stretches:Value} {pm_full_stretches:Value} {cd_full_stretches:Value} {ct_full_stretches:Value}
   {f_next_minute:Addr} {od_next_minute:Option Addr} {an_next_minute:Option Addr} {sl_next_minute:Array (Option Value)} {oc_next_minute:Value} {kV_next_minute:Value} {dc_next_minute:Value} {pm_next_minute:Value} {cd_next_minute:Value} {ct_next_minute:Value}
   {f_waiting:Addr} {od_waiting:Option Addr} {an_waiting:Option Addr} {sl_waiting:Array (Option Value)} {oc_waiting:Value} {kV_waiting:Value} {dc_waiting:Value} {pm_waiting:Value} {cd_waiting:Value} {ct_waiting:Value}
   {f_laid:Addr} {od_laid:Option Addr} {an_laid:Option Addr} {sl_laid:Array (Option Value)} {oc_laid:Value} {kV_laid:Value} {dc_laid:Value} {pm_laid:Value} {cd_laid:Value} {ct_laid:Value}
   {f_kitchen:Addr} {od_kitchen:Option Addr} {an_kitchen:Option Addr} {sl_kitchen:Array (Option Value)} {oc_kitchen:Value} {kV_kitchen:Value} {dc_kitchen:Value} {pm_kitchen:Value} {cd_kitchen:Value} {ct_kitchen:Value}
   {T_kitchen:Addr} {tc_kitchen:Value} {td_kitchen:Option Addr} {ts_kitchen:Array (Option Value)} {tn_kitchen:Nat} {tk0_kitchen:Tok}
   {f__law_coil:Addr} {od__law_coil:Option Addr} {an__law_coil:Option Addr} {sl__law_coil:Array (Option Value)} {oc__law_coil:Value} {kV__law_coil:Value} {dc__law_coil:Value} {pm__law_coil:Value} {cd__law_coil:Value} {ct__law_coil:Value}
   {f__law_pull:Addr} {od__law_pull:Option Addr} {an__law_pull:Option Addr} {sl__law_pull:Array (Option Value)} {oc__law_pull:Value} {kV__law_pull:Value} {dc__law_pull:Value} {pm__law_pull:Value} {cd__law_pull:Value} {ct__law_pull:Value}
   {f__law_jobs:Addr} {od__law_jobs:Option Addr} {an__law_jobs:Option Addr} {sl__law_jobs:Array (Option Value)} {oc__law_jobs:Value} {kV__law_jobs:Value} {dc__law_jobs:Value} {pm__law_jobs:Value} {cd__law_jobs:Value} {ct__law_jobs:Value}
   {f__law_finds:Addr} {od__law_finds:Option Addr} {an__law_finds:Option Addr} {sl__law_finds:Array (Option Value)} {oc__law_finds:Value} {kV__law_finds:Value} {dc__law_finds:Value} {pm__law_finds:Value} {cd__law_finds:Value} {ct__law_finds:Value}
   {f__law_matched:Addr} {od__law_matched:Option Addr} {an__law_matched:Option Addr} {sl__law_matched:Array (Option Value)} {oc__law_matched:Value} {kV__law_matched:Value} {dc__law_matched:Value} {pm__law_matched:Value} {cd__law_matched:Value} {ct__law_matched:Value}
   {f_law:Addr} {od_law:Option Addr} {an_law:Option Addr} {sl_law:Array (Option Value)} {oc_law:Value} {kV_law:Value} {dc_law:Value} {pm_law:Value} {cd_law:Value} {ct_law:Value}
   (a_within:PySem.W.nsIn K mainGlobals "within" = some (some (.ref f_within)))
   (l_within:K.lookup f_within=some ⟨oc_within,od_within,.func (PySem.W.fnOf "within" "within" (defArgs s_within) (defBody s_within) (defScope s_within) .none kV_within dc_within pm_within an_within cd_within ct_within),sl_within⟩)
   (c_within:PySem.W.codeIn K cd_within "within" = true) (k_within:PySem.W.keepIn K (.ref f_within)=true)
   (a_excess:PySem.W.nsIn K mainGlobals "excess" = some (some (.ref f_excess)))
   (l_excess:K.lookup f_excess=some ⟨oc_excess,od_excess,.func (PySem.W.fnOf "excess" "excess" (defArgs s_excess) (defBody s_excess) (defScope s_excess) .none kV_excess dc_excess pm_excess an_excess cd_excess ct_excess),sl_excess⟩)
   (c_excess:PySem.W.codeIn K cd_excess "excess" = true) (k_excess:PySem.W.keepIn K (.ref f_excess)=true)
   (a_stretches:PySem.W.nsIn K mainGlobals "stretches" = some (some (.ref f_stretches)))
   (l_stretches:K.lookup f_stretches=some ⟨oc_stretches,od_stretches,.func (PySem.W.fnOf "stretches" "stretches" (defArgs s_stretches) (defBody s_stretches) (defScope s_stretches) .none kV_stretches dc_stretches pm_stretches an_stretches cd_stretches ct_stretches),sl_stretches⟩)
   (c_stretches:PySem.W.codeIn K cd_stretches "stretches" = true) (k_stretches:PySem.W.keepIn K (.ref f_stretches)=true)
   (a_full_stretches:PySem.W.nsIn K mainGlobals "full_stretches" = some (some (.ref f_full_stretches)))
   (l_full_stretches:K.lookup f_full_stretches=some ⟨oc_full_stretches,od_full_stretches,.func (PySem.W.fnOf "full_stretches" "full_stretches" (defArgs s_full_stretches) (defBody s_full_stretches) (defScope s_full_stretches) .none kV_full_stretches dc_full_stretches pm_full_stretches an_full_stretches cd_full_stretches ct_full_stretches),sl_full_stretches⟩)
   (c_full_stretches:PySem.W.codeIn K cd_full_stretches "full_stretches" = true) (k_full_stretches:PySem.W.keepIn K (.ref f_full_stretches)=true)
   (a_next_minute:PySem.W.nsIn K mainGlobals "next_minute" = some (some (.ref f_next_minute)))
   (l_next_minute:K.lookup f_next_minute=some ⟨oc_next_minute,od_next_minute,.func (PySem.W.fnOf "next_minute" "next_minute" (defArgs s_next_minute) (defBody s_next_minute) (defScope s_next_minute) .none kV_next_minute dc_next_minute pm_next_minute an_next_minute cd_next_minute ct_next_minute),sl_next_minute⟩)
   (c_next_minute:PySem.W.codeIn K cd_next_minute "next_minute" = true) (k_next_minute:PySem.W.keepIn K (.ref f_next_minute)=true)
   (a_waiting:PySem.W.nsIn K mainGlobals "waiting" = some (some (.ref f_waiting)))
   (l_waiting:K.lookup f_waiting=some ⟨oc_waiting,od_waiting,.func (PySem.W.fnOf "waiting" "waiting" (defArgs s_waiting) (defBody s_waiting) (defScope s_waiting) .none kV_waiting dc_waiting pm_waiting an_waiting cd_waiting ct_waiting),sl_waiting⟩)
   (c_waiting:PySem.W.codeIn K cd_waiting "waiting" = true) (k_waiting:PySem.W.keepIn K (.ref f_waiting)=true)
   (a_laid:PySem.W.nsIn K mainGlobals "laid" = some (some (.ref f_laid)))
   (l_laid:K.lookup f_laid=some ⟨oc_laid,od_laid,.func (PySem.W.fnOf "laid" "laid" (defArgs s_laid) (defBody s_laid) (defScope s_laid) .none kV_laid dc_laid pm_laid an_laid cd_laid ct_laid),sl_laid⟩)
   (c_laid:PySem.W.codeIn K cd_laid "laid" = true) (k_laid:PySem.W.keepIn K (.ref f_laid)=true)
   (a_kitchen:PySem.W.nsIn K mainGlobals "kitchen" = some (some (.ref f_kitchen)))
   (l_kitchen:K.lookup f_kitchen=some ⟨oc_kitchen,od_kitchen,.func (PySem.W.fnOf "kitchen" "kitchen" (defArgs s_kitchen) (defBody s_kitchen) (defScope s_kitchen) (.ref T_kitchen) kV_kitchen dc_kitchen pm_kitchen an_kitchen cd_kitchen ct_kitchen),sl_kitchen⟩)
   (c_kitchen:PySem.W.codeIn K cd_kitchen "kitchen" = true) (k_kitchen:PySem.W.keepIn K (.ref f_kitchen)=true)
   (t_kitchen:K.lookup T_kitchen=some ⟨tc_kitchen,td_kitchen,.seq #[.int 1 tk0_kitchen] tn_kitchen,ts_kitchen⟩)
   (a__law_coil:PySem.W.nsIn K mainGlobals "_law_coil" = some (some (.ref f__law_coil)))
   (l__law_coil:K.lookup f__law_coil=some ⟨oc__law_coil,od__law_coil,.func (PySem.W.fnOf "_law_coil" "_law_coil" (defArgs s__law_coil) (defBody s__law_coil) (defScope s__law_coil) .none kV__law_coil dc__law_coil pm__law_coil an__law_coil cd__law_coil ct__law_coil),sl__law_coil⟩)
   (c__law_coil:PySem.W.codeIn K cd__law_coil "_law_coil" = true) (k__law_coil:PySem.W.keepIn K (.ref f__law_coil)=true)
   (a__law_pull:PySem.W.nsIn K mainGlobals "_law_pull" = some (some (.ref f__law_pull)))
   (l__law_pull:K.lookup f__law_pull=some ⟨oc__law_pull,od__law_pull,.func (PySem.W.fnOf "_law_pull" "_law_pull" (defArgs s__law_pull) (defBody s__law_pull) (defScope s__law_pull) .none kV__law_pull dc__law_pull pm__law_pull an__law_pull cd__law_pull ct__law_pull),sl__law_pull⟩)
   (c__law_pull:PySem.W.codeIn K cd__law_pull "_law_pull" = true) (k__law_pull:PySem.W.keepIn K (.ref f__law_pull)=true)
   (a__law_jobs:PySem.W.nsIn K mainGlobals "_law_jobs" = some (some (.ref f__law_jobs)))
   (l__law_jobs:K.lookup f__law_jobs=some ⟨oc__law_jobs,od__law_jobs,.func (PySem.W.fnOf "_law_jobs" "_law_jobs" (defArgs s__law_jobs) (defBody s__law_jobs) (defScope s__law_jobs) .none kV__law_jobs dc__law_jobs pm__law_jobs an__law_jobs cd__law_jobs ct__law_jobs),sl__law_jobs⟩)
   (c__law_jobs:PySem.W.codeIn K cd__law_jobs "_law_jobs" = true) (k__law_jobs:PySem.W.keepIn K (.ref f__law_jobs)=true)
   (a__law_finds:PySem.W.nsIn K mainGlobals "_law_finds" = some (some (.ref f__law_finds)))
   (l__law_finds:K.lookup f__law_finds=some ⟨oc__law_finds,od__law_finds,.func (PySem.W.fnOf "_law_finds" "_law_finds" (defArgs s__law_finds) (defBody s__law_finds) (defScope s__law_finds) .none kV__law_finds dc__law_finds pm__law_finds an__law_finds cd__law_finds ct__law_finds),sl__law_finds⟩)
   (c__law_finds:PySem.W.codeIn K cd__law_finds "_law_finds" = true) (k__law_finds:PySem.W.keepIn K (.ref f__law_finds)=true)
   (a__law_matched:PySem.W.nsIn K mainGlobals "_law_matched" = some (some (.ref f__law_matched)))
   (l__law_matched:K.lookup f__law_matched=some ⟨oc__law_matched,od__law_matched,.func (PySem.W.fnOf "_law_matched" "_law_matched" (defArgs s__law_matched) (defBody s__law_matched) (defScope s__law_matched) .none kV__law_matched dc__law_matched pm__law_matched an__law_matched cd__law_matched ct__law_matched),sl__law_matched⟩)
   (c__law_matched:PySem.W.codeIn K cd__law_matched "_law_matched" = true) (k__law_matched:PySem.W.keepIn K (.ref f__law_matched)=true)
   (a_law:PySem.W.nsIn K mainGlobals "law" = some (some (.ref f_law)))
   (l_law:K.lookup f_law=some ⟨oc_law,od_law,.func (PySem.W.fnOf "law" "law" (defArgs s_law) (defBody s_law) (defScope s_law) .none kV_law dc_law pm_law an_law cd_law ct_law),sl_law⟩)
   (c_law:PySem.W.codeIn K cd_law "law" = true) (k_law:PySem.W.keepIn K (.ref f_law)=true)
   (z_enumerate:PySem.W.nsIn K mainGlobals "enumerate" = some none)
   (z_len:PySem.W.nsIn K mainGlobals "len" = some none)
   (z_max:PySem.W.nsIn K mainGlobals "max" = some none)
   (z_min:PySem.W.nsIn K mainGlobals "min" = some none)
   (z_range:PySem.W.nsIn K mainGlobals "range" = some none)
   (z_set:PySem.W.nsIn K mainGlobals "set" = some none)
   (z_sorted:PySem.W.nsIn K mainGlobals "sorted" = some none)
   (z_sum:PySem.W.nsIn K mainGlobals "sum" = some none)
   (z_tuple:PySem.W.nsIn K mainGlobals "tuple" = some none)
   (z_zip:PySem.W.nsIn K mainGlobals "zip" = some none)
   (tb:tabL K=[]) :
   ∃ fd:FuncData,(∀ (s:Shared) (v:Value),BindsTo s fd ⟨[v],[]⟩ [("_law_script",v)]) ∧ ∀ base:Heap,K.In base→base.Ns mainGlobals mg→FnG l.prog w K mg base CX0 36 fa fd ["_law_script"] (spLaw K):=by
 have e:=hfa.symm.trans (PySem.W.mg_of X G a_law)
 cases e
 have F_within:=fun_mk (st:=s_within) l_within c_within k_within
 have b_within_3:=bindV0 (ps:=["jobs","begin","end"]) F_within 3 [] [.pos 0,.pos 1,.pos 2] (fun _ _ _ _ _ _ us ws h1 h2=>match us,h1,ws,h2 with | [_,_,_],_,[],_=>rfl)
 have g_within:=PySem.W.mg_of X G a_within
 have F_excess:=fun_mk (st:=s_excess) l_excess c_excess k_excess
 have b_excess_4:=bindV0 (ps:=["jobs","fires","begin","end"]) F_excess 4 [] [.pos 0,.pos 1,.pos 2,.pos 3] (fun _ _ _ _ _ _ us ws h1 h2=>match us,h1,ws,h2 with | [_,_,_,_],_,[],_=>rfl)
 have g_excess:=PySem.W.mg_of X G a_excess
 have F_stretches:=fun_mk (st:=s_stretches) l_stretches c_stretches k_stretches
 have b_stretches_1:=bindV0 (ps:=["jobs"]) F_stretches 1 [] [.pos 0] (fun _ _ _ _ _ _ us ws h1 h2=>match us,h1,ws,h2 with | [_],_,[],_=>rfl)
 have g_stretches:=PySem.W.mg_of X G a_stretches
 have F_full_stretches:=fun_mk (st:=s_full_stretches) l_full_stretches c_full_stretches k_full_stretches
 have b_full_stretches_2:=bindV0 (ps:=["jobs","fires"]) F_full_stretches 2 [] [.pos 0,.pos 1] (fun _ _ _ _ _ _ us ws h1 h2=>match us,h1,ws,h2 with | [_,_],_,[],_=>rfl)
 have g_full_stretches:=PySem.W.mg_of X G a_full_stretches
 have F_next_minute:=fun_mk (st:=s_next_minute) l_next_minute c_next_minute k_next_minute
 have b_next_minute_3:=bindV0 (ps:=["jobs","left","least"]) F_next_minute 3 [] [.pos 0,.pos 1,.pos 2] (fun _ _ _ _ _ _ us ws h1 h2=>match us,h1,ws,h2 with | [_,_,_],_,[],_=>rfl)
 have g_next_minute:=PySem.W.mg_of X G a_next_minute
 have F_waiting:=fun_mk (st:=s_waiting) l_waiting c_waiting k_waiting
 have b_waiting_3:=bindV0 (ps:=["jobs","left","minute"]) F_waiting 3 [] [.pos 0,.pos 1,.pos 2] (fun _ _ _ _ _ _ us ws h1 h2=>match us,h1,ws,h2 with | [_,_,_],_,[],_=>rfl)
 have g_waiting:=PySem.W.mg_of X G a_waiting
 have F_laid:=fun_mk (st:=s_laid) l_laid c_laid k_laid
 have b_laid_2:=bindV0 (ps:=["jobs","fires"]) F_laid 2 [] [.pos 0,.pos 1] (fun _ _ _ _ _ _ us ws h1 h2=>match us,h1,ws,h2 with | [_,_],_,[],_=>rfl)
 have g_laid:=PySem.W.mg_of X G a_laid
 have F_kitchen:FunD K "kitchen" "kitchen" (defArgs s_kitchen) (defBody s_kitchen) (defScope s_kitchen) [.int 1] [] f_kitchen (PySem.W.fnOf "kitchen" "kitchen" (defArgs s_kitchen) (defBody s_kitchen) (defScope s_kitchen) (.ref T_kitchen) kV_kitchen dc_kitchen pm_kitchen an_kitchen cd_kitchen ct_kitchen) :=
   ⟨⟨oc_kitchen,od_kitchen,_,_,_,_,_,_,_,sl_kitchen,rfl,l_kitchen,c_kitchen,.inr ⟨fun z=>(nomatch z),T_kitchen,_,[.int 1 tk0_kitchen],tn_kitchen,rfl,t_kitchen,rfl,.cons ⟨_,rfl⟩ (.nil)⟩,.inl rfl⟩,k_kitchen⟩
 have b_kitchen_1_fires:=bindVD (ps:=["jobs","fires"]) F_kitchen (fun z=>(nomatch z)) 1 ["fires"] [.pos 0,.kw 0] (fun _ _ _ _ _ _ _ us ws its h1 h2 h3=>match us,h1,ws,h2,its,h3 with | [_],_,[_],_,[_],_=>⟨_,rfl,rfl⟩)
 have g_kitchen:=PySem.W.mg_of X G a_kitchen
 have F__law_coil:=fun_mk (st:=s__law_coil) l__law_coil c__law_coil k__law_coil
 have b__law_coil_1:=bindV0 (ps:=["_law_script"]) F__law_coil 1 [] [.pos 0] (fun _ _ _ _ _ _ us ws h1 h2=>match us,h1,ws,h2 with | [_],_,[],_=>rfl)
 have g__law_coil:=PySem.W.mg_of X G a__law_coil
 have F__law_pull:=fun_mk (st:=s__law_pull) l__law_pull c__law_pull k__law_pull
 have b__law_pull_2:=bindV0 (ps:=["_law_coil_here","_law_many"]) F__law_pull 2 [] [.pos 0,.pos 1] (fun _ _ _ _ _ _ us ws h1 h2=>match us,h1,ws,h2 with | [_,_],_,[],_=>rfl)
 have g__law_pull:=PySem.W.mg_of X G a__law_pull
 have F__law_jobs:=fun_mk (st:=s__law_jobs) l__law_jobs c__law_jobs k__law_jobs
 have b__law_jobs_2:=bindV0 (ps:=["_law_coil_here","_law_many_now"]) F__law_jobs 2 [] [.pos 0,.pos 1] (fun _ _ _ _ _ _ us ws h1 h2=>match us,h1,ws,h2 with | [_,_],_,[],_=>rfl)
 have g__law_jobs:=PySem.W.mg_of X G a__law_jobs
 have F__law_finds:=fun_mk (st:=s__law_finds) l__law_finds c__law_finds k__law_finds
 have b__law_finds_4:=bindV0 (ps:=["_law_part","_law_held","_law_unit","_law_seen"]) F__law_finds 4 [] [.pos 0,.pos 1,.pos 2,.pos 3] (fun _ _ _ _ _ _ us ws h1 h2=>match us,h1,ws,h2 with | [_,_,_,_],_,[],_=>rfl)
 have g__law_finds:=PySem.W.mg_of X G a__law_finds
 have F__law_matched:=fun_mk (st:=s__law_matched) l__law_matched c__law_matched k__law_matched
 have b__law_matched_2:=bindV0 (ps:=["_law_tasks","_law_heat"]) F__law_matched 2 [] [.pos 0,.pos 1] (fun _ _ _ _ _ _ us ws h1 h2=>match us,h1,ws,h2 with | [_,_],_,[],_=>rfl)
 have g__law_matched:=PySem.W.mg_of X G a__law_matched
 have F_law:=fun_mk (st:=s_law) l_law c_law k_law
 have g_law:=PySem.W.mg_of X G a_law
 have m_enumerate:=PySem.W.mg_none_of X G z_enumerate
 have m_len:=PySem.W.mg_none_of X G z_len
 have m_max:=PySem.W.mg_none_of X G z_max
 have m_min:=PySem.W.mg_none_of X G z_min
 have m_range:=PySem.W.mg_none_of X G z_range
 have m_set:=PySem.W.mg_none_of X G z_set
 have m_sorted:=PySem.W.mg_none_of X G z_sorted
 have m_sum:=PySem.W.mg_none_of X G z_sum
 have m_tuple:=PySem.W.mg_none_of X G z_tuple
 have m_zip:=PySem.W.mg_none_of X G z_zip
 refine⟨(PySem.W.fnOf "law" "law" (defArgs s_law) (defBody s_law) (defScope s_law) .none kV_law dc_law pm_law an_law cd_law ct_law),fun s v=>.of_eq rfl,fun base _ _=>?_⟩
 have G_within:=ok_within (P:=l.prog) (w:=w) (mg:=mg) (base:=base) F_within m_sum
 have G_excess:=ok_excess (P:=l.prog) (w:=w) (mg:=mg) (base:=base) F_excess G_within k_within g_within b_within_3
 have G_stretches:=ok_stretches (P:=l.prog) (w:=w) (mg:=mg) (base:=base) F_stretches m_set m_sorted
 have G_full_stretches:=ok_full_stretches (P:=l.prog) (w:=w) (mg:=mg) (base:=base) F_full_stretches G_excess k_excess g_excess G_stretches k_stretches g_stretches b_excess_4 b_stretches_1
 have G_next_minute:=ok_next_minute (P:=l.prog) (w:=w) (mg:=mg) (base:=base) F_next_minute m_max m_min m_zip
 have G_waiting:=ok_waiting (P:=l.prog) (w:=w) (mg:=mg) (base:=base) F_waiting m_enumerate m_sorted
 have G_laid:=ok_laid (P:=l.prog) (w:=w) (mg:=mg) (base:=base) F_laid G_next_minute k_next_minute g_next_minute G_waiting k_waiting g_waiting b_next_minute_3 b_waiting_3 m_min m_sorted m_tuple
 have G_kitchen:=ok_kitchen (P:=l.prog) (w:=w) (mg:=mg) (base:=base) F_kitchen G_full_stretches k_full_stretches g_full_stretches G_laid k_laid g_laid b_full_stretches_2 b_laid_2
 have G__law_coil:=ok__law_coil (P:=l.prog) (w:=w) (mg:=mg) (base:=base) F__law_coil 
 have G__law_pull:=ok__law_pull (P:=l.prog) (w:=w) (mg:=mg) (base:=base) F__law_pull m_len
 have G__law_jobs:=ok__law_jobs (P:=l.prog) (w:=w) (mg:=mg) (base:=base) F__law_jobs G__law_pull k__law_pull g__law_pull b__law_pull_2 m_range m_tuple
 have G__law_finds:=ok__law_finds (P:=l.prog) (w:=w) (mg:=mg) (base:=base) F__law_finds k__law_finds g__law_finds b__law_finds_4 32
 have G__law_matched:=ok__law_matched (P:=l.prog) (w:=w) (mg:=mg) (base:=base) F__law_matched G__law_finds k__law_finds g__law_finds b__law_finds_4 m_len m_range
 have G_law:=ok_law (P:=l.prog) (w:=w) (mg:=mg) (base:=base) F_law G__law_coil k__law_coil g__law_coil G__law_jobs k__law_jobs g__law_jobs G__law_matched k__law_matched g__law_matched G__law_pull k__law_pull g__law_pull G_kitchen k_kitchen g_kitchen b__law_coil_1 b__law_jobs_2 b__law_matched_2 b__law_pull_2 b_kitchen_1_fires m_sum
 exact endV tb law_true G_law
end V59
open PySem PySem.W PyProof.Rows
set_option maxHeartbeats 0 in
theorem PySem.Challenge.cw_tablebills_k59_whole_row_or_full_holds : PySem.Challenge.rw_tablebills_k59_whole_row_or_full.Holds := by
 w_on; o_law; k_head; (case hw=>w_witness2)
 k_fill
 refine TB.walkG (l:=PySem.Challenge.rw_tablebills_k59_whole_row_or_full) (n:=63) (k:=36) (x:="_law_script") (sp:=fun w=>VL.spLaw _) rfl (by decide) rfl (fun w h Y=>PySem.W.kIn_of Y) ⟨rfl,by decide,by decide⟩ ?F (fun _ _ a ns hl hS=>⟨a,ns,rfl,hS,hl,fun _=>rfl⟩)
 case F =>
   intro w mg fa h KX G hmg
   refine' V59.all_mk (w:=w) KX G hmg ?a_within ?l_within ?c_within ?k_within ?a_excess ?l_excess ?c_excess ?k_excess ?a_stretches ?l_stretches ?c_stretches ?k_stretches ?a_full_stretches ?l_full_stretches ?c_full_stretches ?k_full_stretches ?a_next_minute ?l_next_minute ?c_next_minute ?k_next_minute ?a_waiting ?l_waiting ?c_waiting ?k_waiting ?a_laid ?l_laid ?c_laid ?k_laid ?a_kitchen ?l_kitchen ?c_kitchen ?k_kitchen ?t_kitchen ?a__law_coil ?l__law_coil ?c__law_coil ?k__law_coil ?a__law_pull ?l__law_pull ?c__law_pull ?k__law_pull ?a__law_jobs ?l__law_jobs ?c__law_jobs ?k__law_jobs ?a__law_finds ?l__law_finds ?c__law_finds ?k__law_finds ?a__law_matched ?l__law_matched ?c__law_matched ?k__law_matched ?a_law ?l_law ?c_law ?k_law ?z_enumerate ?z_len ?z_max ?z_min ?z_range ?z_set ?z_sorted ?z_sum ?z_tuple ?z_zip ?tb
   (case a_within=>k_is); (case l_within=>k_is); (case c_within=>k_is); (case k_within=>k_is); (case a_excess=>k_is); (case l_excess=>k_is); (case c_excess=>k_is); (case k_excess=>k_is); (case a_stretches=>k_is); (case l_stretches=>k_is); (case c_stretches=>k_is); (case k_stretches=>k_is); (case a_full_stretches=>k_is); (case l_full_stretches=>k_is); (case c_full_stretches=>k_is); (case k_full_stretches=>k_is); (case a_next_minute=>k_is); (case l_next_minute=>k_is); (case c_next_minute=>k_is); (case k_next_minute=>k_is); (case a_waiting=>k_is); (case l_waiting=>k_is); (case c_waiting=>k_is); (case k_waiting=>k_is); (case a_laid=>k_is); (case l_laid=>k_is); (case c_laid=>k_is); (case k_laid=>k_is); (case a_kitchen=>k_is); (case l_kitchen=>k_is); (case c_kitchen=>k_is); (case k_kitchen=>k_is); (case t_kitchen=>k_is); (case a__law_coil=>k_is); (case l__law_coil=>k_is); (case c__law_coil=>k_is); (case k__law_coil=>k_is); (case a__law_pull=>k_is); (case l__law_pull=>k_is); (case c__law_pull=>k_is); (case k__law_pull=>k_is); (case a__law_jobs=>k_is); (case l__law_jobs=>k_is); (case c__law_jobs=>k_is); (case k__law_jobs=>k_is); (case a__law_finds=>k_is); (case l__law_finds=>k_is); (case c__law_finds=>k_is); (case k__law_finds=>k_is); (case a__law_matched=>k_is); (case l__law_matched=>k_is); (case c__law_matched=>k_is); (case k__law_matched=>k_is); (case a_law=>k_is); (case l_law=>k_is); (case c_law=>k_is); (case k_law=>k_is); (case z_enumerate=>k_is); (case z_len=>k_is); (case z_max=>k_is); (case z_min=>k_is); (case z_range=>k_is); (case z_set=>k_is); (case z_sorted=>k_is); (case z_sum=>k_is); (case z_tuple=>k_is); (case z_zip=>k_is); (case tb=>kernel_rfl)
