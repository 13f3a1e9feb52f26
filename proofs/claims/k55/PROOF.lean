import PyProof.Rows.All
import Wide.All
import OpenK.AllK
import Wide.FinOn
import PyProof.EqAt
import PyProof.EqKinds
import PyProof.TupleCall
import PyProof.ReprReads
import KE.KExcInit
import HandS.ForMost
import HandS.ForExc
import HandS.ExcField
import HandS.Flow
import HandS.Style
import PyProof.ReprRoads
import HandS.ExcIs
import KE.KExcIs
import HandS.Defaults
import HandS.Walk
import HandS.IsInst
import HandS.Codes
import HandS.StrMore
import KE.GoesMore
import HandS.CallLocal
import HandS.More
import PyProof.StrOps2
import PySem.Challenge.RW_millhands_k55_courses_and_shelves
import HandS.Replace
import KE.KSortTupG
import KE.KDictSum
import HandS.Iter
import HandS.Dict
import HandS.Conv
import HandS.TupLe
import PyProof.StrLawsChain
import PyProof.Rows.StrItems
import HandS.MakeKwOnly
import HandS.ClsMeth
import HandS.Text
import HandS.Set
import HandS.SetFor
import HandS.SetTxt0
import HandS.Strs
import HandS.SetTxtIn
import HandS.TupAny
import PyProof.ListStr
import PyProof.ListMulRight
import PyProof.AutoIntG3
import PyProof.ReprLen
import HandS.FStr
import HandS.Star
import HandS.ExcValue
import HandS.Property
import KE.KCallOwn
import HandS.OwnEq
import PyProof.InstEq
import PyProof.NeKinds
import PyProof.Rows.TupDisplay
import HandS.Call
import HandS.List
import HandS.GenCall
import HandS.AnyAll
import PyProof.GenCompT
import HandS.GenList
import HandS.IterVal
import KE.KDictIter
import HandS.HeadEnd
import HandS.Head0
import HandS.Head1
import HandS.Head2
import HandS.HeadHook1
import HandS.HeadHook2
import HandS.EndTab
import HandS.Lambda
import KE.SortData
import PyProof.Rows.IntBool
import PyProof.Rows.EqBoolInt
import HandS.TryMany
import HandS.TupMul
set_option Elab.async false
set_option linter.all false
set_option maxRecDepth 100000
set_option maxHeartbeats 0
namespace Mq
open PySem PySem.Spec PyProof.Rows L2

/-! ### defs that are entered where no repr is under way -/
def Still (A : Around) : Prop := A.guards = some []

structure FnG (P : Program) (w : World) (K : PySem.W.Frag) (mg : Str → Option Value)
    (base : Heap) (CX : CXT) (k : Nat) (f : Addr) (fd : FuncData) (ps : List Str) (sp : Sp) : Prop where
  many : ∀ vs H Q E, sp vs H Q E → vs.length = ps.length
  go : ∀ (A : Around) (outer : List Env) (s : Shared) (H : Hp) (args : Args)
    (us : List Value) (vs : List V) (Q : VK) (E : XK), Still A → Room k A →
    Env0 P w K mg base A outer s H → BindsTo s fd args (ps.zip us) → Vals vs us → sp vs H Q E →
    codeAny (model P w) A (.call (.ref f) args) (CR CX outer P w H s Q E) s

theorem FnG.of {P : Program} {w : World} {K : PySem.W.Frag} {mg : Str → Option Value}
    {base : Heap} {CX : CXT} {k : Nat} {f : Addr} {fd : FuncData} {ps : List Str} {sp : Sp}
    (F : FnOk P w K mg base CX k f fd ps sp) : FnG P w K mg base CX k f fd ps sp :=
  ⟨F.len, fun A outer s H args us vs Q E _ => F.run A outer s H args us vs Q E⟩

section
variable {P : Program} {w : World} {K : PySem.W.Frag} {mg : Str → Option Value} {base : Heap}

theorem Fun.okG {CX : CXT} {x qual : Str} {st : Stmt} {f : Addr} {fd : FuncData} {N ps : List Str}
    {k : Nat} {sp : Sp} (F : L2.Fun K x qual st f fd) (S : FnScope N ps (defScope st))
    (many : ∀ vs H Q E, sp vs H Q E → vs.length = ps.length)
    (body : ∀ (cdv : Value) (A : Around) (outer : List Env) (s : Shared) (H : Hp) (vs : List V) (Q : VK) (E : XK),
      Still (A.deeper (envOfC qual (defScope st) s.heap.objs.size f cdv)) →
      Room k (A.deeper (envOfC qual (defScope st) s.heap.objs.size f cdv)) → sp vs H Q E →
      ∃ t, PSs (cxOf CX P w K mg base N qual (defScope st) f cdv A outer s H E) (defBody st) t ∧
        t { nx := fun _ H' => Q .non H', rt := Q } (start N vs) H) :
    FnG P w K mg base CX (k + 1) f fd ps sp := by
  obtain ⟨oc, od, kV, doc, pm, an, cdv, ct, osl, rfl, lk, hcd⟩ := F.ex
  refine ⟨many, fun A outer s H args us vs Q E gA hr e0 hb r h => ?_⟩
  have old : ∀ b o, base.get? b = some o → s.heap.get? b = some o := fun b o e => (e0.bs b o e).1
  have KX := e0.mod.kin.keeps old
  have lim := e0.mod.nolimit.keeps old
  have hlen := many _ _ _ _ h
  have kinds : ∀ y ∈ ps.zip us, (defScope st).names.lookup y.1 = some .local ∨
      ((defScope st).names.lookup y.1 = some .cell ∧
        ((cellsFrom (s.heap.objs.size + 1) (defScope st).names []).lookup y.1).isSome = true) := by
    rintro ⟨n, v⟩ hy
    rcases S.par n (List.of_mem_zip hy).1 with q | q
    · exact Or.inl q
    · exact Or.inr ⟨q, PySem.W.cellsFrom_some _ _ _ (Or.inl q)⟩
  refine codeAny_call_function hr.depth (KX _ _ lk) rfl S.co S.gen rfl
    (PySem.W.codeRec_of KX hcd) (hb _ _ _ _ ?_)
  refine wpAny_newFunctionEnv_cells S.kind kinds (fun env he s1 x => ?_)
  subst he
  refine ⟨lim.keeps x.toInCall.keep, codeAny_func ?_⟩
  obtain ⟨t, ht, hq⟩ := body cdv A outer s H vs Q E gA (hr.deeper _) h
  have I := inv_start (CX := CX) (E := E) S hr.hd e0 hlen r x
  refine wpAny_mono (ht.run [] s1 (start N vs) H _ I hq) (fun fl s' hs => ?_) (fun e s' hs => hs)
  cases fl with
  | ret u =>
    obtain ⟨v, σ', H', J, rv, q⟩ := hs
    exact ⟨v, H', J.os, J.bare, J.base, J.hok, rv, q⟩
  | next =>
    obtain ⟨σ', H', J, q⟩ := hs
    exact ⟨V.non, H', J.os, J.bare, J.base, J.hok, rfl, q⟩
  | brk =>
    obtain ⟨_, _, _, q⟩ := hs
    exact q.elim
  | cont =>
    obtain ⟨_, _, _, q⟩ := hs
    exact q.elim
end

section
variable {X : Cx} {CX : CXT} {k : Nat} {f : Addr} {fd : FuncData} {ps : List Str} {sp : Sp}
  {E : XK} {x : Str} {p pos : Pos} {e : Expr} {es : List Expr} {t : TA}

theorem run_G {pins : List (Addr × Obj)} {σ : L2.St} {H : Hp} {s : Shared} {Q : VK} {us : List Value} {vs : List V}
    (F : FnG X.prog X.w X.K X.mg X.base CX k f fd ps sp) (gA : Still X.A) (hr : Room k X.A)
    (hb : Binds X.K fd ps []) (hx : Passes CX X E) (I : Inv X pins σ H s) (r : Vals vs us) (h : sp vs H Q E) :
    wpAny (model X.prog X.w) X.A (call (.ref f) us) (EP X pins σ Q) X.xe s := by
  have hl : us.length = ps.length := by rw [← r.length]; exact F.many _ _ _ _ h
  have b := hb s us I.kIn (by rw [List.append_nil]; exact hl)
  rw [List.append_nil] at b
  refine wpAny_call (codeAny_mono (F.go X.A X.stack s H ⟨us, []⟩ us vs Q E gA hr I.env0 b r h) (fun r s' hq => ?_))
  match r, hq with
  | .error er, hq => exact hx pins σ H s er s' I hq
  | .ok (.ret u), hq => exact I.after hq
  | .ok .next, hq => exact hq.elim
  | .ok .brk, hq => exact hq.elim
  | .ok .cont, hq => exact hq.elim

/-- f(e, ..) where no repr is under way -/
theorem pe_callG (F : FnG X.prog X.w X.K X.mg X.base CX k f fd ps sp) (gA : Still X.A) (hr : Room k X.A)
    (hg : Gl X x) (hm : X.mg x = some (.ref f)) (hk : PySem.W.keepIn X.K (.ref f) = true)
    (hb : Binds X.K fd ps []) (hx : Passes CX X E) (ha : PA X (e :: es) t)
    (hdb : (x == ("__debug__" : Str)) = false := by decide)
    (he : starEach (e :: es) X.env = (false, eval e X.env) :: starEach es X.env := by rfl)
    (hpl : (backTo pos (starEach es X.env)).any (·.1) = false := by rfl) :
    PE X (.Call (.Name x p) (e :: es) [] pos) (tCall sp [] E t) := by
  refine ⟨fun pins s σ H Q I h => wpAny_Call_Name_kw (ld_glob I hg hm ?_ hdb)⟩
  refine PySem.W.callWith_K (h₀ := X.base) I.ok.mod.kin hk (thn (ha.run pos pins s σ H _ I h) ?_) he hpl
  rintro us s1 ⟨vs, H1, I1, r, q⟩
  rw [List.append_nil] at q
  exact ⟨I1.kIn, run_G F gA hr hb hx I1 r q⟩
end

/-! ### the law's own call -/
theorem law_callG {P : Program} {w : World} {K : PySem.W.Frag} {mg mb : Str → Option Value} {CX : CXT} {k : Nat}
    {fa a : Addr} {fd : FuncData} {x : Str} {sp : Sp} {s₁ : Shared} {vs : List Value} {ns : List Int}
    (KX : K.In s₁.heap) (hns : s₁.heap.Ns mainGlobals mg) (hb : s₁.heap.Ns builtinsNs mb)
    (hbb : ∀ x : Str, x ≠ "__name__" → mb x = bootBuiltins x) (hlim : s₁.heap.NoLimit) (hg : s₁.gens = #[])
    (ha : s₁.heap.get? a = some { cls := .type "list", data := .seq vs.toArray }) (hi : IntsAre vs ns)
    (hl : ns.length ≤ sizeLine) (hr : Room k callerA)
    (F : ∀ base : Heap, K.In base → base.Ns mainGlobals mg → FnG P w K mg base CX k fa fd [x] sp)
    (hbind : ∀ (s : Shared) (u : Value), BindsTo s fd ⟨[u], []⟩ [(x, u)])
    (hsp : ∀ H : Hp, Only H → SqL K H a (ns.map V.int) → sp [.ref a] H (fun v _ => v = .bl true) fun _ _ _ => False)
    (hCX : ∀ H e s', CX [] H s₁ (fun _ _ _ => False) e s' → False) :
    codeAny (model P w) callerA (.call (.ref fa) ⟨[.ref a], []⟩)
      (fun r s' => r = .ok (.ret (.bool true)) ∧ OldK s₁.heap s'.heap ∧ s'.os = s₁.os ∧ AllBare s'.gens) s₁ := by
  have rv := vals_ints hi
  have core : ∀ H : Hp, Only H → SqL K H a (ns.map V.int) → HOk P w H s₁.heap →
      (∀ b, H b ≠ none → b = a) → (H a ≠ none → K.lookup a = none) →
      codeAny (model P w) callerA (.call (.ref fa) ⟨[.ref a], []⟩)
        (fun r s' => r = .ok (.ret (.bool true)) ∧ OldK s₁.heap s'.heap ∧ s'.os = s₁.os ∧ AllBare s'.gens) s₁ := by
    intro H hO hS hok hA hK
    have only : ∀ {b : Addr} {u : HO}, H b = some u → b = a := fun {b u} q => hA b (by rw [q]; exact fun z => by cases z)
    have noD : ∀ {b : Addr} {o : Obj} {es : Array DictEntry} {ep : Nat}, s₁.heap.get? b = some o →
        o.data = .dict es ep → H b = none := by
      intro b o es ep e d
      cases q : H b with
      | none => rfl
      | some u =>
        have e' := only q
        subst e'
        rw [ha] at e
        cases e
        cases d
    have nsK : ∀ {b : Addr} {m : Str → Option Value}, s₁.heap.Ns b m → (hidT s₁.heap H).Ns b m := by
      rintro b m ⟨o, es, ep, e, d, r⟩
      exact ⟨o, es, ep, hidT_get e (noD e d), d, r⟩
    have hKb : K.In (hidT s₁.heap H) := by
      intro b o e
      refine hidT_get (KX b o e) ?_
      cases q : H b with
      | none => rfl
      | some u =>
        have e' := only q
        subst e'
        rw [hK (by rw [q]; exact fun z => by cases z)] at e
        cases e
    obtain ⟨mc, l1, l2⟩ := hlim
    have hM : Mod K mg (hidT s₁.heap H) := ⟨hKb, nsK hns, ⟨mb, nsK hb, hbb⟩, ⟨mc, nsK l1, l2⟩⟩
    have nil : ∀ {b : Addr}, b ∉ ([] : List Addr) := fun h => by cases h
    have e0 : Env0 P w K mg (hidT s₁.heap H) callerA [] s₁ H :=
      ⟨rfl, hM, fun b o e => of_hidT e, Nat.le_of_eq (hidT_size _ _), trivial, fun b hb => (nil hb).elim, hok, .of_eq hg⟩
    refine codeAny_mono ((F _ hKb (nsK hns)).go callerA [] s₁ H ⟨[.ref a], []⟩ [.ref a] [.ref a] _ _ rfl hr e0
      (hbind s₁ (.ref a)) (.cons rfl .nil) (hsp H hO hS)) (fun r s' h => ?_)
    match r, h with
    | .error e, h => exact (hCX H e s' h).elim
    | .ok .next, h => exact h.elim
    | .ok .brk, h => exact h.elim
    | .ok .cont, h => exact h.elim
    | .ok (.ret u), h =>
      obtain ⟨v, H', os, bare, un, hok', r', q⟩ := h
      have q' : v = .bl true := q
      subst q'
      cases (show u = Value.bool true from r')
      refine ⟨rfl, OldK.of_keep (fun b o e => ?_), os, bare⟩
      rcases hO b with z | ⟨ob, xs, z⟩
      · exact un.keep b o e z nil nil
      · obtain ⟨e1, _⟩ := hok b _ z
        obtain ⟨e2, _⟩ := hok' b _ (un.frzs b ob _ z)
        rw [e] at e1
        cases e1
        exact e2
  cases hk : K.lookup a with
  | some o =>
    have e := KX a o hk
    rw [ha] at e
    cases e
    refine core (fun _ => none) (fun _ => Or.inl rfl) (Or.inr ⟨_, vs.toArray, _, hk, rfl, rfl, rfl, ?_, by simpa using rv⟩)
      (fun b u z => by cases (show (none : Option HO) = some u from z)) (fun b z => (z rfl).elim) (fun z => (z rfl).elim)
    rw [List.size_toArray, hi.length]
    exact hl
  | none =>
    let o0 : Obj := { cls := .type "list", data := .seq vs.toArray }
    refine core (fun b => if b = a then some (.frz o0 (.lst (ns.map V.int))) else none) (fun b => ?_)
      (Or.inl (Or.inr ⟨o0, if_pos rfl⟩)) (fun b u z => ?_) (fun b z => ?_) (fun _ => hk)
    · by_cases hb : b = a
      · exact Or.inr ⟨_, _, if_pos hb⟩
      · exact Or.inl (if_neg hb)
    · by_cases hb : b = a
      · cases (if_pos hb).symm.trans z
        subst hb
        exact ⟨ha, by rw [List.length_map]; exact hl, vs, _, rv, ha⟩
      · cases (if_neg hb).symm.trans z
    · by_cases hb : b = a
      · exact hb
      · exact (z (if_neg hb)).elim

theorem walk_ofG {l : PySem.W.OpenLaw} {n k : Nat} {q : Program} {loose : List Str}
    {XP : (Str → Option Value) → Heap → Prop} {YP : World → Heap → Prop} {d : DefRec}
    {K : Params → PySem.W.Frag} {CX : World → CXT} {sp : World → Sp} {x : Str}
    (hn : l.most = some n) (hn2 : n ≤ sizeLine) (hdf : d.params.defaults = []) (hr : Room k callerA)
    (hY : ∀ (w : World) (h : Heap), YP w h → (K w.params).In h)
    (F : ∀ (w : World) (mg : Str → Option Value) (fa : Addr) (h : Heap), (K w.params).In h →
      h.Ns mainGlobals mg → mg d.name = some (.ref fa) →
      ∃ fd : FuncData, (∀ (s : Shared) (u : Value), BindsTo s fd ⟨[u], []⟩ [(x, u)]) ∧
        ∀ base : Heap, (K w.params).In base → base.Ns mainGlobals mg →
          FnG l.prog w (K w.params) mg base (CX w) k fa fd [x] (sp w))
    (hsp : ∀ (w : World) (H : Hp) (a : Addr) (ns : List Int), ns.length ≤ n → Only H →
      SqL (K w.params) H a (ns.map V.int) → sp w [.ref a] H (fun v _ => v = .bl true) fun _ _ _ => False)
    (hCX : ∀ (w : World) (H : Hp) (s : Shared) (e : Value) (s' : Shared), CX w [] H s (fun _ _ _ => False) e s' → False) :
    PySem.W.WalkO q loose XP YP l.row.toRowW d [] (fun f vs => PySem.call f vs) := by
  refine Att.attach_call hn hdf ?_
  intro w s₀ s₁ mg mb fa o pm cd doc a vs ns G Y ho hd hcd hmg hobj hints hlen hg
  obtain ⟨fd, hb, hF⟩ := F w mg fa _ (hY w _ Y) G.T.g hmg
  exact law_callG (hY w _ Y) G.T.g G.T.b G.T.builtins G.T.nolimit hg hobj hints (Nat.le_trans hlen hn2) hr hF hb
    (fun H hO hS => hsp w H a ns hlen hO hS) (fun H e s' => hCX w H s₁ e s')
end Mq

namespace Mq
open PySem PySem.Spec PyProof.Rows L2

/-! ### repr of data, dicts among them -/
def keyD : Key → PyData
  | .inl i => .int i
  | .inr x => .str x
mutual
inductive Dg (K : PySem.W.Frag) (H : Hp) : V → PyData → Prop
  | non : Dg K H .non .none
  | bl (b : Bool) : Dg K H (.bl b) (.bool b)
  | int (i : Int) : Dg K H (.int i) (.int i)
  | str (x : Str) : Dg K H (.str x) (.str x)
  | lst {a : Addr} {xs : List V} {ds : List PyData} : a ≠ sysModules → SqL K H a xs → DgAll K H xs ds → Dg K H (.ref a) (.list ds)
  | tup {a : Addr} {xs : List V} {ds : List PyData} : SqT K H a xs → DgAll K H xs ds → Dg K H (.ref a) (.tuple ds)
  | dct {a : Addr} {kvs : List (Key × V)} {ds : List (PyData × PyData)} : H a = some (.dK kvs) → DgKv K H kvs ds → Dg K H (.ref a) (.dict ds)
inductive DgAll (K : PySem.W.Frag) (H : Hp) : List V → List PyData → Prop
  | nil : DgAll K H [] []
  | cons {v : V} {vs : List V} {d : PyData} {ds : List PyData} : Dg K H v d → DgAll K H vs ds → DgAll K H (v :: vs) (d :: ds)
inductive DgKv (K : PySem.W.Frag) (H : Hp) : List (Key × V) → List (PyData × PyData) → Prop
  | nil : DgKv K H [] []
  | cons {k : Key} {v : V} {vs : List (Key × V)} {d : PyData} {ds : List (PyData × PyData)} : Dg K H v d → DgKv K H vs ds → DgKv K H ((k, v) :: vs) ((keyD k, d) :: ds)
end
section
variable {X : Cx} {pins : List (Addr × Obj)} {σ : L2.St} {H : Hp} {s : Shared}
theorem reads_key {h : Heap} {k : Key} {u : Value} (e : keyIs k u = true) : Reads h u (keyD k) [] := by
  rcases keyIs_shape e with ⟨i, t, rfl, rfl⟩ | ⟨x, t, rfl, rfl⟩
  · exact Reads.int i t
  · exact Reads.str x t
mutual
theorem Dg.rd (I : Inv X pins σ H s) : ∀ {d : PyData} {v : V} {u : Value}, Dg X.K H v d → RelV v u →
    ∃ as, Reads s.heap u d as ∧ sysModules ∉ as
  | _, _, _, .non, r => by cases r; exact ⟨[], .none, fun h => by cases h⟩
  | _, _, _, .bl b, r => by cases r; exact ⟨[], .bool b, fun h => by cases h⟩
  | _, _, _, .int i, r => by obtain ⟨t, rfl⟩ := r; exact ⟨[], .int i t, fun h => by cases h⟩
  | _, _, _, .str x, r => by obtain ⟨t, rfl⟩ := r; exact ⟨[], .str x t, fun h => by cases h⟩
  | _, _, _, .lst ne hs ha, r => by
    cases r
    obtain ⟨its, rv, ⟨o, n, ho, hc, _, hd⟩, _⟩ := I.list hs
    obtain ⟨as, hr, hn⟩ := DgAll.rd I ha rv
    refine ⟨_, Reads.list ho hc hd hr, fun hm => ?_⟩
    rcases List.mem_cons.mp hm with e | e
    · exact ne e.symm
    · exact hn e
  | _, _, _, .tup hs ha, r => by
    cases r
    obtain ⟨its, rv, ⟨o, ho, hc, n, hd⟩, _⟩ := I.tuple hs
    obtain ⟨as, hr, hn⟩ := DgAll.rd I ha rv
    exact ⟨_, Reads.tuple ho hc hd hr, hn⟩
  | _, _, _, .dct (a := a) hs ha, r => by
    cases r
    obtain ⟨_, ns, us, rk, o, es, ep, ho, hx, hd, _, hp, _⟩ := I.hok a _ hs
    obtain ⟨as, bs, r1, r2, n1, n2⟩ := DgKv.rd I ha rk hp
    refine ⟨_, Reads.dict ho hx.1 hd r1 r2, fun hm => ?_⟩
    rcases List.mem_append.mp hm with hm | hm
    · rcases List.mem_cons.mp hm with e | e
      · rw [← e] at ns
        simp at ns
      · exact n1 e
    · exact n2 hm
theorem DgAll.rd (I : Inv X pins σ H s) : ∀ {ds : List PyData} {vs : List V} {us : List Value}, DgAll X.K H vs ds → Vals vs us →
    ∃ as, ReadsAll s.heap us ds as ∧ sysModules ∉ as
  | _, _, _, .nil, r => by cases r; exact ⟨[], .nil, fun h => by cases h⟩
  | _, _, _, .cons h1 h2, r => by
    cases r with
    | cons r1 r2 =>
      obtain ⟨as, q1, n1⟩ := Dg.rd I h1 r1
      obtain ⟨bs, q2, n2⟩ := DgAll.rd I h2 r2
      exact ⟨_, ReadsAll.cons q1 q2, fun hm => (List.mem_append.mp hm).elim n1 n2⟩
theorem DgKv.rd (I : Inv X pins σ H s) : ∀ {ds : List (PyData × PyData)} {vs : List (Key × V)} {us : List (Key × Value)} {es : List DictEntry}, DgKv X.K H vs ds → KV vs us →
    Pairs (mixKind X.prog X.w) es us →
    ∃ as bs, ReadsAll s.heap (es.map (·.key)) (ds.map (·.1)) as ∧ ReadsAll s.heap (es.map (·.val)) (ds.map (·.2)) bs ∧ sysModules ∉ as ∧ sysModules ∉ bs
  | _, _, _, _, .nil, r, p => by
    cases r
    cases p
    exact ⟨[], [], ReadsAll.nil, ReadsAll.nil, (fun h => by cases h), (fun h => by cases h)⟩
  | _, _, _, _, .cons h1 h2, r, p => by
    cases r with
    | cons r1 r2 =>
      cases p with
      | cons p3 p4 p2 =>
        obtain ⟨e1, e2⟩ := r1
        obtain ⟨as, q1, n1⟩ := Dg.rd I h1 e2
        obtain ⟨bs, cs, q2, q3, n2, n3⟩ := DgKv.rd I h2 r2 p2
        rw [← p4] at q1
        have p3' := p3
        rw [← e1] at p3'
        exact ⟨_, _, ReadsAll.cons (reads_key p3') q2, ReadsAll.cons q1 q3, fun hm => (List.mem_append.mp hm).elim (fun z => by cases z) n2,
          fun hm => (List.mem_append.mp hm).elim n1 n3⟩
end
/-- repr(v), v data -/
def rRep (K : PySem.W.Frag) : List V → Hp → VK → Prop := fun xs H Q => ∃ v d, xs = [v] ∧ Dg K H v d ∧ d.showable = true ∧
  d.depth ≤ 40 ∧ d.shown.length ≤ sizeLine ∧ Q (.str d.shown) H
theorem call_rep {k : Nat} (hr : Room k X.A) (gA : Still X.A) : CallR X (.builtin "repr") (rRep X.K) := by
  intro pins s σ H xs us Q I r h
  obtain ⟨v, d, rfl, hd, hs, hz, hl, q⟩ := h
  cases r with
  | cons rx rr =>
    cases rr
    have hu := hr.units
    obtain ⟨as, rd, hn⟩ := Dg.rd I hd rx
    have leaf : ∀ {d : PyData} {t : Tok}, Q (.str d.shown) H → EP X pins σ Q (.str d.shown t) { s with toks := s.toks + 1 } :=
      fun {d t} q => ⟨.str d.shown, H, I.tok _, ⟨_, rfl⟩, q⟩
    cases hd with
    | non =>
      cases rx
      exact PySem.P.repr_of_none (leaf (d := .none) q)
    | bl b =>
      cases rx
      exact PySem.P.repr_of_bool (leaf (d := .bool b) q)
    | int i =>
      obtain ⟨t, rfl⟩ := rx
      exact PySem.P.repr_of_int (by simpa [PyData.showable] using hs) (leaf (d := .int i) q)
    | str x =>
      obtain ⟨t, rfl⟩ := rx
      refine PySem.P.repr_of_str (leaf (d := .str x) q) ?_
      simpa only [PyData.shown] using hl
    | lst ne h1 h2 =>
      cases rx
      exact repr_of_reads' rd hs (fun _ => hn) gA (by omega) (fun _ _ e => e) (fun h' u tk k => ⟨.str _, H, I.kept k, ⟨_, rfl⟩, q⟩) hl
    | tup h1 h2 =>
      cases rx
      exact repr_of_reads' rd hs (fun _ => hn) gA (by omega) (fun _ _ e => e) (fun h' u tk k => ⟨.str _, H, I.kept k, ⟨_, rfl⟩, q⟩) hl
    | dct h1 h2 =>
      cases rx
      exact repr_of_reads' rd hs (fun _ => hn) gA (by omega) (fun _ _ e => e) (fun h' u tk k => ⟨.str _, H, I.kept k, ⟨_, rfl⟩, q⟩) hl
/-- no new object stands where the modules stand -/
theorem Inv.low (I : Inv X pins σ H s) : sysModules < s.heap.objs.size := by
  have h1 := I.mod.glob.lt
  have h2 := I.ok.bsz
  have h3 := I.sz
  have h4 : sysModules < mainGlobals := by decide
  exact Nat.lt_of_lt_of_le (Nat.lt_trans h4 h1) (Nat.le_trans h2 h3)
/-- a list display, told to stand elsewhere than the modules -/
def tLs (t : TA) : TE := fun σ H Q => t σ H fun xs H1 => xs.length ≤ sizeLine ∧ ∀ p, H1 p = none → p ≠ sysModules → Q (.ref p) (upd H1 p (.lst xs))
theorem pe_ls {es : List Expr} {t : TA} {pos : Pos} (h : PA X es t) : PE X (.List es pos) (tLs t) := by
  refine ⟨fun pins s σ H Q I hq => wpAny_List_spliced (thn (h.run pos pins s σ H _ I hq) ?_)⟩
  rintro us s1 ⟨xs, H1, I1, r, z, q⟩
  have hz : us.length ≤ sizeLine := by rw [← r.length]; exact z
  have nw : H1 s1.heap.objs.size = none := I1.hok.fresh (Nat.le_refl _)
  refine ⟨hz, .ref s1.heap.objs.size, upd H1 s1.heap.objs.size (.lst xs), ?_, rfl, q _ nw (Nat.ne_of_gt (Inv.low I1))⟩
  exact I1.laid (t' := s1.toks) (fun b u e => Heap.get?_push_of_some _ e) (Nat.le_refl _) ⟨z, us, 0, r, Heap.get?_push_size _ rfl⟩
end
end Mq

namespace Mq
open PySem PySem.Spec PyProof.Rows L2
open PySem.W (Frag)
open PySem.Builtin.ObjectAttr
/-! ### own errors over Exception, with one field -/
abbrev exTail : List Value := [.type "Exception", .type "BaseException", .type "object"]
section
variable {prog : Program} {w : World} {A : Around} {E : Value → Shared → Prop} {R : Result → Shared → Prop}
  {hp : Heap} {g : Array GenState} {d : Drawn} {t : Nat} {os : OsState} {K : Frag}
theorem osa_first {name : Str} {tk : Tok} {v : Value} {x C t1 : Addr} (X : K.In hp)
    (hx : hp.get? x = some (PySem.W.excObj C t1 none .none)) (ho : PySem.W.excOver K C exTail = true)
    (hh : PySem.W.hasDictIn K C = true) (ht : PySem.W.takerIn K C name = some none)
    (hq : ∀ h' tk' dx, (∀ b o, b ≠ x → hp.get? b = some o → h'.get? b = some o) → hp.objs.size ≤ dx → dx ≠ x →
      h'.get? x = some (PySem.W.excObj C t1 (some dx) .none) → h'.Ns1 dx (fun y => if y = name then some v else none) →
      R (.ok (.ret .none)) ⟨h', g, d, tk', os⟩) :
    codeAny (model prog w) A (.call (.builtin "object.__setattr__") ⟨[.ref x, .str name tk, v], []⟩) R ⟨hp, g, d, t, os⟩ := by
  refine PySem.W.osa_openX (od := none) (s := ⟨hp, g, d, t, os⟩) F.store_Exception X ⟨hx, rfl, rfl, trivial⟩ ho ht (fun b => ?_)
  obtain ⟨cd, hc, hd'⟩ := PySem.W.any_some hh
  refine wpAny_bind (wpAny_pure (wpAny_bind (PySem.W.instanceDict_exc hx (PySem.W.looks_clsIn X hc) hd' ?_)))
  show wpAny _ _ (storeInDict hp.objs.size (.str name tk) name v) _ _ _
  have hxs : x ≠ hp.objs.size := Nat.ne_of_lt (Heap.lt_size hx)
  have hx1 : (hp.push (PySem.W.dictOf [] 0)).get? x = some (PySem.W.excObj C t1 none .none) := Heap.get?_push_of_some _ hx
  refine PySem.HandSPX.store_in_new ?_ ?_
  · exact ⟨_, #[], _, (Heap.get?_update_ne _ _ _ _ hxs.symm).trans (Heap.get?_push_at rfl rfl), rfl, (fun e he => absurd he (by simp)), fun _ => rfl⟩
  · intro h' tk' hn' hs
    refine hq h' tk' hp.objs.size (fun b o hb ho => ?_) (Nat.le_refl _) hxs.symm ?_ hn'
    · exact (hs.2 b (Nat.ne_of_lt (Heap.lt_size ho))).trans ((Heap.get?_update_ne _ _ _ _ hb).trans (Heap.get?_push_of_some _ ho))
    · exact (hs.2 x hxs).trans (Heap.get?_update_self _ hx1 rfl)
end
end Mq

namespace Mq
open PySem PySem.Spec PyProof.Rows L2
/-! ### the error that a suite holds: its class, its field -/
/-- what the class at D says, so that isinstance asks its errors rightly -/
structure HeldC (K : PySem.W.Frag) (D : Addr) : Prop where
  cl : (PySem.W.clsIn K D).isSome = true
  ga : PySem.W.findIn K (.ref D) "__getattribute__" = some (some (.builtin "BaseException.__getattribute__"))
  gg : PySem.W.findIn K (.ref D) "__getattr__" = some none
  sb : PySem.W.subIn K (.ref D) (.type "BaseException") = some true
  ca : PySem.W.findIn K (.ref D) "__class__" = some (some (.builtin "object.__class__"))
  sp : PySem.W.specialIn K (.builtin "object.__class__") "__get__" = some (some (.builtin "getset_descriptor.__get__"))
  tk : PySem.W.takesIn K (.builtin "object.__class__") = some true
  mo : PySem.W.mroIn K D (.type "object") = some true
/-- isinstance(e, c), e the error at a -/
def rHeld (K : PySem.W.Frag) (D a : Addr) (d : Option Addr) : List V → Hp → VK → Prop := fun xs H Q => ∃ (dd c : Addr) (fs : List (Str × V)) (b : Bool),
  xs = [.ref a, .ref c] ∧ d = some dd ∧ H dd = some (.xd fs) ∧ PySem.W.kitOne K (.ref D) (.ref c) = some b ∧ Q (.bl b) H
theorem call_held {X : Cx} {a D : Addr} {oe : Obj} {d : Option Addr} {pn : List (Addr × Obj)} (C : HeldC X.K D) (hz : Zc (.ref D) d oe)
    (hf : ∃ vs, oe.data = .fields vs) : CallR (X.suite a ((a, oe) :: pn)) (.builtin "isinstance") (rHeld X.K D a d) := by
  intro pins s σ H xs us Q I r h
  obtain ⟨dd, c, fs, b, rfl, rfl, hd, e, q⟩ := h
  cases r with
  | cons rx rr =>
    cases rr with
    | cons rt rr =>
      cases rr
      cases rx
      cases rt
      obtain ⟨hget, _⟩ := I.pin (a, oe) (List.mem_append.mpr (Or.inl List.mem_cons_self))
      obtain ⟨vs, hv⟩ := hf
      obtain ⟨mA, ⟨od, es, ep, ho, _⟩, _⟩ := (show ObjOk X.prog X.w H s.heap dd (.xd fs) from I.hok dd _ hd)
      have J : PySem.W.InstAt s.heap a oe D (some od) := by
        refine ⟨hget, hz.1, ?_, ?_⟩
        · unfold PySem.W.notCls
          rw [hv]
        · rw [hz.2]
          exact ho
      refine PySem.W.kia_one (PySem.W.kitx_exc C.cl C.ga C.gg C.sb C.ca C.sp C.tk C.mo) I.kIn J e (fun z => by cases z) (fun tk => ?_)
      exact ⟨.bl b, H, I.kept (t' := tk) (fun _ _ z => z), rfl, q⟩
/-! ### methods that raise, called within a try -/
section
variable {X : Cx} {CX : CXT} {k : Nat} {f C : Addr} {fd : FuncData} {ps : List Str} {sp : Sp}
  {E : L2.St → XK} {m : Str} {pos apos : Pos} {e o : Expr} {es : List Expr} {kws : List Keyword} {ta : TE} {t tk : TA}
def tMethT (C : Addr) (m : Str) (sp : Sp) (E : L2.St → XK) (ta : TE) (t : TA) : TE := fun σ H Q => ta σ H fun x H1 => ∃ a dx fs,
  x = .ref a ∧ H1 a = some (.ins C dx fs) ∧ fs.lookup m = none ∧ t σ H1 fun vs H2 => sp (x :: vs) H2 Q (E σ)
theorem pe_methT {pl : Sem Bool} (he : PE X o ta) (c : Cls X.K C) (hm : Meth X.K C m f)
    (F : FnOk X.prog X.w X.K X.mg X.base CX k f fd ps sp) (hr : Room k X.A) (hb : Binds X.K fd ps [])
    (hx : ∀ σ, PassesAt CX X σ (E σ)) (ha : PA X (e :: es) t)
    (hst : starEach (e :: es) X.env = (false, eval e X.env) :: starEach es X.env := by rfl)
    (hpl : (backTo pos (starEach es X.env)).any (·.1) = false := by rfl)
    (ht : eval (.Call (.Attribute o m apos) (e :: es) [] pos) X.env = (do
      let ov ← eval o X.env
      standAt apos.atName
      let (f, first) ← holding [ov] (getMethod ov m pl)
      callWith pos f first (backTo pos (starEach (e :: es) X.env)) (backToKw pos (keywordEach [] X.env))) := by rfl) :
    PE X (.Call (.Attribute o m apos) (e :: es) [] pos) (tMethT C m sp E ta t) := by
  refine ⟨fun pins s σ H Q I h => PySem.W.methodCall_KW (pl := pl) (thn (he.run pins s σ H _ I h) ?_) ht⟩
  rintro u s1 ⟨x, H1, I1, rx, a, dx, fs, rfl, ea, l, q⟩
  cases rx
  refine getmeth_ok I1 ea c hm l ?_
  refine PySem.W.callWith_K (first := [.ref a]) (h₀ := X.base) I.ok.mod.kin hm.kp (thn (ha.run pos pins s1 σ H1 _ I1 q) ?_) hst hpl
  rintro us s2 ⟨vs, H2, I2, r, q2⟩
  exact ⟨I2.kIn, run_fnS (us := .ref a :: us) (vs := .ref a :: vs) F hr hb (hx σ) I2 (.cons rfl r) q2⟩
end
end Mq
namespace Mq
open PySem PySem.Spec PyProof.Rows L2
section
variable {X : Cx} {CX : CXT} {k : Nat} {f C : Addr} {fd : FuncData} {ps ks : List Str} {sp : Sp}
  {E : L2.St → XK} {m : Str} {pos apos : Pos} {o : Expr} {kws : List Keyword} {ta : TE} {tk : TA}
  {g : List Value → List Value → List Value} {gV : List V → List V → List V}
def tMethK (C : Addr) (m : Str) (many : Nat) (sp : Sp) (gV : List V → List V → List V) (E : L2.St → XK) (ta : TE) (tk : TA) : TE := fun σ H Q => ta σ H fun x H1 => ∃ a dx fs,
  x = .ref a ∧ H1 a = some (.ins C dx fs) ∧ fs.lookup m = none ∧ tk σ H1 fun zs H2 => zs.length = many ∧ sp (gV [x] zs) H2 Q (E σ)
/-- o.m(k = v, ..), what is raised being wished for at the slots as they stand -/
theorem pe_methK {pl : Sem Bool} (he : PE X o ta) (c : Cls X.K C) (hm : Meth X.K C m f)
    (F : FnOk X.prog X.w X.K X.mg X.base CX k f fd ps sp) (hr : Room k X.A) (hb : KBn X.K fd ps 1 ks g gV)
    (hx : ∀ σ, PassesAt CX X σ (E σ)) (hkw : PK X kws tk)
    (hall : (backToKw pos (keywordEach kws X.env)).all (·.1.isSome) = true := by rfl)
    (hks : (backToKw pos (keywordEach kws X.env)).filterMap (·.1) = ks := by rfl)
    (hpl : ((backTo pos (starEach [] X.env)).any (·.1) || (backToKw pos (keywordEach kws X.env)).any (·.1.isNone)) = false := by rfl)
    (ht : eval (.Call (.Attribute o m apos) [] kws pos) X.env = (do
      let ov ← eval o X.env
      standAt apos.atName
      let (f, first) ← holding [ov] (getMethod ov m pl)
      callWith pos f first (backTo pos (starEach [] X.env)) (backToKw pos (keywordEach kws X.env))) := by rfl) :
    PE X (.Call (.Attribute o m apos) [] kws pos) (tMethK C m ks.length sp gV E ta tk) := by
  refine ⟨fun pins s σ H Q I h => PySem.W.methodCall_KW (pl := pl) (thn (he.run pins s σ H _ I h) ?_) ht⟩
  rintro u s1 ⟨x, H1, I1, rx, a, dx, fs, rfl, ea, l, q⟩
  cases rx
  refine getmeth_ok I1 ea c hm l ?_
  refine PySem.W.callWith_KW0 (first := [.ref a]) (h₀ := X.base) I.ok.mod.kin hm.kp hall (thn (hkw.run pos pins s1 σ H1 _ I1 q) ?_) hpl
  rintro ws s2 ⟨zs, H2, I2, rz, hl, q2⟩
  refine ⟨I2.kIn, ?_⟩
  rw [hks]
  have r1 : Vals [V.ref a] [Value.ref a] := .cons rfl .nil
  have r2 := hb.rel r1 rz
  have lw : ws.length = ks.length := rz.length.symm.trans hl
  show wpAny _ _ (call (.ref f) [.ref a] (ks.zip ws)) _ _ _
  refine wpAny_call (codeAny_mono (F.run X.A X.stack s2 H2 ⟨[.ref a], ks.zip ws⟩ (g [.ref a] ws) (gV [.ref a] zs) Q (E σ) hr I2.env0
    (hb.to s2 [.ref a] ws I2.kIn rfl lw) r2 q2) (fun r s' hq => ?_))
  match r, hq with
  | .error er, hq => exact hx σ pins H2 s2 er s' I2 hq
  | .ok (.ret u), hq => exact I2.after hq
  | .ok .next, hq => exact hq.elim
  | .ok .brk, hq => exact hq.elim
  | .ok .cont, hq => exact hq.elim
end
end Mq

namespace Mq
open PySem PySem.Spec PyProof.Rows L2
open SX (S)
/-! ### what the module leaves of the built-in names -/
structure Blt (mg : Str → Option Value) : Prop where
  len : mg "len" = none
  range : mg "range" = none
  isi : mg "isinstance" = none
  all : mg "all" = none
  any : mg "any" = none
  int : mg "int" = none
  str : mg "str" = none
  bool : mg "bool" = none
  tuple : mg "tuple" = none
  list : mg "list" = none
  repr : mg "repr" = none
  enumerate : mg "enumerate" = none
/-! ### heaps that keep what was told -/
theorem same_new {H : Hp} {p : Addr} {o : HO} (h : H p = none) : Same H (upd H p o) := fun b u e => by
  rw [upd_ne (ne_of_none e h)]
  exact e
theorem Same.tup {K : PySem.W.Frag} {H H' : Hp} {a : Addr} {xs : List V} (e : Same H H') (h : SqT K H a xs) : SqT K H' a xs := by
  rcases h with (h | ⟨o, h⟩) | h
  · exact Or.inl (Or.inl (e _ _ h))
  · exact Or.inl (Or.inr ⟨o, e _ _ h⟩)
  · exact Or.inr h
mutual
theorem Dg.same {K : PySem.W.Frag} {H H' : Hp} (e : Same H H') : ∀ {v : V} {d : PyData}, Dg K H v d → Dg K H' v d
  | _, _, .non => .non
  | _, _, .bl b => .bl b
  | _, _, .int i => .int i
  | _, _, .str x => .str x
  | _, _, .lst n h a => .lst n (e.seq h) (DgAll.same e a)
  | _, _, .tup h a => .tup (Same.tup e h) (DgAll.same e a)
  | _, _, .dct h a => .dct (e _ _ h) (DgKv.same e a)
theorem DgAll.same {K : PySem.W.Frag} {H H' : Hp} (e : Same H H') : ∀ {v : List V} {d : List PyData}, DgAll K H v d → DgAll K H' v d
  | _, _, .nil => .nil
  | _, _, .cons a b => .cons (Dg.same e a) (DgAll.same e b)
theorem DgKv.same {K : PySem.W.Frag} {H H' : Hp} (e : Same H H') : ∀ {v : List (Key × V)} {d : List (PyData × PyData)}, DgKv K H v d → DgKv K H' v d
  | _, _, .nil => .nil
  | _, _, .cons a b => .cons (Dg.same e a) (DgKv.same e b)
end
mutual
theorem Dp.same {K : PySem.W.Frag} {H H' : Hp} (e : Same H H') : ∀ {v : V} {d : PyData}, Dp K H v d → Dp K H' v d
  | _, _, .non => .non
  | _, _, .bl b => .bl b
  | _, _, .int i => .int i
  | _, _, .str x => .str x
  | _, _, .lst h a => .lst (e.seq h) (DpAll.same e a)
  | _, _, .tup h a => .tup (Same.tup e h) (DpAll.same e a)
theorem DpAll.same {K : PySem.W.Frag} {H H' : Hp} (e : Same H H') : ∀ {v : List V} {d : List PyData}, DpAll K H v d → DpAll K H' v d
  | _, _, .nil => .nil
  | _, _, .cons a b => .cons (Dp.same e a) (DpAll.same e b)
end
/-! ### the kind of a value -/
def kindOf : PyData → String
  | .none => "NoneType"
  | .bool _ => "bool"
  | .int _ => "int"
  | .str _ => "str"
  | .list _ => "list"
  | .tuple _ => "tuple"
  | .dict _ => "dict"
theorem ty_list {K : PySem.W.Frag} {H : Hp} {a : Addr} {xs : List V} (h : SqL K H a xs) : TyX K H (.ref a) (.type "list") := by
  rcases h with (h | ⟨o, h⟩) | ⟨o, its, n, h, hc, _⟩
  · exact .base (.lst h)
  · exact .base (.frz h)
  · exact .kList h hc
theorem ty_tup {K : PySem.W.Frag} {H : Hp} {a : Addr} {xs : List V} (h : SqT K H a xs) : TyX K H (.ref a) (.type "tuple") := by
  rcases h with (h | ⟨o, h⟩) | ⟨o, its, n, h, hc, _⟩
  · exact .base (.tup h)
  · exact .fTuple h
  · exact .kTuple h hc
theorem Dg.ty {K : PySem.W.Frag} {H : Hp} {v : V} {d : PyData} (h : Dg K H v d) : TyX K H v (.type (kindOf d)) := by
  cases h with
  | non => exact .base .non
  | bl b => exact .base (.bl b)
  | int i => exact .base (.int i)
  | str x => exact .base (.str x)
  | lst _ h _ => exact ty_list h
  | tup h _ => exact ty_tup h
  | dct h _ => exact .base (.dK h)
theorem Dp.ty {K : PySem.W.Frag} {H : Hp} {v : V} {d : PyData} (h : Dp K H v d) : TyX K H v (.type (kindOf d)) := by
  cases h with
  | non => exact .base .non
  | bl b => exact .base (.bl b)
  | int i => exact .base (.int i)
  | str x => exact .base (.str x)
  | lst h _ => exact ty_list h
  | tup h _ => exact ty_tup h
/-- isinstance(x, T), T a built-in class -/
theorem isi_ty {K : PySem.W.Frag} {x : V} {a b : String} {r : Bool} {H : Hp} {Q : VK} (h : TyX K H x (.type a)) (e : kitB a b = some r) (q : Q (.bl r) H) :
    rIsi K [x, .ty b] H Q := ⟨x, .ty b, _, _, r, rfl, .ty b, h, kit_ty e, q⟩
theorem kit_known (a b : String) (ha : a ∈ ["NoneType", "bool", "int", "str", "list", "tuple", "dict"]) (hb : b ∈ ["str", "tuple", "list", "bool", "dict"]) :
    kitB a b = some (decide (a = b)) := by
  have h : (["NoneType", "bool", "int", "str", "list", "tuple", "dict"].all fun a => ["str", "tuple", "list", "bool", "dict"].all fun b =>
      decide (kitB a b = some (decide (a = b)))) = true := by decide +kernel
  have h1 := List.all_eq_true.mp h a ha
  have h2 := List.all_eq_true.mp h1 b hb
  exact of_decide_eq_true h2
theorem kind_in (d : PyData) : kindOf d ∈ ["NoneType", "bool", "int", "str", "list", "tuple", "dict"] := by
  cases d <;> simp [kindOf]
/-! ### comprehensions whose turns change nothing -/
theorem walk_rng {n : Nat} : Walk (Itr 0 n) n (fun _ => True) (YFn fun i => .int (i : Nat)) :=
  walk_range.mono (fun _ h => h) (fun i H x H' _ _ y => ⟨y.1, by rw [y.2]; show V.int (0 + (i : Int)) = V.int (i : Int); rw [Int.zero_add]⟩)
theorem lc_map {wi : TI} {J : It} {n : Nat} {G : Hp → Prop} {Y : Nat → Hp → V → Hp → Prop} (w : Walk J n G Y) {g : TG} {te : TE} {vs : List Nat} {σ : L2.St} {H0 : Hp} {Q : VK}
    (f : Nat → V) (hn : n ≤ 1000000) (hw : ∀ R : It → Hp → Prop, (∀ H, Same H0 H → G H → R J H) → wi σ H0 R) (hG : ∀ H H', Same H0 H → G H → Same H H' → G H')
    (hs : ∀ i x H H' (R : V → Hp → Prop), i < n → Same H0 H → Y i H x H' → (∀ H4, Same H H4 → R (f i) H4) →
      g x (wipe σ vs) H' fun σ2 H2 => wipe σ2 vs = wipe σ vs ∧ te σ2 H2 R)
    (hd : ∀ D H', H0 D = none → Same H0 H' → H' D = some (.lst ((List.range n).map f)) → Q (.ref D) H') : tLc wi g tYes te vs σ H0 Q := by
  refine hw _ (fun H sm0 hg0 D hD => ?_)
  have hD0 := sm0.free hD
  let Nx : Nat → Hp → Prop := fun i H' => Same H H' ∧ H' D = some (.lst ((List.range i).map f))
  refine ⟨fun i m H' => m = n - i ∧ i ≤ n ∧ Nx i H', ⟨n, by simp, Nat.zero_le _, same_new hD, upd_same⟩, ?_⟩
  rintro i m H' ⟨rfl, hi, sm, hl⟩
  have hg := hG H H' sm0 hg0 sm
  have sm' := sm0.trans sm
  by_cases hlt : i < n
  · refine Or.inr ⟨w.goes i H' hlt hg, Nx (i + 1), fun H'' p => ⟨n - (i + 1), by omega, rfl, hlt, p⟩, fun x H'' y => ?_⟩
    refine hs i x H' H'' _ hlt sm' (w.yields i H' x H'' hlt hg y) (fun H4 s4 => ?_)
    refine ⟨_, s4 D _ hl, ?_, fun b o e => ?_, ?_⟩
    · rw [List.length_map, List.length_range]
      exact Nat.lt_of_lt_of_le (Nat.lt_of_lt_of_le hlt hn) (by decide)
    · rw [upd_ne (ne_of_none e hD)]
      exact s4 b o (sm b o e)
    · rw [upd_same, List.range_succ, List.map_append]
      rfl
  · have e : i = n := by omega
    subst e
    exact Or.inl ⟨w.stops H' hg, hd D H' hD0 sm' hl⟩
end Mq

namespace Mq
open PySem PySem.Spec PyProof.Rows L2
/-! ### enumerate(v), v a tuple -/
theorem meets_enumT (l : Addr) (items : Array Value) :
    Meets (Builtin.«enumerate.__new__» ⟨[.type "enumerate", .ref l], []⟩) (fun _ R s => s.heap.IsTuple l items ∧
      R (.ok (.ret (.ref (s.heap.push { cls := .type "tuple_iterator", data := .fields #[.ref l, .int 0 0] }).objs.size)))
        { s with heap := (s.heap.push { cls := .type "tuple_iterator", data := .fields #[.ref l, .int 0 0] }).push { cls := .type "enumerate", data := .fields #[.none, .bool false, .ref s.heap.objs.size, rawInt 0, .none, .none] } }) :=
  .of_wp fun prog w A R s h => by
    obtain ⟨hp, g, d, tk, os⟩ := s; obtain ⟨hl, h⟩ := h
    have hsub := sub_enumerate
    have hL : Heap.IsTuple (Shared.heap ⟨hp, g, d, tk, os⟩) l items := hl
    obtain ⟨o, ho, _⟩ := id hl
    wp_walk using AutoSeq1.wpAny_loadPart' ho
    refine wpAny_stack_any fun st => wpAny_pure ?_
    split
    · rename_i c _ _ _ _ _
      cases (c == Value.type "enumerate")
      · wp_walk using AutoSeq1.wpAny_loadPart' ho, wpAny_pyIter_tuple hL
        exact ⟨_, rfl, h⟩
      · wp_walk using AutoSeq1.wpAny_loadPart' ho, wpAny_pyIter_tuple hL
        exact ⟨_, rfl, h⟩
    · wp_walk using AutoSeq1.wpAny_loadPart' ho, wpAny_pyIter_tuple hL
      exact ⟨_, rfl, h⟩
theorem call_enumT {prog : Program} {w : World} {A : Around} {E : Value → Shared → Prop} {s : Shared} {l : Addr} {items : Array Value} {Q : Value → Shared → Prop} (hL : s.heap.IsTuple l items)
    (h : ∀ h', IsEnum h' (s.heap.objs.size + 1) s.heap.objs.size 0 .none → h'.IsTupleIter s.heap.objs.size l 0 → h'.objs.size = s.heap.objs.size + 2 →
      (∀ b o, s.heap.get? b = some o → h'.get? b = some o) → Q (.ref (s.heap.objs.size + 1)) { s with heap := h' }) :
    wpAny (model prog w) A (call (.type "enumerate") [.ref l]) Q E s := by
  refine callType_new F.called_enumerate (by decide) (F.typeCall_enumerate_1 _) (F.newCall_enumerate_1 _) (fun obj => F.args_object_init_2 obj _) F.entry_enumerate_new
    (meets_enumT l items) ⟨hL, ?_⟩
  have hz : (s.heap.push { cls := .type "tuple_iterator", data := .fields #[.ref l, .int 0 0] }).objs.size = s.heap.objs.size + 1 := Heap.size_push ..
  show _ ∧ _
  rw [hz]
  have he : IsEnum ((s.heap.push { cls := .type "tuple_iterator", data := .fields #[.ref l, .int 0 0] }).push
      { cls := .type "enumerate", data := .fields #[.none, .bool false, .ref s.heap.objs.size, rawInt 0, .none, .none] }) (s.heap.objs.size + 1) s.heap.objs.size 0 .none := by
    have := Heap.get?_push_size (s.heap.push { cls := .type "tuple_iterator", data := .fields #[.ref l, .int 0 0] })
      (o := { cls := .type "enumerate", data := .fields #[.none, .bool false, .ref s.heap.objs.size, rawInt 0, .none, .none] }) rfl
    rw [hz] at this; exact this
  refine ⟨⟨_, he, rfl⟩, h _ he ⟨_, Heap.get?_push_of_some _ (Heap.get?_push_size _ rfl), rfl, rfl⟩ (by rw [Heap.size_push, hz]) fun b o x => Heap.get?_push_of_some _ (Heap.get?_push_of_some _ x)⟩
/-- the tuple at a, each item in a new pair -/
def Iee (K : PySem.W.Frag) (a : Addr) : It :=
  ⟨fun i H => ∃ (xs : List V) (x : V), SqT K H a xs ∧ xs[i]? = some x, fun i H v H' => ∃ T x, v = .ref T ∧ H T = none ∧ H' = upd H T (.tup [.int (i : Nat), x]) ∧ ∀ xs, SqT K H a xs → xs[i]? = some x, fun i H => ∃ xs : List V, SqT K H a xs ∧ xs.length ≤ i⟩
theorem turn_enumT {P : Program} {w : World} {K : PySem.W.Frag} {elts : List Expr} {kk : Nat} {tpos : Pos} (a e it : Addr) (ha : a ≠ it) (hae : a ≠ e) :
    Turn P w K (.Tuple elts kk tpos) (Iee K a) [e, it] e (fun i h => (∃ old, IsEnum h e it ((i : Nat) : Int) old) ∧ h.IsTupleIter it a i ∧ e ≠ it) where
  mem := by simp
  obj := fun i h st b hb => by
    obtain ⟨⟨old, he⟩, ⟨o, ho, hc, hd⟩, _⟩ := st
    have e' : b = e ∨ b = it := by simpa using hb
    rcases e' with z | z
    · rw [z]; exact ⟨_, he, fun v q => nomatch q⟩
    · rw [z]; exact ⟨o, ho, fun v q => by rw [hd] at q; cases q⟩
  keep := fun i h h' st k => let ⟨⟨old, he⟩, hi, hne⟩ := st; ⟨⟨old, k e (by simp) _ he⟩, hi.at fun o q => k it (by simp) o q, hne⟩
  item := by
    intro X hP hw hK hc i pins s σ H E I hf st hg
    subst hP hw hK
    obtain ⟨⟨old, he⟩, hit, hne⟩ := st
    obtain ⟨xs, x, hq, hx⟩ := hg
    obtain ⟨its, rv, p, hz⟩ := I.tuple hq
    obtain ⟨u, hu, ru⟩ := rv.get hx
    have hel : e < s.heap.objs.size := Heap.lt_size he
    have hil : it < s.heap.objs.size := by obtain ⟨_, q, _⟩ := hit; exact Heap.lt_size q
    have hp : s.heap.IsTuple a its.toArray := p
    have hu' : its.toArray[i]? = some u := by simpa using hu
    have hlt : i < its.toArray.size := by
      rw [List.size_toArray]
      rcases Nat.lt_or_ge i its.length with h | h
      · exact h
      · rw [List.getElem?_eq_none h] at hu
        cases hu
    refine wpAny_pyNext_enum_itemD (n := its.toArray.size) (Draws.tuple (show X.A.in1.handled = none from I.ok.hd hc) it a ha its.toArray) he ⟨hit, hp⟩ hlt hne (by simp only [List.mem_cons, List.not_mem_nil, or_false, not_or]; exact ⟨hne, fun z => hae z.symm⟩) fun x' h' tk hP' ho hst' hT hsz hk => ?_
    have ex : x' = u := by
      have h1 : some x' = some u := by rw [← hP', hu']
      exact Option.some.inj h1
    subst ex
    refine ⟨_, rfl, wpAny_letOwnedTupleGo_enum (s := { s with heap := h', toks := tk + 1 }) ho fun h'' he' sb => ?_⟩
    have hT2 : h''.get? s.heap.objs.size = some { cls := .type "tuple", data := .seq #[.int i tk, x'] } := (sb.2 _ (Nat.ne_of_gt hel)).trans hT
    have new : ObjOk X.prog X.w (upd H s.heap.objs.size (.tup [.int (i : Nat), x])) h'' s.heap.objs.size (.tup [.int (i : Nat), x]) :=
      ⟨by show 2 ≤ sizeLine; decide, [.int i tk, x'], .cons ⟨_, rfl⟩ (.cons ru .nil), ⟨_, hT2, rfl, _, rfl⟩⟩
    have I1 : Inv X pins σ (upd H s.heap.objs.size (.tup [.int (i : Nat), x])) { s with heap := h'', toks := tk + 1 } :=
      I.turnedNew (ch := [e, it]) (fun b ob hb q => (sb.2 b (fun z => hb (by simp [z]))).trans (hk b ob (fun z => hb (by simp [z])) (fun z => hb (by simp [z])) q)) hf (Nat.le_refl _) new
    refine ⟨.ref s.heap.objs.size, _, I1, rfl, ⟨_, x, rfl, I.hok.fresh (Nat.le_refl _), rfl, fun ys hy => by rw [I.tuple_inj hy hq]; exact hx⟩, ⟨⟨x', ?_⟩, hst'.1.at fun o q => (sb.2 it (Ne.symm hne)).trans q, hne⟩, fun b hb => ?_⟩
    · have e1 : ((i + 1 : Nat) : Int) = (i : Int) + 1 := by omega
      rw [e1]; exact he'
    · have hb' : b < s.heap.objs.size := by
        have e' : b = e ∨ b = it := by simpa using hb
        rcases e' with z | z
        · rw [z]; exact hel
        · rw [z]; exact hil
      rw [upd_ne (Nat.ne_of_lt hb')]
      exact (hf b hb).1
  done := by
    intro X hP hw hK hc i pins s σ H E I hf st hg
    subst hP hw hK
    obtain ⟨⟨old, he⟩, hit, hne⟩ := st
    obtain ⟨xs, hq, hx⟩ := hg
    obtain ⟨its, rv, p, hz⟩ := I.tuple hq
    obtain ⟨f0, f1, f2, f3, f4, f5⟩ := hf it (by simp)
    have hl := rv.length
    have hp : s.heap.IsTuple a its.toArray := p
    have D : Draws X.prog X.w X.A.in1 it [it, a] i (fun _ _ => False) (fun j h => j = i ∧ h.IsTupleIter it a i ∧ h.IsTuple a its.toArray) :=
      { live := fun _ _ st => let ⟨o, ho, _⟩ := st.2.1; ⟨o, ho⟩
        frame := fun _ _ _ st hk => ⟨st.1, st.2.1.at fun o e => hk it (by simp) o e, st.2.2.at fun o e => hk a (by simp) o e⟩
        item := fun j s Q E hi st hQ => absurd hi (by rw [st.1]; exact Nat.lt_irrefl i)
        done := fun s Q E st hE => wpAny_nextOf_tuple_end (show X.A.in1.handled = none from I.ok.hd hc) st.2.1 st.2.2 (by simp; omega) hE }
    exact wpAny_pyNext_enum_endD D he ⟨rfl, hit, hp⟩ fun h' eb => ⟨rfl, I.turned (t' := s.toks) (fun b o hb q => eb b o hb q) f0 f1 f3 f4 f5⟩
  self := fun A i s Q E st h => let ⟨⟨_, he⟩, _⟩ := st; wpAny_pyIter_enum he h
def iEnumT (K : PySem.W.Frag) (ta : TA) : TI := fun σ H R => ta σ H fun vs H1 => ∃ a xs, vs = [.ref a] ∧ SqT K H1 a xs ∧ R (Iee K a) H1
theorem pi_enumT {X : Cx} {e : Expr} {ta : TA} {p pos tpos : Pos} {elts : List Expr} {kk : Nat} (hg : Gl X "enumerate") (hm : X.mg "enumerate" = none) (ha : PA X [e] ta) (hs : starEach [e] X.env = [(false, eval e X.env)] := by rfl) :
    PI X (.Tuple elts kk tpos) (.Call (.Name "enumerate" p) [e] [] pos) (iEnumT X.K ta) := by
  refine ⟨fun pins s σ H R I h => ?_⟩
  refine Call_ (ld_blt I hg hm boot_enumerate (PyProof.Rows.callWith_type1 (thn (ha.run pos pins s σ H _ I h) fun us s1 ⟨vs, H1, I1, r1, q1⟩ => ?_) hs rfl))
  obtain ⟨a, xs, ex, hq, q⟩ := q1
  subst ex
  cases r1 with
  | cons r rr =>
    cases rr
    cases r
    obtain ⟨its, rv, p', hz⟩ := I1.tuple hq
    have hp : s1.heap.IsTuple a its.toArray := p'
    have hal : a < s1.heap.objs.size := by obtain ⟨_, q, _⟩ := hp; exact Heap.lt_size q
    refine call_enumT hp fun h' he hit hsz hk => wpAny_pyIter_enum he ?_
    have I2 : Inv X pins σ H1 { s1 with heap := h' } := I1.kept (t' := s1.toks) hk
    refine ⟨s1.heap.objs.size + 1, [s1.heap.objs.size + 1, s1.heap.objs.size], _, _, H1, rfl, I2, turn_enumT a (s1.heap.objs.size + 1) s1.heap.objs.size (Nat.ne_of_lt hal) (Nat.ne_of_lt (Nat.lt_succ_of_lt hal)), ⟨⟨.none, he⟩, hit, Nat.succ_ne_self _⟩, fun b hb => ?_, q⟩
    have e' : b = s1.heap.objs.size + 1 ∨ b = s1.heap.objs.size := by simpa using hb
    have hle : s1.heap.objs.size ≤ b := by
      rcases e' with z | z
      · rw [z]; exact Nat.le_add_right _ _
      · rw [z]; exact Nat.le_refl _
    exact I1.fpOk hle (I1.hok.fresh hle)
/-- the same, where what is walked is laid on the way -/
theorem lc_mapJ {wi : TI} {n : Nat} {Y : Nat → Hp → V → Hp → Prop} {g : TG} {te : TE} {vs : List Nat} {σ : L2.St} {H0 : Hp} {Q : VK}
    (f : Nat → V) (hn : n ≤ 1000000) (hw : ∀ R : It → Hp → Prop, (∀ (J : It) (G : Hp → Prop) (H : Hp), Walk J n G Y → (∀ H', G H → Same H H' → G H') → Same H0 H → G H → R J H) → wi σ H0 R)
    (hs : ∀ i x H H' (R : V → Hp → Prop), i < n → Same H0 H → Y i H x H' → (∀ H4, Same H H4 → R (f i) H4) →
      g x (wipe σ vs) H' fun σ2 H2 => wipe σ2 vs = wipe σ vs ∧ te σ2 H2 R)
    (hd : ∀ D H', H0 D = none → Same H0 H' → H' D = some (.lst ((List.range n).map f)) → Q (.ref D) H') : tLc wi g tYes te vs σ H0 Q := by
  refine hw _ (fun J G H w hG sm0 hg0 D hD => ?_)
  have hD0 := sm0.free hD
  let Nx : Nat → Hp → Prop := fun i H' => Same H H' ∧ H' D = some (.lst ((List.range i).map f))
  refine ⟨fun i m H' => m = n - i ∧ i ≤ n ∧ Nx i H', ⟨n, by simp, Nat.zero_le _, same_new hD, upd_same⟩, ?_⟩
  rintro i m H' ⟨rfl, hi, sm, hl⟩
  have hg := hG H' hg0 sm
  have sm' := sm0.trans sm
  by_cases hlt : i < n
  · refine Or.inr ⟨w.goes i H' hlt hg, Nx (i + 1), fun H'' p => ⟨n - (i + 1), by omega, rfl, hlt, p⟩, fun x H'' y => ?_⟩
    refine hs i x H' H'' _ hlt sm' (w.yields i H' x H'' hlt hg y) (fun H4 s4 => ?_)
    refine ⟨_, s4 D _ hl, ?_, fun b o e => ?_, ?_⟩
    · rw [List.length_map, List.length_range]
      exact Nat.lt_of_lt_of_le (Nat.lt_of_lt_of_le hlt hn) (by decide)
    · rw [upd_ne (ne_of_none e hD)]
      exact s4 b o (sm b o e)
    · rw [upd_same, List.range_succ, List.map_append]
      rfl
  · have e : i = n := by omega
    subst e
    exact Or.inl ⟨w.stops H' hg, hd D H' hD0 sm' hl⟩
end Mq

namespace Mq
open PySem PySem.Spec PyProof.Rows L2
/-- a comprehension without a test over what w walks -/
theorem lc_yes {J : It} {n : Nat} {G : Hp → Prop} {Y : Nat → Hp → V → Hp → Prop} (w : Walk J n G Y) {g : TG} {te : TE} {vs : List Nat} {σ : L2.St} {H1 : Hp} {D : Addr} {Qd : Hp → Prop} (Pv : Nat → Hp → Prop)
    (h0 : Pv 0 (upd H1 D (.lst []))) (hG : ∀ i H, i ≤ n → Pv i H → G H)
    (hs : ∀ i x H H', i < n → Pv i H → Y i H x H' → g x (wipe σ vs) H' fun σ2 H2 => wipe σ2 vs = wipe σ vs ∧ te σ2 H2 fun y H4 => ∃ acc, H4 D = some (.lst acc) ∧ acc.length < sizeLine ∧ Pv (i + 1) (upd H4 D (.lst (acc ++ [y]))))
    (hd : ∀ H, Pv n H → Qd H) :
    ∃ W : Nat → Nat → Hp → Prop, (∃ m, W 0 m (upd H1 D (.lst []))) ∧ ∀ i m H, W i m H →
      (J.stop i H ∧ Qd H) ∨ (J.go i H ∧ ∃ Nx : Hp → Prop, (∀ H', Nx H' → ∃ m', m' < m ∧ W (i + 1) m' H') ∧ ∀ x H', J.yld i H x H' → g x (wipe σ vs) H' fun σ2 H2 => wipe σ2 vs = wipe σ vs ∧ tYes σ2 H2 fun b H3 =>
        if b = true then te σ2 H3 fun y H4 => ∃ acc, H4 D = some (.lst acc) ∧ acc.length < sizeLine ∧ Nx (upd H4 D (.lst (acc ++ [y]))) else Nx H3) :=
  lc_it (tt := tYes) w Pv h0 hG hs hd
end Mq

namespace Mq
open PySem PySem.Spec PyProof.Rows L2
/-- isinstance(e, c), the held error's class being told among the values -/
theorem call_heldX {X : Cx} {a D : Addr} {oe : Obj} {cls : Value} {d : Option Addr} {pn : List (Addr × Obj)} (C : HeldC X.K D) (hz : Zc cls d oe)
    (hf : ∃ vs, oe.data = .fields vs) : CallR (X.suite a ((a, oe) :: pn)) (.builtin "isinstance") (fun xs H Q => cls = .ref D ∧ rHeld X.K D a d xs H Q) := by
  intro pins s σ H xs us Q I r h
  obtain ⟨rfl, h⟩ := h
  exact call_held C hz hf pins s σ H xs us Q I r h
/-! ### lists whose items are equal, told by != and == -/
theorem op_neFl {X : Cx} (hu : X.A.units + 64 < cLine) : OpR X (compareOp .NotEq) (fun x y H Q => ∃ a b xs, x = .ref a ∧ y = .ref b ∧ SqL X.K H a xs ∧ SqL X.K H b xs ∧ (∀ v ∈ xs, flatB v = true) ∧ Q (.bl false) H) := by
  intro pins s σ H x y v u Q I rx ry h
  obtain ⟨a, b, xs, rfl, rfl, ha, hb, hf, q⟩ := h
  cases (show v = Value.ref a from rx)
  cases (show u = Value.ref b from ry)
  obtain ⟨us, r1, p1, _⟩ := I.list ha
  obtain ⟨ws, r2, p2, _⟩ := I.list hb
  have hsz : us.toArray.size = ws.toArray.size := by
    rw [List.size_toArray, List.size_toArray, ← r1.length, ← r2.length]
  have he : ∀ j (h1 : j < us.toArray.size) (h2 : j < ws.toArray.size), SeqAt.EqAt X.A.in1 s us.toArray[j] ws.toArray[j] true := by
    intro j h1 h2
    have h1' : j < us.length := by simpa using h1
    have h2' : j < ws.length := by simpa using h2
    have e1 : xs.length = us.length := r1.length
    obtain ⟨u1, g1, k1⟩ := r1.get (i := j) (x := xs[j]'(by omega)) (List.getElem?_eq_getElem (by omega))
    obtain ⟨u2, g2, k2⟩ := r2.get (i := j) (x := xs[j]'(by omega)) (List.getElem?_eq_getElem (by omega))
    rw [List.getElem?_eq_getElem h1'] at g1
    rw [List.getElem?_eq_getElem h2'] at g2
    have k := eqAt_same (A := X.A.in1) (s := s) k1 k2 (hf _ (List.getElem_mem _))
    cases g1
    cases g2
    simpa using k
  have k := SeqAt.RcNeAt.lists (A := X.A) (s := s) (e := fun _ => true) p1.isList p2.isList hsz (by omega) he
  have z : (!(List.range us.toArray.size).all fun _ => true) = false := by rw [show ((List.range us.toArray.size).all fun _ => true) = true from List.all_eq_true.mpr fun _ _ => rfl]; rfl
  rw [z] at k
  exact k X.prog X.w _ _ ⟨.bl false, H, I, rfl, q⟩
/-- list(v), v a tuple: the new list is told to stand elsewhere than the modules -/
theorem call_lsN {X : Cx} : CallR X (.type "list") (fun xs H Q => ∃ p ys, xs = [.ref p] ∧ SqT X.K H p ys ∧ ∀ l, H l = none → l ≠ sysModules → Q (.ref l) (upd H l (.lst ys))) := by
  intro pins s σ H xs us Q I r hw
  obtain ⟨t, ys, rfl, ht, k⟩ := hw
  cases r with
  | cons r0 rr =>
    cases rr
    cases r0
    obtain ⟨its, rv, pl, hz⟩ := I.tuple ht
    have hlen := rv.length
    obtain ⟨o, ho, hc, n, hd⟩ := pl
    refine call_list_seq t (.inr rfl) ho hc hd (fun h2 c2 kp e => ?_) (by rw [List.size_toArray]; omega)
    have new : ObjOk X.prog X.w (upd H s.heap.objs.size (.lst ys)) h2 s.heap.objs.size (.lst ys) := ⟨hz, its, c2, rv, e⟩
    refine ⟨.ref _, upd H s.heap.objs.size (.lst ys), ?_, rfl, ?_⟩
    · exact I.laid (t' := s.toks) kp (Nat.le_refl _) new
    · exact k _ (I.hok.fresh (Nat.le_refl _)) (Nat.ne_of_gt (Inv.low I))
/-! ### how long what is shown can be -/
theorem small_short : ∀ n : Nat, n ≤ 1000 → (PyData.int (n : Nat)).shown.length ≤ 13 ∧ (PyData.int (n : Nat)).showable = true ∧ (PyData.int (n : Nat)).weight ≤ 20 := by
  have h : ((List.range 1001).all fun n => decide ((PyData.int (n : Nat)).shown.length ≤ 13) && ((PyData.int (n : Nat)).showable && decide ((PyData.int (n : Nat)).weight ≤ 20))) = true := by decide +kernel
  intro n hn
  have h1 := List.all_eq_true.mp h n (List.mem_range.mpr (by omega))
  obtain ⟨a, b⟩ := Bool.and_eq_true_iff.mp h1
  obtain ⟨b, c⟩ := Bool.and_eq_true_iff.mp b
  exact ⟨of_decide_eq_true a, b, of_decide_eq_true c⟩
theorem shown_fits {d : PyData} (h1 : d.canLay0 = true) (h2 : d.depth ≤ 64) (h3 : d.weight ≤ 1000000) (h4 : d.intsShort 13 = true) : d.shown.length ≤ sizeLine := by
  have h5 : d.weight ≤ 2 ^ 20 := Nat.le_trans h3 (by decide)
  have hl : PyData.layable0 d = true := by
    unfold PyData.layable0
    rw [h1, decide_eq_true h2, decide_eq_true h5]
    rfl
  exact Nat.le_trans (PyProof.Rows.shown_le13 hl h4) (by decide)
end Mq

namespace Mq
open PySem PySem.Spec PyProof.Rows L2
/-! ### a text, so many times -/
def repS (x : Str) (n : Nat) : Str := ⟨(List.replicate n x.cps).foldl (· ++ ·) #[]⟩
theorem op_mulS {X : Cx} : OpR X (binaryOp .Mult) (fun x y H Q => ∃ (z : Str) (n : Nat), x = .str z ∧ y = .int (n : Nat) ∧ 2 ≤ n ∧ n ≤ 1000 ∧ 1 ≤ z.length ∧ z.length ≤ 1000 ∧ (repS z n).length ≤ sizeLine ∧ Q (.str (repS z n)) H) := by
  intro pins s σ H x y v u Q I rx ry h
  obtain ⟨z, n, rfl, rfl, h1, h2, h3, h4, h5, q⟩ := h
  obtain ⟨t, rfl⟩ := rx
  obtain ⟨t', rfl⟩ := ry
  have hm : z.length * n ≤ 1000 * 1000 := Nat.mul_le_mul h4 h2
  have e1 : decide (((n : Nat) : Int) < -(2 ^ 63 : Int)) = false := decide_eq_false (by omega)
  have e2 : decide (((n : Nat) : Int) ≥ 2 ^ 63) = false := decide_eq_false (by omega)
  have e3 : (((n : Nat) : Int) == 1) = false := by
    rw [beq_eq_false_iff_ne]
    omega
  have e4 : (z.length == 0) = false := by
    rw [beq_eq_false_iff_ne]
    omega
  refine P.mul_str (by rw [e1, e2]; rfl) (fun _ _ => ?_) (fun _ _ => ?_) ?_
  · have hd : (1000 : Int) ≤ (2 ^ 63 - 1) / ((n : Nat) : Int) := by
      refine (Int.le_ediv_iff_mul_le (by omega)).mpr ?_
      omega
    omega
  · rw [Int.toNat_natCast]
    unfold Builtin.Str.tooLong
    exact decide_eq_false (by have : (1000 * 1000 : Nat) ≤ sizeLine := by decide
                              omega)
  · rw [if_neg (show ¬ ((n : Nat) : Int) < 1 by omega), e3, e4]
    exact ⟨h5, .str (repS z n), H, I.tok _, ⟨_, rfl⟩, q⟩
end Mq


namespace MqE_thing
open PySem PySem.Spec PyProof.Rows L2 Mq PySem.W PySem.Calls
/-! ### errors whose one parameter is thing -/
def iA (p1 p2 : Pos) : Arguments := { posonlyargs := [], args := [{ arg := "self", annotation := none, pos := p1 }, { arg := "thing", annotation := none, pos := p2 }], vararg := none, kwonlyargs := [], kw_defaults := [], kwarg := none, defaults := [] }
def iB (q1 q2 q3 q4 : Pos) : List Stmt := [.Assign [.Attribute (.Name "self" q1) "thing" q2] (.Name "thing" q3) q4]
def iS : Scope := { kind := .function, names := [(PySem.Str.ofString "self", .local), (PySem.Str.ofString "thing", .local)], isGenerator := false, isCoroutine := false, more := [] }
/-- what the written part says of the class x at C, and of its __init__ at fI -/
structure Txt (K : Frag) (mg : Str → Option Value) (x qual : Str) (C fI : Addr) : Prop where
  gC : mg x = some (.ref C)
  kC : keepIn K (.ref C) = true
  ex : excInitIn K C exTail "Exception.__new__" = true
  ov : excOver K C exTail = true
  hdC : hasDictIn K C = true
  tk : takerIn K C "thing" = some none
  sa : findIn K (.ref C) "__setattr__" = some (some (.builtin "object.__setattr__"))
  iC : findIn K (.ref C) "__init__" = some (some (.ref fI))
  tC : typeIn K (.ref fI) = some (.type "function")
  exC : subIn K (.ref C) (.type "BaseException") = some true
  tyC : typeIn K (.ref C) = some (.type "type")
  fn : ∃ (oc : Value) (od : Option Addr) (doc pm : Value) (an : Option Addr) (cdv ct : Value) (osl : Array (Option Value)) (p1 p2 q1 q2 q3 q4 : Pos),
    K.lookup fI = some ⟨oc, od, .func (fnOf "__init__" qual (iA p1 p2) (iB q1 q2 q3 q4) iS .none .none doc pm an cdv ct), osl⟩ ∧ codeIn K cdv qual = true
theorem ld_loc {M : Model} {s : Shared} {name : Str} {scope : Scope} {L a : Addr} {cd : Value} {m : Str → Option Value} {y : Str} {pos : Pos} {v : Value}
    {Q : Value → Shared → Prop} {A : Around} {E : Value → Shared → Prop} (hn : s.heap.Ns L m) (hv : m y = some v) (h : Q v s)
    (hk : scope.kind = .function := by rfl) (hl : (envOfC name scope L a cd).kindOf y = some .local := by rfl) (hd : (y == ("__debug__" : Str)) = false := by decide) :
    wpAny M A (eval (.Name y pos) (envOfC name scope L a cd)) Q E s := wpAny_Name (wpAny_loadName_local hk hl hn hv h) hd
/-- what __init__ leaves of a new error at e -/
structure Filled (h h' : Heap) (e C dx t1 : Addr) (v : Value) : Prop where
  keep : ∀ b o, b ≠ e → h.get? b = some o → h'.get? b = some o
  obj : h'.get? e = some (excObj C t1 (some dx) .none)
  big : h.objs.size ≤ dx
  ne : dx ≠ e
  ns : h'.Ns1 dx (fun y => if y = "thing" then some v else none)
/-- a made error -/
structure Made (h h' : Heap) (e C d : Addr) (v : Value) : Prop where
  keep : ∀ b o, h.get? b = some o → h'.get? b = some o
  new : h.objs.size ≤ e
  obj : ∃ oe vs, h'.get? e = some oe ∧ oe.cls = .ref C ∧ oe.dict = some d ∧ oe.data = .fields vs ∧ vs[1]? = some .none
  big : h.objs.size ≤ d
  ne : d ≠ e
  ns : h'.Ns1 d (fun y => if y = "thing" then some v else none)
section
variable {prog : Program} {w : World} {A : Around} {E : Value → Shared → Prop} {R : Result → Shared → Prop} {s : Shared} {K : Frag} {mg : Str → Option Value} {x qual : Str} {C fI : Addr}
theorem init_run (T : Txt K mg x qual C fI) {e t0 : Addr} {v : Value} (X : K.In s.heap) (lim : s.heap.NoLimit) (he : s.heap.get? e = some (excObj C t0 none .none)) (room : A.depth < recursionLimit)
    (hq : ∀ h' tk dx, Filled s.heap h' e C dx t0 v → R (.ok (.ret .none)) { s with heap := h', toks := tk }) :
    codeAny (model prog w) A (.call (.ref fI) ⟨[.ref e, v], []⟩) R s := by
  obtain ⟨oc, od, doc, pm, an, cdv, ct, osl, p1, p2, q1, q2, q3, q4, ho, hcd⟩ := T.fn
  refine Att.call_fn (binds := [("self", .ref e), ("thing", v)]) X lim ho hcd room (BindsTo.of_eq (by first | rfl | with_unfolding_all rfl)) (by first | rfl | decide | with_unfolding_all rfl) (fun s₁ IC => ?_) rfl rfl rfl
  obtain ⟨h₁, tk₁, rfl⟩ := IC.toInCall.same
  have k : ∀ b o, s.heap.get? b = some o → h₁.get? b = some o := IC.toInCall.keep
  have hn := IC.toInCall.ns
  have X₁ : K.In h₁ := X.keeps k
  have he₁ := k _ _ he
  show wpAny _ _ (execs _ _) _ _ _
  refine wpAny_execs_cons (plainObj_wpAny_Assign_Attribute ?_)
  refine ld_loc (v := v) hn (by first | rfl | with_unfolding_all rfl | kernel_rfl) (ld_loc (v := .ref e) hn (by first | rfl | with_unfolding_all rfl | kernel_rfl) ?_)
  refine set_plain X₁ (ox := excObj C t0 none .none) (od := none) ⟨he₁, rfl, rfl, trivial⟩ T.sa ?_
  refine osa_first X₁ he₁ T.ov T.hdC T.tk (fun h₃ tk₃ dx k₃ dn dne he₃ hn₃ => ?_)
  show wpAny _ _ (execs _ _) _ _ _
  have z : s.heap.objs.size < h₁.objs.size := hn.lt
  exact wpAny_execs_nil (hq h₃ tk₃ dx ⟨fun b o hb e => k₃ b o hb (k b o e), he₃, Nat.le_of_lt (Nat.lt_of_lt_of_le z dn), dne, hn₃⟩)
theorem made_run (T : Txt K mg x qual C fI) {v : Value} (X : K.In s.heap) (lim : s.heap.NoLimit) (room : A.depth + 1 < recursionLimit)
    (hq : ∀ h' tk e d, Made s.heap h' e C d v → R (.ok (.ret (.ref e))) { s with heap := h', toks := tk }) :
    codeAny (model prog w) A (.call (.ref C) ⟨[v], []⟩) R s := by
  obtain ⟨nm, N, qn, bs, bm, hdct, sn, sub, ab, col, dd, k0, k1, k2, k3, k5, hC, hT⟩ := excInit_of X T.ex
  obtain ⟨hp, g, dr, tk, os⟩ := s
  have k : ∀ b o, hp.get? b = some o → ((hp.push (kdv_tup [v])).push (HandSPX.excO C hp.objs.size)).get? b = some o := fun b o e => Heap.get?_push_of_some _ (Heap.get?_push_of_some _ e)
  have hget : ((hp.push (kdv_tup [v])).push (HandSPX.excO C hp.objs.size)).get? (hp.objs.size + 1) = some (excObj C hp.objs.size none .none) := by heap_get
  refine HandSPX.call_own F.excBase_Exception hT hC (looks_findIn X T.iC) (fun self => bind_fn X self T.tC) (by rw [sizeLine_eq]; exact (by decide : 1 ≤ 16777216)) ?_
  refine init_run (s := ⟨(hp.push (kdv_tup [v])).push (HandSPX.excO C hp.objs.size), g, dr, tk, os⟩) T (X.keeps k) (lim.keeps k) hget ?_ (fun h' tk' dx M => ?_)
  · show A.depth + 1 < recursionLimit
    exact room
  · obtain ⟨k', hx, dn, dne, hns⟩ := M
    have old : ∀ b o, hp.get? b = some o → h'.get? b = some o := fun b o e => k' b o (Nat.ne_of_lt (Nat.lt_succ_of_lt (Heap.lt_size e))) (k b o e)
    have z : hp.objs.size + 1 + 1 ≤ dx := by
      have q := dn
      rw [Heap.size_push, Heap.size_push] at q
      exact q
    exact ⟨rfl, hq h' tk' (hp.objs.size + 1) dx ⟨old, Nat.le_succ _, ⟨_, _, hx, rfl, rfl, rfl, rfl⟩, Nat.le_trans (Nat.le_trans (Nat.le_succ _) (Nat.le_succ _)) z, dne, hns⟩⟩
end
theorem relO_f {v : V} {v' : Value} (r : RelV v v') (f : Str) : RelO (List.lookup f [(("thing" : Str), v)]) (if f = "thing" then some v' else none) := by
  by_cases hw : f = "thing"
  · subst hw
    rw [if_pos rfl]
    have q : List.lookup ("thing" : Str) [(("thing" : Str), v)] = some v := by simp [List.lookup]
    rw [q]
    exact r
  · rw [if_neg hw]
    have qw : (f == ("thing" : Str)) = false := by simpa using hw
    have q2 : List.lookup f [(("thing" : Str), v)] = none := by simp [List.lookup, qw]
    rw [q2]
    trivial
section
variable {X : Cx} {C fI : Addr} {x qual : Str}
/-- x(e) -/
def tMk (C : Addr) (ta : TA) : L2.St → Hp → XK → Prop := fun σ H Q => ta σ H fun vs H1 => ∃ v, vs = [v] ∧ ∀ d, H1 d = none → Q (.ref C) (some d) (upd H1 d (.xd [(("thing" : Str), v)]))
theorem pmk {a : Expr} {ta : TA} {p pos : Pos} {k : Nat} (T : Txt X.K X.mg x qual C fI) (hr : Room k X.A) (ha : PA X [a] ta) (hg : Gl X x := by rfl) (hdb : (x == ("__debug__" : Str)) = false := by decide)
    (he : starEach (a :: []) X.env = (false, eval a X.env) :: starEach [] X.env := by rfl) (hpl : (backTo pos (starEach [] X.env)).any (·.1) = false := by rfl) :
    PMk X (.Call (.Name x p) [a] [] pos) (tMk C ta) := by
  intro pins s σ H Q I h
  refine wpAny_Call_Name_kw (ld_glob I hg T.gC ?_ hdb)
  refine callWith_K (h₀ := X.base) I.ok.mod.kin T.kC (thn (ha.run pos pins s σ H _ I h) fun us s1 hh => ?_) he hpl
  obtain ⟨vs, H1, I1, r1, v, ev, q1⟩ := hh
  subst ev
  refine ⟨I1.kIn, ?_⟩
  cases r1 with
  | cons rv rn =>
    rename_i v' us'
    cases rn
    show wpAny _ _ (call (.ref C) [v']) _ _ _
    have hlim := I1.nolimit
    obtain ⟨hp, g, dr, tk, os⟩ := s1
    refine wpAny_call (made_run T I1.kIn hlim (by have := hr.dp; omega) (fun h' tk' e d M => ?_))
    show MkP X pins σ Q (.ref e) ⟨h', g, dr, tk', os⟩
    obtain ⟨oe, fv, hoe, hc, hd, hdat, h1⟩ := M.obj
    have hns := M.ns
    obtain ⟨G', g1, g2⟩ := restrict h' fun b => decide (b ≠ e)
    have gk : ∀ b, b ≠ e → G'.get? b = h'.get? b := fun b hb => g1 b (decide_eq_true hb)
    have ge : G'.get? e = none := g2 e (by simp)
    have old : ∀ b o, hp.get? b = some o → G'.get? b = some o := fun b o q => (gk b (Nat.ne_of_lt (Nat.lt_of_lt_of_le (Heap.lt_size q) M.new))).trans (M.keep b o q)
    have ob : ObjOk X.prog X.w (upd H1 d (.xd [(("thing" : Str), v)])) G' d (.xd [(("thing" : Str), v)]) :=
      ⟨_, hns.at (fun o q => (gk d M.ne).trans q), fun f => relO_f rv f⟩
    have J : L2.Inv X pins σ (upd H1 d (.xd [(("thing" : Str), v)])) ⟨G', g, dr, tk', os⟩ := I1.laid (t' := tk') old M.big ob
    refine ⟨e, oe, fv, ⟨G', g, dr, tk', os⟩, _, .ref C, some d, rfl, J, (fun b o q => ?_), ge, hoe, ⟨hc, hd⟩, hdat, h1, ?_, rfl, I1.bare, raises_own T.exC T.tyC, q1 d (I1.hok.fresh M.big)⟩
    · by_cases hb : b = e
      · have q' : G'.get? b = some o := q
        rw [hb, ge] at q'
        cases q'
      · exact (gk b hb).symm.trans q
    · rw [upd_ne (Ne.symm M.ne)]
      exact I1.hok.fresh M.new
/-- raise x(e) -/
def tRaise (C : Addr) (W : WX) (ta : TA) : TS := fun _ σ H => tMk C ta σ H fun cls d H' => W cls d σ H'
theorem ps_raise {a : Expr} {ta : TA} {W : WX} {p pos pos2 : Pos} {k : Nat} (hc : X.calm = true) (T : Txt X.K X.mg x qual C fI) (hr : Room k X.A) (tk : Takes X W) (ha : PA X [a] ta) (hg : Gl X x := by rfl) (hdb : (x == ("__debug__" : Str)) = false := by decide)
    (he : starEach (a :: []) X.env = (false, eval a X.env) :: starEach [] X.env := by rfl) (hpl : (backTo pos (starEach [] X.env)).any (·.1) = false := by rfl) :
    PS X (.Raise (some (.Call (.Name x p) [a] [] pos)) none pos2) (tRaise C W ta) := L2.ps_raise hc tk (pmk T hr ha hg hdb he hpl)
end
end MqE_thing

namespace Lw
open PySem PySem.Spec PyProof.Rows L2 Mq
/-! ### where the defs stand -/
def topS (i : Nat) : Stmt := PySem.Challenge.pw_millhands_k55_courses_and_shelves.main.body.getD i (.Pass ⟨0, 0, 0, 0⟩)
abbrev s_BadBook___init__ : Stmt := inClass (topS 2) 0
theorem sc_BadBook___init__ : FnScope ["self", "part"] ["self", "part"] (defScope s_BadBook___init__) := ⟨rfl, rfl, rfl, by decide +kernel, rfl, by decide +kernel, by decide +kernel⟩
abbrev s_BadText___init__ : Stmt := inClass (topS 3) 0
theorem sc_BadText___init__ : FnScope ["self", "line"] ["self", "line"] (defScope s_BadText___init__) := ⟨rfl, rfl, rfl, by decide +kernel, rfl, by decide +kernel, by decide +kernel⟩
abbrev s_BadWeb___init__ : Stmt := inClass (topS 4) 0
theorem sc_BadWeb___init__ : FnScope ["self", "thing"] ["self", "thing"] (defScope s_BadWeb___init__) := ⟨rfl, rfl, rfl, by decide +kernel, rfl, by decide +kernel, by decide +kernel⟩
abbrev s_BadCourse___init__ : Stmt := inClass (topS 5) 0
theorem sc_BadCourse___init__ : FnScope ["self", "place"] ["self", "place"] (defScope s_BadCourse___init__) := ⟨rfl, rfl, rfl, by decide +kernel, rfl, by decide +kernel, by decide +kernel⟩
abbrev s_is_letters : Stmt := topS 8
theorem sc_is_letters : FnScope ["thing", "letter"] ["thing"] (defScope s_is_letters) := ⟨rfl, rfl, rfl, by decide +kernel, rfl, by decide +kernel, by decide +kernel⟩
abbrev s_is_letter : Stmt := topS 9
theorem sc_is_letter : FnScope ["letters", "thing"] ["letters", "thing"] (defScope s_is_letter) := ⟨rfl, rfl, rfl, by decide +kernel, rfl, by decide +kernel, by decide +kernel⟩
abbrev s_is_word : Stmt := topS 10
theorem sc_is_word : FnScope ["letters", "thing", "letter"] ["letters", "thing"] (defScope s_is_word) := ⟨rfl, rfl, rfl, by decide +kernel, rfl, by decide +kernel, by decide +kernel⟩
abbrev s_is_number : Stmt := topS 11
theorem sc_is_number : FnScope ["thing"] ["thing"] (defScope s_is_number) := ⟨rfl, rfl, rfl, by decide +kernel, rfl, by decide +kernel, by decide +kernel⟩
abbrev s_is_below : Stmt := topS 12
theorem sc_is_below : FnScope ["thing", "many"] ["thing", "many"] (defScope s_is_below) := ⟨rfl, rfl, rfl, by decide +kernel, rfl, by decide +kernel, by decide +kernel⟩
abbrev s_is_ascending : Stmt := topS 13
theorem sc_is_ascending : FnScope ["parts", "k"] ["parts"] (defScope s_is_ascending) := ⟨rfl, rfl, rfl, by decide +kernel, rfl, by decide +kernel, by decide +kernel⟩
abbrev s_text_parts : Stmt := topS 14
theorem sc_text_parts : FnScope ["word", "text", "lines", "words"] ["word", "text"] (defScope s_text_parts) := ⟨rfl, rfl, rfl, by decide +kernel, rfl, by decide +kernel, by decide +kernel⟩
abbrev s_Book___init__ : Stmt := inClass (topS 16) 0
theorem sc_Book___init__ : FnScope ["self", "letters", "folds", "table", "ahead", "number", "fold"] ["self", "letters", "folds"] (defScope s_Book___init__) := ⟨rfl, rfl, rfl, by decide +kernel, rfl, by decide +kernel, by decide +kernel⟩
abbrev s_Book___len__ : Stmt := inClass (topS 16) 1
theorem sc_Book___len__ : FnScope ["self"] ["self"] (defScope s_Book___len__) := ⟨rfl, rfl, rfl, by decide +kernel, rfl, by decide +kernel, by decide +kernel⟩
abbrev s_Book___eq__ : Stmt := inClass (topS 16) 2
theorem sc_Book___eq__ : FnScope ["self", "other"] ["self", "other"] (defScope s_Book___eq__) := ⟨rfl, rfl, rfl, by decide +kernel, rfl, by decide +kernel, by decide +kernel⟩
abbrev s_Book___str__ : Stmt := inClass (topS 16) 3
theorem sc_Book___str__ : FnScope ["self", "lines", "last", "laid", "left"] ["self"] (defScope s_Book___str__) := ⟨rfl, rfl, rfl, by decide +kernel, rfl, by decide +kernel, by decide +kernel⟩
abbrev s_Book_read : Stmt := inClass (topS 16) 4
theorem sc_Book_read : FnScope ["cls", "text", "letters", "lines", "folds", "line", "fold"] ["cls", "text"] (defScope s_Book_read) := ⟨rfl, rfl, rfl, by decide +kernel, rfl, by decide +kernel, by decide +kernel⟩
abbrev s_Book_left_of : Stmt := inClass (topS 16) 5
theorem sc_Book_left_of : FnScope ["self", "last", "laid"] ["self", "last", "laid"] (defScope s_Book_left_of) := ⟨rfl, rfl, rfl, by decide +kernel, rfl, by decide +kernel, by decide +kernel⟩
abbrev s_is_fold : Stmt := topS 17
theorem sc_is_fold : FnScope ["letters", "thing"] ["letters", "thing"] (defScope s_is_fold) := ⟨rfl, rfl, rfl, by decide +kernel, rfl, by decide +kernel, by decide +kernel⟩
abbrev s_fold_read : Stmt := topS 18
theorem sc_fold_read : FnScope ["letters", "line", "words", "fold"] ["letters", "line"] (defScope s_fold_read) := ⟨rfl, rfl, rfl, by decide +kernel, rfl, by decide +kernel, by decide +kernel⟩
abbrev s_is_web : Stmt := topS 19
theorem sc_is_web : FnScope ["letters", "thing"] ["letters", "thing"] (defScope s_is_web) := ⟨rfl, rfl, rfl, by decide +kernel, rfl, by decide +kernel, by decide +kernel⟩
abbrev s_check_web : Stmt := topS 20
theorem sc_check_web : FnScope ["letters", "thing"] ["letters", "thing"] (defScope s_check_web) := ⟨rfl, rfl, rfl, by decide +kernel, rfl, by decide +kernel, by decide +kernel⟩
abbrev s_laid_behind : Stmt := topS 21
theorem sc_laid_behind : FnScope ["book", "web", "letter", "left"] ["book", "web", "letter"] (defScope s_laid_behind) := ⟨rfl, rfl, rfl, by decide +kernel, rfl, by decide +kernel, by decide +kernel⟩
abbrev s_is_item : Stmt := topS 23
theorem sc_is_item : FnScope ["letters", "thing"] ["letters", "thing"] (defScope s_is_item) := ⟨rfl, rfl, rfl, by decide +kernel, rfl, by decide +kernel, by decide +kernel⟩
abbrev s_is_weft : Stmt := topS 24
theorem sc_is_weft : FnScope ["letters", "thing", "item"] ["letters", "thing"] (defScope s_is_weft) := ⟨rfl, rfl, rfl, by decide +kernel, rfl, by decide +kernel, by decide +kernel⟩
abbrev s_does_see : Stmt := topS 25
theorem sc_does_see : FnScope ["item", "web"] ["item", "web"] (defScope s_does_see) := ⟨rfl, rfl, rfl, by decide +kernel, rfl, by decide +kernel, by decide +kernel⟩
abbrev s_run_on : Stmt := topS 26
theorem sc_run_on : FnScope ["book", "weft", "web", "place", "item"] ["book", "weft", "web"] (defScope s_run_on) := ⟨rfl, rfl, rfl, by decide +kernel, rfl, by decide +kernel, by decide +kernel⟩
abbrev s_is_shelf : Stmt := topS 28
theorem sc_is_shelf : FnScope ["letters", "thing", "weft"] ["letters", "thing"] (defScope s_is_shelf) := ⟨rfl, rfl, rfl, by decide +kernel, rfl, by decide +kernel, by decide +kernel⟩
abbrev s_wrong_place : Stmt := topS 29
theorem sc_wrong_place : FnScope ["shelf", "thing", "place", "number"] ["shelf", "thing"] (defScope s_wrong_place) := ⟨rfl, rfl, rfl, by decide +kernel, rfl, by decide +kernel, by decide +kernel⟩
abbrev s_led_by : Stmt := topS 30
theorem sc_led_by : FnScope ["book", "shelf", "web", "course", "number", "failed"] ["book", "shelf", "web", "course"] (defScope s_led_by) := ⟨rfl, rfl, rfl, by decide +kernel, rfl, by decide +kernel, by decide +kernel⟩
abbrev s_course_led : Stmt := topS 31
theorem sc_course_led : FnScope ["book", "shelf", "web", "course", "place"] ["book", "shelf", "web", "course"] (defScope s_course_led) := ⟨rfl, rfl, rfl, by decide +kernel, rfl, by decide +kernel, by decide +kernel⟩
abbrev s__law_deck : Stmt := topS 33
theorem sc__law_deck : FnScope ["_law_script", "_law_rest", "_law_mixed", "_law_cell"] ["_law_script"] (defScope s__law_deck) := ⟨rfl, rfl, rfl, by decide +kernel, rfl, by decide +kernel, by decide +kernel⟩
abbrev s__law_draw : Stmt := topS 34
theorem sc__law_draw : FnScope ["_law_deck_here", "_law_below", "_law_number", "_law_count", "_law_cell"] ["_law_deck_here", "_law_below"] (defScope s__law_draw) := ⟨rfl, rfl, rfl, by decide +kernel, rfl, by decide +kernel, by decide +kernel⟩
abbrev s__law_pick : Stmt := topS 35
theorem sc__law_pick : FnScope ["_law_deck_here", "_law_some"] ["_law_deck_here", "_law_some"] (defScope s__law_pick) := ⟨rfl, rfl, rfl, by decide +kernel, rfl, by decide +kernel, by decide +kernel⟩
abbrev s__law_book : Stmt := topS 36
theorem sc__law_book : FnScope ["_law_deck_here", "_law_letters", "_law_way", "_law_folds", "_law_x", "_law_y"] ["_law_deck_here"] (defScope s__law_book) := ⟨rfl, rfl, rfl, by decide +kernel, rfl, by decide +kernel, by decide +kernel⟩
abbrev s__law_code : Stmt := topS 37
theorem sc__law_code : FnScope ["_law_w", "_law_x", "_law_y"] ["_law_w"] (defScope s__law_code) := ⟨rfl, rfl, rfl, by decide +kernel, rfl, by decide +kernel, by decide +kernel⟩
abbrev s__law_laid : Stmt := topS 38
theorem sc__law_laid : FnScope ["_law_w", "_law_web", "_law_sign", "_law_left"] ["_law_w", "_law_web", "_law_sign"] (defScope s__law_laid) := ⟨rfl, rfl, rfl, by decide +kernel, rfl, by decide +kernel, by decide +kernel⟩
abbrev s__law_led : Stmt := topS 39
theorem sc__law_led : FnScope ["_law_w", "_law_web", "_law_items", "_law_item"] ["_law_w", "_law_web", "_law_items"] (defScope s__law_led) := ⟨rfl, rfl, rfl, by decide +kernel, rfl, by decide +kernel, by decide +kernel⟩
abbrev s__law_weft : Stmt := topS 40
theorem sc__law_weft : FnScope ["_law_deck_here", "_law_letters", "_law_most", "_law_looks", "_law_weft_here", "_law_go", "_law_sign"] ["_law_deck_here", "_law_letters", "_law_most"] (defScope s__law_weft) := ⟨rfl, rfl, rfl, by decide +kernel, rfl, by decide +kernel, by decide +kernel⟩
abbrev s__law_shelf : Stmt := topS 41
theorem sc__law_shelf : FnScope ["_law_deck_here", "_law_letters", "_law_many", "_law_go"] ["_law_deck_here", "_law_letters"] (defScope s__law_shelf) := ⟨rfl, rfl, rfl, by decide +kernel, rfl, by decide +kernel, by decide +kernel⟩
abbrev s__law_course : Stmt := topS 42
theorem sc__law_course : FnScope ["_law_w", "_law_shelf_here", "_law_web", "_law_course_here", "_law_number"] ["_law_w", "_law_shelf_here", "_law_web", "_law_course_here"] (defScope s__law_course) := ⟨rfl, rfl, rfl, by decide +kernel, rfl, by decide +kernel, by decide +kernel⟩
abbrev s__law_walk : Stmt := topS 43
theorem sc__law_walk : FnScope ["_law_deck_here", "_law_w", "_law_shelf_here", "_law_web", "_law_most", "_law_found", "_law_go", "_law_here", "_law_some", "_law_k"] ["_law_deck_here", "_law_w", "_law_shelf_here", "_law_web", "_law_most"] (defScope s__law_walk) := ⟨rfl, rfl, rfl, by decide +kernel, rfl, by decide +kernel, by decide +kernel⟩
abbrev s__law_odd : Stmt := topS 44
theorem sc__law_odd : FnScope ["_law_deck_here", "_law_it", "_law_some"] ["_law_deck_here", "_law_it"] (defScope s__law_odd) := ⟨rfl, rfl, rfl, by decide +kernel, rfl, by decide +kernel, by decide +kernel⟩
abbrev s__law_spoilt : Stmt := topS 45
theorem sc__law_spoilt : FnScope ["_law_deck_here", "_law_it", "_law_at"] ["_law_deck_here", "_law_it"] (defScope s__law_spoilt) := ⟨rfl, rfl, rfl, by decide +kernel, rfl, by decide +kernel, by decide +kernel⟩
abbrev s__law_is_weft : Stmt := topS 46
theorem sc__law_is_weft : FnScope ["_law_letters", "_law_it", "_law_every", "_law_sign", "_law_item"] ["_law_letters", "_law_it"] (defScope s__law_is_weft) := ⟨rfl, rfl, rfl, by decide +kernel, rfl, by decide +kernel, by decide +kernel⟩
abbrev s__law_is_shelf : Stmt := topS 47
theorem sc__law_is_shelf : FnScope ["_law_letters", "_law_it", "_law_weft_here"] ["_law_letters", "_law_it"] (defScope s__law_is_shelf) := ⟨rfl, rfl, rfl, by decide +kernel, rfl, by decide +kernel, by decide +kernel⟩
abbrev s__law_fault : Stmt := topS 48
theorem sc__law_fault : FnScope ["_law_shelf_here", "_law_it", "_law_bad", "_law_k", "_law_x"] ["_law_shelf_here", "_law_it"] (defScope s__law_fault) := ⟨rfl, rfl, rfl, by decide +kernel, rfl, by decide +kernel, by decide +kernel⟩
abbrev s__law_heard : Stmt := topS 49
theorem sc__law_heard : FnScope ["_law_code_here", "_law_shelf_here", "_law_web", "_law_course_here", "_law_way", "_law_found", "e"] ["_law_code_here", "_law_shelf_here", "_law_web", "_law_course_here", "_law_way"] (defScope s__law_heard) := ⟨rfl, rfl, rfl, by decide +kernel, rfl, by decide +kernel, by decide +kernel⟩
abbrev s__law_led_right : Stmt := topS 50
theorem sc__law_led_right : FnScope ["_law_deck_here", "_law_w", "_law_code_here", "_law_shelf_here", "_law_web", "_law_it", "_law_bad", "_law_due", "_law_at", "_law_there", "_law_way"] ["_law_deck_here", "_law_w", "_law_code_here", "_law_shelf_here", "_law_web", "_law_it"] (defScope s__law_led_right) := ⟨rfl, rfl, rfl, by decide +kernel, rfl, by decide +kernel, by decide +kernel⟩
abbrev s__law_shelves_right : Stmt := topS 51
theorem sc__law_shelves_right : FnScope ["_law_deck_here", "_law_letters", "_law_shelf_here", "_law_some", "_law_go", "_law_bent", "_law_it", "_law_was", "_law_due"] ["_law_deck_here", "_law_letters", "_law_shelf_here"] (defScope s__law_shelves_right) := ⟨rfl, rfl, rfl, by decide +kernel, rfl, by decide +kernel, by decide +kernel⟩
abbrev s_law : Stmt := topS 52
theorem sc_law : FnScope ["_law_script", "_law_deck_here", "_law_go", "_law_w", "_law_code_here", "_law_shelf_here", "_law_web", "_law_walk_here", "_law_any_one", "_law_some", "_law_page", "_law_due", "_law_said", "_law_k", "_law_it", "_law_way"] ["_law_script"] (defScope s_law) := ⟨rfl, rfl, rfl, by decide +kernel, rfl, by decide +kernel, by decide +kernel⟩
end Lw

namespace Lw
open PySem PySem.Spec PyProof.Rows L2 Mq
open SX (S)
/-! ### letters -/
def ascB (l : List Nat) : Bool := ((List.range (l.length - 1)).map fun k => decide (l.getD k 0 < l.getD (k + 1) 0)).all id
theorem lt_sign (c d : Nat) : decide ((S [c]).cps.toList < (S [d]).cps.toList) = decide (c < d) := by
  have h : ((S [c]).cps.toList < (S [d]).cps.toList) ↔ c < d := by
    show ([c] : List Nat) < [d] ↔ c < d
    rw [List.cons_lt_cons_iff]
    simp
  exact decide_eq_decide.mpr h
theorem sz_le {n : Nat} (h : n ≤ 1000000) : n ≤ sizeLine := Nat.le_trans h (by decide)
theorem sz_lt {n : Nat} (h : n ≤ 1000000) : n < sizeLine := Nat.lt_of_le_of_lt h (by decide)
theorem at_get {l : List Nat} {k : Nat} (h : k < l.length) : atI (S l).cps.toList (k : Int) = some (l.getD k 0) := by
  refine atI_nat ?_
  show l[k]? = _
  rw [List.getElem?_eq_getElem h, List.getD_eq_getElem?_getD, List.getElem?_eq_getElem h]
  rfl
theorem ix_sign {l : List Nat} {k : Nat} {H : Hp} {Q : VK} (hl : l.length ≤ 100000) (h : k < l.length) (q : Q (.str (S [l.getD k 0])) H) : rIxS (.str (S l)) (.int (k : Int)) H Q :=
  ⟨S l, (k : Int), l.getD k 0, rfl, rfl, sz_le (by rw [SX.S_len]; omega), at_get h, q⟩
theorem len_S {K : PySem.W.Frag} {H : Hp} {l : List Nat} (hl : l.length ≤ 100000) : LenV K (.str (S l)) H (l.length : Nat) := by
  have hz := SX.S_len l
  refine ⟨?_, ?_⟩
  · rw [hz]
    exact sz_le (by omega)
  · rw [hz]
def spAsc : Sp := fun vs H Q _ => ∃ l : List Nat, vs = [.str (S l)] ∧ l.length ≤ 100000 ∧ ∀ H', Same H H' → Q (.bl (ascB l)) H'
section
variable {P : Program} {w : World} {K : PySem.W.Frag} {mg : Str → Option Value} {base : Heap}
theorem ok_is_ascending {f : Addr} {fd : FuncData} (F : Fun K "is_ascending" "is_ascending" s_is_ascending f fd) (B : Blt mg) :
    FnOk P w K mg base CX0 1 f fd ["parts"] spAsc := by
  refine F.ok sc_is_ascending (fun vs H Q E h => ?_) (fun cdv A outer s H vs Q E hr h => ?_)
  · obtain ⟨l, rfl, _⟩ := h
    rfl
  · obtain ⟨l, rfl, hl, q⟩ := h
    have hz : (S l).length = l.length := SX.S_len l
    refine ⟨_, pss_one (ps_ret (pe_callB (cr_all rfl) (by rfl) B.all (by decide +kernel) (pa_cons (pe_lc (own := [("k", 1)]) (g := gName 1) (tt := tYes) rfl sc_is_ascending.nd
      (pi_range1 (by rfl) B.range (pa_cons (pe_op op_sub (pe_callB call_len (by rfl) B.len (by decide +kernel) (pa_cons (pv 0) pa_nil)) pe_int) pa_nil))
      (blkOk_by (own := [("k", 1)]) (N := ["parts", "k"]) (sc := defScope s_is_ascending) (by decide +kernel)) (fun _ _ _ _ _ => pg_name (i := 1) sc_is_ascending.nd rfl (Or.inl rfl)) (fun _ _ _ _ _ => pts_nil)
      (fun _ _ _ _ _ => pe_cmpR op_lt_str (pe_ix ix_str (pv 0) (pv 1) (fun _ _ => rfl)) (pe_ix ix_str (pv 0) (pe_op op_add (pv 1) pe_int) (fun _ _ => rfl)) (nomark _))) pa_nil))), ?_⟩
    have e1 : ((l.length : Int) - 1).toNat = l.length - 1 := by omega
    unfold tRet tCB tCons
    refine lc_map (n := l.length - 1) walk_rng (fun k => .bl (decide (l.getD k 0 < l.getD (k + 1) 0))) (by omega) (fun R k => ?_) (fun _ _ _ _ _ => trivial) ?_ ?_
    · refine ⟨.str (S l), rfl, .str (S l), l.length, rfl, len_S hl, _, _, rfl, rfl, (l.length : Int) - 1, rfl, by omega, by omega, ?_⟩
      rw [e1]
      exact k _ (Same.refl _) trivial
    · rintro i x H' H'' R hi sm ⟨rfl, rfl⟩ k
      refine ⟨rfl, .str (S l), rfl, .int (i : Nat), rfl, ?_⟩
      refine ix_sign hl (by omega) ⟨.str (S l), rfl, .int (i : Nat), rfl, _, _, rfl, rfl, ?_⟩
      refine ix_sign (k := i + 1) hl (by omega) ?_
      refine ⟨S [l.getD i 0], S [l.getD (i + 1) 0], rfl, rfl, ?_⟩
      rw [lt_sign]
      exact k _ (Same.refl _)
    · intro D H' hD sm hl'
      refine ⟨D, (List.range (l.length - 1)).map fun k => decide (l.getD k 0 < l.getD (k + 1) 0), rfl, SqL.of ?_, q H' sm⟩
      rw [List.map_map]
      exact hl'
end
end Lw

namespace Lw
open PySem PySem.Spec PyProof.Rows L2 Mq
open SX (S)
def alpha : List Nat := List.range' 97 26
theorem alpha_is : ("abcdefghijklmnopqrstuvwxyz" : Str) = S alpha := by decide +kernel
def inB (c : Nat) (l : List Nat) : Bool := decide (c ∈ l)
def allB (l s : List Nat) : Bool := ((List.range l.length).map fun k => inB (l.getD k 0) s).all id
def lettersB (l : List Nat) : Bool := !decide (l = []) && (ascB l && allB l alpha)
/-- a value of a known kind that is no text -/
def NoStr (K : PySem.W.Frag) (H : Hp) (v : V) : Prop := ∃ a, TyX K H v (.type a) ∧ a ∈ ["NoneType", "bool", "int", "str", "list", "tuple", "dict"] ∧ a ≠ "str"
theorem kit_no {K : PySem.W.Frag} {a : String} (m : a ∈ ["NoneType", "bool", "int", "str", "list", "tuple", "dict"]) (n : a ≠ "str") : PySem.W.kitOne K (.type a) (.type "str") = some false :=
  kit_ty (by rw [kit_known a "str" m (by simp), decide_eq_false n])
theorem kit_self {K : PySem.W.Frag} : PySem.W.kitOne K (.type "str") (.type "str") = some true := kit_ty (by decide +kernel)
theorem str_is_nil (l : List Nat) : decide (V.str (S l) = V.str "") = decide (l = []) := by
  refine decide_eq_decide.mpr ⟨fun h => ?_, fun h => by rw [h]; rfl⟩
  have h1 : S l = S [] := V.str.inj h
  exact SX.S_inj h1
theorem walk_S (l : List Nat) : Walk (Its (S l)) l.length (fun _ => True) (YFn fun i => .str (S [l.getD i 0])) := by
  refine walk_str.mono (fun _ h => h) (fun i H x H' hi _ y => ⟨y.1, ?_⟩)
  obtain ⟨_, c, hc, rfl⟩ := y
  have hc' : l[i]? = some c := by simpa using hc
  show V.str (S [c]) = V.str (S [l.getD i 0])
  rw [List.getD_eq_getElem?_getD, hc']
  rfl
/-- what a name is looked up in: letters, signs -/
def spLetters (K : PySem.W.Frag) : Sp := fun vs H Q _ => ∃ v, vs = [v] ∧
  ((∃ l : List Nat, v = .str (S l) ∧ l.length ≤ 100000 ∧ ∀ H', Same H H' → Q (.bl (lettersB l)) H') ∨ (NoStr K H v ∧ ∀ H', Same H H' → Q (.bl false) H'))
def spWord (K : PySem.W.Frag) : Sp := fun vs H Q _ => ∃ (s : List Nat) (v : V), vs = [.str (S s), v] ∧
  ((∃ l : List Nat, v = .str (S l) ∧ l.length ≤ 100000 ∧ ∀ H', Same H H' → Q (.bl (allB l s)) H') ∨ (NoStr K H v ∧ ∀ H', Same H H' → Q (.bl false) H'))
section
variable {P : Program} {w : World} {K : PySem.W.Frag} {mg : Str → Option Value} {base : Heap}
theorem ok_is_letters {f fA : Addr} {fd fdA : FuncData} (F : Fun K "is_letters" "is_letters" s_is_letters f fd) (B : Blt mg)
    (FA : Fun K "is_ascending" "is_ascending" s_is_ascending fA fdA) (gA : mg "is_ascending" = some (.ref fA)) (bA : Binds K fdA ["parts"] [])
    (al : ∃ t, mg "ALPHABET" = some (.str "abcdefghijklmnopqrstuvwxyz" t)) :
    FnOk P w K mg base CX0 2 f fd ["thing"] (spLetters K) := by
  have GA : FnOk P w K mg base CX0 1 fA fdA ["parts"] spAsc := ok_is_ascending FA B
  obtain ⟨ta, al⟩ := al
  refine F.ok sc_is_letters (fun vs H Q E h => ?_) (fun cdv A outer s H vs Q E hr h => ?_)
  · obtain ⟨v, rfl, _⟩ := h
    rfl
  · obtain ⟨v, rfl, h⟩ := h
    refine ⟨_, pss_cons (ps_if (PW.pt (pw_or (pt_not (pt_val (pe_callB call_isi (by rfl) B.isi (by decide +kernel) (pa_cons (pv 0) (pa_cons (pe_bltn (v := .ty "str") (by rfl) B.str (by decide +kernel) rfl) pa_nil)))))
        (pw_or1 (pt_cmpR op_eq (pv 0) pe_str (nomark _))))) (pss_one (ps_ret pe_bl)) pss_nil)
      (pss_one (ps_ret (pe_and (pe_call GA (hr.mono (by decide)) (by rfl) gA FA.kp bA .nil pass0 (pa_cons (pv 0) pa_nil))
        (pe_one (pe_callB (cr_all rfl) (by rfl) B.all (by decide +kernel) (pa_cons (pe_lc (own := [("letter", 1)]) (g := gName 1) (tt := tYes) rfl sc_is_letters.nd (pi_str (pv 0))
          (blkOk_by (own := [("letter", 1)]) (N := ["thing", "letter"]) (sc := defScope s_is_letters) (by decide +kernel)) (fun _ _ _ _ _ => pg_name (i := 1) sc_is_letters.nd rfl (Or.inl rfl)) (fun _ _ _ _ _ => pts_nil)
          (fun _ _ _ _ _ => pe_cmpR op_in_sign (pv 1) (pe_glob (v := .str "abcdefghijklmnopqrstuvwxyz") rfl al ⟨_, rfl⟩) rfl)) pa_nil)))))), ?_⟩
    rcases h with ⟨l, rfl, hl, q⟩ | ⟨hn, q⟩
    · refine ⟨.str (S l), rfl, .str (S l), .ty "str", _, _, true, rfl, .ty _, .base (.str _), kit_self, true, rfl, iteF ⟨.str (S l), rfl, rfl, _, rfl, ?_⟩⟩
      rw [str_is_nil]
      cases e : decide (l = []) with
      | true =>
        refine iteT ?_
        have q' := q H (Same.refl H)
        unfold lettersB at q'
        rw [e] at q'
        exact q'
      | false =>
        refine iteF ⟨.str (S l), rfl, l, rfl, hl, fun H1 s1 => ⟨_, rfl, ?_⟩⟩
        have q' : ∀ H', Same H H' → Q (.bl (ascB l && allB l alpha)) H' := fun H' sm => by
          have z := q H' sm
          unfold lettersB at z
          rw [e] at z
          exact z
        cases ea : ascB l with
        | false =>
          refine iteF ?_
          have z := q' H1 s1
          rw [ea] at z
          exact z
        | true =>
          refine iteT ?_
          rw [ea] at q'
          unfold tCB tCons
          refine lc_map (n := l.length) (walk_S l) (fun k => .bl (inB (l.getD k 0) alpha)) (by omega) (fun R k => ⟨_, rfl, S l, rfl, k _ (Same.refl _) trivial⟩) (fun _ _ _ _ _ => trivial) ?_ ?_
          · rintro i x H' H'' R hi sm ⟨rfl, rfl⟩ k
            refine ⟨rfl, .str (S [l.getD i 0]), rfl, ?_⟩
            rw [alpha_is]
            exact ⟨l.getD i 0, S alpha, rfl, rfl, k _ (Same.refl _)⟩
          · intro D H' hD sm hl'
            refine ⟨D, (List.range l.length).map fun k => inB (l.getD k 0) alpha, rfl, SqL.of ?_, q' H' (s1.trans sm)⟩
            rw [List.map_map]
            exact hl'
    · obtain ⟨a, t, m, n⟩ := hn
      exact ⟨v, rfl, v, .ty "str", .type a, _, false, rfl, .ty _, t, kit_no m n, false, rfl, iteT (iteT (q H (Same.refl H)))⟩
theorem ok_is_word {f : Addr} {fd : FuncData} (F : Fun K "is_word" "is_word" s_is_word f fd) (B : Blt mg) : FnOk P w K mg base CX0 1 f fd ["letters", "thing"] (spWord K) := by
  refine F.ok sc_is_word (fun vs H Q E h => ?_) (fun cdv A outer s H vs Q E hr h => ?_)
  · obtain ⟨s, v, rfl, _⟩ := h
    rfl
  · obtain ⟨sg, v, rfl, h⟩ := h
    refine ⟨_, pss_one (ps_ret (pe_and (pe_callB call_isi (by rfl) B.isi (by decide +kernel) (pa_cons (pv 1) (pa_cons (pe_bltn (v := .ty "str") (by rfl) B.str (by decide +kernel) rfl) pa_nil)))
      (pe_one (pe_callB (cr_all rfl) (by rfl) B.all (by decide +kernel) (pa_cons (pe_lc (own := [("letter", 2)]) (g := gName 2) (tt := tYes) rfl sc_is_word.nd (pi_str (pv 1))
        (blkOk_by (own := [("letter", 2)]) (N := ["letters", "thing", "letter"]) (sc := defScope s_is_word) (by decide +kernel)) (fun _ _ _ _ _ => pg_name (i := 2) sc_is_word.nd rfl (Or.inl rfl)) (fun _ _ _ _ _ => pts_nil)
        (fun _ _ _ _ _ => pe_cmpR op_in_sign (pv 2) (pv 0) rfl)) pa_nil))))), ?_⟩
    rcases h with ⟨l, rfl, hl, q⟩ | ⟨hn, q⟩
    · refine ⟨.str (S l), rfl, .str (S l), .ty "str", _, _, true, rfl, .ty _, .base (.str _), kit_self, true, rfl, iteT ?_⟩
      unfold tCB tCons
      refine lc_map (n := l.length) (walk_S l) (fun k => .bl (inB (l.getD k 0) sg)) (by omega) (fun R k => ⟨_, rfl, S l, rfl, k _ (Same.refl _) trivial⟩) (fun _ _ _ _ _ => trivial) ?_ ?_
      · rintro i x H' H'' R hi sm ⟨rfl, rfl⟩ k
        exact ⟨rfl, .str (S [l.getD i 0]), rfl, .str (S sg), rfl, l.getD i 0, S sg, rfl, rfl, k _ (Same.refl _)⟩
      · intro D H' hD sm hl'
        refine ⟨D, (List.range l.length).map fun k => inB (l.getD k 0) sg, rfl, SqL.of ?_, q H' sm⟩
        rw [List.map_map]
        exact hl'
    · obtain ⟨a, t, m, n⟩ := hn
      exact ⟨v, rfl, v, .ty "str", .type a, _, false, rfl, .ty _, t, kit_no m n, false, rfl, iteF (q H (Same.refl H))⟩
theorem ok_is_web {f fW : Addr} {fd fdW : FuncData} (F : Fun K "is_web" "is_web" s_is_web f fd) (B : Blt mg)
    (FW : Fun K "is_word" "is_word" s_is_word fW fdW) (gW : mg "is_word" = some (.ref fW)) (bW : Binds K fdW ["letters", "thing"] []) :
    FnOk P w K mg base CX0 2 f fd ["letters", "thing"] (spWord K) := by
  have GW : FnOk P w K mg base CX0 1 fW fdW ["letters", "thing"] (spWord K) := ok_is_word FW B
  refine F.ok sc_is_web (fun vs H Q E h => ?_) (fun cdv A outer s H vs Q E hr h => ?_)
  · obtain ⟨s, v, rfl, _⟩ := h
    rfl
  · have h' := h
    obtain ⟨sg, v, rfl, _⟩ := h'
    exact ⟨_, pss_one (ps_ret (pe_call GW (hr.mono (by decide)) (by rfl) gW FW.kp bW .nil pass0 (pa_cons (pv 0) (pa_cons (pv 1) pa_nil)))), _, rfl, _, rfl, h⟩
end
end Lw

namespace Lw
open PySem PySem.Spec PyProof.Rows L2 Mq
open SX (S)
theorem ifF {c : Bool} {p q : Prop} (h : c = false) (hq : q) : (if c = true then p else q) := by rw [h]; exact hq
theorem ifT {c : Bool} {p q : Prop} (h : c = true) (hp : p) : (if c = true then p else q) := by rw [h]; exact hp
theorem len_tup {K : PySem.W.Frag} {H : Hp} {a : Addr} {xs : List V} (h : SqT K H a xs) : LenV K (.ref a) H xs.length := Or.inr ⟨xs, h, rfl⟩
theorem sql_mv {K : PySem.W.Frag} {H H' : Hp} {a : Addr} {xs : List V} (e : Same H H') (h : SqL K H a xs) : SqL K H' a xs := by
  rcases h with (h | ⟨o, h⟩) | h
  · exact Or.inl (Or.inl (e _ _ h))
  · exact Or.inl (Or.inr ⟨o, e _ _ h⟩)
  · exact Or.inr h
theorem ps_dead {X : Cx} {st : Stmt} : PS X st (fun _ _ _ => False) := ⟨fun _ _ _ _ _ _ h => h.elim⟩
theorem pos_of {α : Type} {l : List α} (h : l ≠ []) : 0 < l.length := by
  cases l with
  | nil => exact (h rfl).elim
  | cons a l => exact Nat.zero_lt_succ _
theorem allB_of {sg w : List Nat} (h : ∀ c ∈ w, c ∈ sg) : allB w sg = true := by
  unfold allB
  rw [List.all_map, List.all_eq_true]
  intro k hk
  have hk' := List.mem_range.mp hk
  refine decide_eq_true (h _ ?_)
  rw [List.getD_eq_getElem?_getD, List.getElem?_eq_getElem hk']
  exact List.getElem_mem hk'
def wordOk (sg w : List Nat) : Prop := (∀ c ∈ w, c ∈ sg) ∧ w.length ≤ 1000
end Lw

namespace Lw
open PySem PySem.Spec PyProof.Rows L2 Mq
open SX (S)
/-! ### the deck -/
def deckKv (c : Addr) (m : Int) (t : Nat) : List (Key × V) := [(.inr "rest", .ref c), (.inr "mixed", .int m), (.inr "draws", .int (t : Nat))]
structure DeckAt (D C : Addr) (T : Nat) (H : Hp) : Prop where
  ex : ∃ (m : Int) (t : Nat) (js : List Int), H D = some (.dK (deckKv C m t)) ∧ H C = some (.lst (js.map V.int)) ∧ js.length ≤ 100 ∧ t ≤ T
def Off (D C : Addr) (H H' : Hp) : Prop := ∀ b o, b ≠ D → b ≠ C → H b = some o → H' b = some o
theorem Off.refl (D C : Addr) (H : Hp) : Off D C H H := fun _ _ _ _ e => e
theorem Off.trans {D C : Addr} {H H' H'' : Hp} (a : Off D C H H') (b : Off D C H' H'') : Off D C H H'' := fun x o h1 h2 e => b x o h1 h2 (a x o h1 h2 e)
theorem Off.same {D C : Addr} {H H' : Hp} (e : Same H H') : Off D C H H' := fun b o _ _ h => e b o h
theorem DeckAt.same {D C : Addr} {T : Nat} {H H' : Hp} (h : DeckAt D C T H) (e : Same H H') : DeckAt D C T H' := let ⟨m, t, js, a, b, c, d⟩ := h.ex; ⟨m, t, js, e _ _ a, e _ _ b, c, d⟩
theorem DeckAt.mono {D C : Addr} {T T' : Nat} {H : Hp} (h : DeckAt D C T H) (e : T ≤ T') : DeckAt D C T' H := let ⟨m, t, js, a, b, c, d⟩ := h.ex; ⟨m, t, js, a, b, c, Nat.le_trans d e⟩
theorem DeckAt.ne {D C : Addr} {T : Nat} {H : Hp} (h : DeckAt D C T H) : C ≠ D := by
  obtain ⟨m, t, js, a, b, c, d⟩ := h.ex
  rintro rfl
  rw [a] at b
  cases b
/-- what is no list and no dict is none of the deck's -/
theorem Off.at {D C : Addr} {T : Nat} {H H' : Hp} {a : Addr} {o : HO} (f : Off D C H H') (k : DeckAt D C T H) (h : H a = some o) (n : (∀ xs, o ≠ .lst xs) ∧ ∀ kvs, o ≠ .dK kvs) : H' a = some o := by
  obtain ⟨m, t, js, x, y, _, _⟩ := k.ex
  refine f a o ?_ ?_ h
  · rintro rfl
    rw [x] at h
    cases h
    exact n.2 _ rfl
  · rintro rfl
    rw [y] at h
    cases h
    exact n.1 _ rfl
theorem Off.tup {K : PySem.W.Frag} {D C : Addr} {T : Nat} {H H' : Hp} {a : Addr} {xs : List V} (f : Off D C H H') (k : DeckAt D C T H) (h : SqT K H a xs) : SqT K H' a xs := by
  rcases h with (h | ⟨o, h⟩) | h
  · exact Or.inl (Or.inl (f.at k h ⟨(fun _ z => nomatch z), (fun _ z => nomatch z)⟩))
  · exact Or.inl (Or.inr ⟨o, f.at k h ⟨(fun _ z => nomatch z), (fun _ z => nomatch z)⟩⟩)
  · exact Or.inr h
theorem dp_ints' {K : PySem.W.Frag} {H : Hp} : ∀ js : List Int, DpAll K H (js.map V.int) (js.map PyData.int)
  | [] => .nil
  | t :: ts => .cons (.int _) (dp_ints' ts)
theorem lay_ints' (js : List Int) : PyData.canLayAll0 (js.map PyData.int) = true ∧ PyData.depthAll (js.map PyData.int) = 0 := by
  induction js with
  | nil => exact ⟨rfl, rfl⟩
  | cons t ts ih =>
    refine ⟨ih.1, ?_⟩
    show max 0 _ = 0
    rw [ih.2]
    rfl
theorem shaped_ints (js : List Int) : SeqAt.shaped (.list (js.map PyData.int)) = true := by
  unfold SeqAt.shaped
  obtain ⟨a, b⟩ := lay_ints' js
  rw [show (PyData.list (js.map PyData.int)).canLay0 = true from a]
  have : (PyData.list (js.map PyData.int)).depth ≤ 64 := by
    show PyData.depthAll _ + 1 ≤ 64
    omega
  rw [decide_eq_true this]
  rfl
def spDraw : Sp := fun vs H Q _ => ∃ (D C : Addr) (T b : Nat), vs = [.ref D, .int (b : Nat)] ∧ DeckAt D C T H ∧ T ≤ 1000000 ∧ 0 < b ∧ b ≤ 1000000 ∧
  ∀ H' (r : Nat), r < b → DeckAt D C (T + 1) H' → Off D C H H' → Q (.int (r : Nat)) H'
theorem fmod_nat (i : Int) {b : Nat} (h : 0 < b) : ∃ r : Nat, i.fmod (b : Int) = (r : Nat) ∧ r < b := by
  have h1 : 0 ≤ i.fmod (b : Int) := Int.fmod_nonneg_of_pos i (by omega)
  have h2 : i.fmod (b : Int) < b := Int.fmod_lt_of_pos i (by omega)
  exact ⟨(i.fmod b).toNat, by omega, by omega⟩
theorem bound_mod (i : Int) : -(2 ^ 64) < i.fmod 2147483647 ∧ i.fmod 2147483647 < 2 ^ 64 := by
  obtain ⟨r, e, l⟩ := fmod_nat i (b := 2147483647) (by decide)
  have e' : i.fmod 2147483647 = (r : Nat) := e
  rw [e']
  omega
theorem mod_fin {b : Nat} (h : 0 < b) (i : Int) {H : Hp} {Q : VK} (k : ∀ r : Nat, r < b → Q (.int (r : Nat)) H) : Q (.int (i.fmod (b : Nat))) H := by
  obtain ⟨r, e, l⟩ := fmod_nat i h
  rw [e]
  exact k r l
section
variable {P : Program} {w : World} {K : PySem.W.Frag} {mg : Str → Option Value} {base : Heap}
theorem ok_draw {f : Addr} {fd : FuncData} (F : Fun K "_law_draw" "_law_draw" s__law_draw f fd) (B : Blt mg) :
    FnOk P w K mg base CX0 1 f fd ["_law_deck_here", "_law_below"] spDraw := by
  refine F.ok sc__law_draw (fun vs H Q E h => ?_) (fun cdv A outer s H vs Q E hr h => ?_)
  · obtain ⟨_, _, _, _, rfl, _⟩ := h
    rfl
  · obtain ⟨D, C, T, b, rfl, hdk, hT, hb0, hb1, q⟩ := h
    have hu : (A.deeper (envOfC "_law_draw" (defScope s__law_draw) s.heap.objs.size f cdv)).units + 64 < cLine := by
      have := hr.units
      omega
    have hu1 : (A.deeper (envOfC "_law_draw" (defScope s__law_draw) s.heap.objs.size f cdv)).units + 1 < cLine := by omega
    refine ⟨_, (pss_cons (ps_dput hu1 (pv 0) pe_str (pe_op op_add (pe_dget hu1 (pv 0) pe_str (fun _ _ => rfl)) pe_int) rfl)
    (pss_cons (ps_par (i := 2) (j := 3) rfl sc__law_draw.nd rfl rfl (by decide) rfl rfl (pa_cons (pe_dget hu1 (pv 0) pe_str (fun _ _ => rfl)) (pa_cons (pe_dget hu1 (pv 0) pe_str (fun _ _ => rfl)) pa_nil)) (by rfl))
    (pss_cons (ps_if (pt_cmpR (op_neD hu) (pe_dget hu1 (pv 0) pe_str (fun _ _ => rfl)) (pe_ls pa_nil) (nomark _)) (pss_cons (ps_set (i := 4) sc__law_draw.nd rfl (Or.inl rfl) (pe_bm0 PySem.F.plainAttrs_list PySem.F.slot_list_pop PySem.F.type_list_pop mt_pop (pe_dget hu1 (pv 0) pe_str (fun _ _ => rfl))))
      (pss_cons (ps_if (pt_cmpR op_ge (pv 4) (pe_op op_pow pe_int pe_int) (nomark _)) (pss_cons (ps_expr (pe_bm PySem.F.plainAttrs_list PySem.F.slot_list_append PySem.F.type_list_append mt_append (pe_dget hu1 (pv 0) pe_str (fun _ _ => rfl)) (pa_cons (pe_op op_fdivN (pv 4) (pv 1)) pa_nil)))
        (pss_one (ps_ret (pe_op op_modN (pe_callTy call_int1 (by rfl) B.int (by decide +kernel) (pa_cons (pv 4) pa_nil)) (pv 1))))) pss_nil)
      (pss_one (ps_set (i := 2) sc__law_draw.nd rfl (Or.inl rfl) (pe_op op_add (pv 2) (pe_op op_modN (pe_callTy call_int1 (by rfl) B.int (by decide +kernel) (pa_cons (pv 4) pa_nil)) pe_int)))))) pss_nil)
    (pss_cons (ps_set (i := 2) sc__law_draw.nd rfl (Or.inl rfl) (pe_op op_mul (pe_callTy call_int1 (by rfl) B.int (by decide +kernel) (pa_cons (pe_op op_add (pe_op op_add (pe_op op_modN (pe_callTy call_int1 (by rfl) B.int (by decide +kernel) (pa_cons (pv 2) pa_nil)) pe_int) (pe_op op_mul (pe_op op_mul pe_int (pv 3)) (pv 3))) pe_int) pa_nil)) pe_int))
    (pss_cons (ps_set (i := 2) sc__law_draw.nd rfl (Or.inl rfl) (pe_op op_modN (pe_callTy call_int1 (by rfl) B.int (by decide +kernel) (pa_cons (pv 2) pa_nil)) pe_int))
    (pss_cons (ps_set (i := 2) sc__law_draw.nd rfl (Or.inl rfl) (pe_op op_modN (pe_callTy call_int1 (by rfl) B.int (by decide +kernel) (pa_cons (pe_op op_add (pe_op op_add (pe_op op_mul (pv 2) (pv 2)) (pe_op op_mul pe_int (pv 3))) pe_int) pa_nil)) pe_int))
    (pss_one (ps_ret (pe_op op_modN (pe_op op_fdivN (pe_op op_modN (pe_callTy call_int1 (by rfl) B.int (by decide +kernel) (pa_cons (pe_op op_mul (pv 2) pe_int) pa_nil)) pe_int) pe_int) (pv 1)))))))))), ?_⟩
    obtain ⟨m, t, js, hD, hC, hjs, ht⟩ := hdk.ex
    have ne := hdk.ne
    have e : ((t : Nat) : Int) + 1 = ((t + 1 : Nat) : Int) := by omega
    have eH : upd H D (.dK (deckKv C m (t + 1))) = upd H D (.dK (putK (deckKv C m t) (.inr "draws") (.int (((t : Nat) : Int) + 1)))) := by
      rw [e]
      rfl
    have o1 : Off D C H (upd H D (.dK (deckKv C m (t + 1)))) := fun x o h1 h2 h => (upd_ne h1).trans h
    have hD1 : upd H D (.dK (deckKv C m (t + 1))) D = some (.dK (deckKv C m (t + 1))) := upd_same
    have hC1 : upd H D (.dK (deckKv C m (t + 1))) C = some (.lst (js.map V.int)) := (upd_ne ne).trans hC
    refine ⟨_, rfl, D, .int (t : Nat), rfl, (DGet.k (k := .inr "draws") hD : DGet H D (.str "draws") (some (.int (t : Nat)))), _, _, rfl, rfl, _, rfl, D, upd H D (.dK (deckKv C m (t + 1))), rfl, Or.inl ⟨deckKv C m t, .inr "draws", hD, rfl, sz_lt (by show 3 ≤ _; decide), eH⟩, ?_⟩
    generalize upd H D (.dK (deckKv C m (t + 1))) = H1 at o1 hD1 hC1 ⊢
    have gT : ∀ {H2 : Hp}, H2 D = some (.dK (deckKv C m (t + 1))) → DGet H2 D (.str "draws") (some (.int (t + 1 : Nat))) := fun h => DGet.k (k := .inr "draws") h
    have gM : ∀ {H2 : Hp}, H2 D = some (.dK (deckKv C m (t + 1))) → DGet H2 D (.str "mixed") (some (.int m)) := fun h => DGet.k (k := .inr "mixed") h
    have gC : ∀ {H2 : Hp}, H2 D = some (.dK (deckKv C m (t + 1))) → DGet H2 D (.str "rest") (some (.ref C)) := fun h => DGet.k (k := .inr "rest") h
    have cT : -(2 ^ 64) < (((t + 1 : Nat)) : Int) ∧ (((t + 1 : Nat)) : Int) < 2 ^ 64 := by omega
    refine ⟨_, rfl, D, _, rfl, gM hD1, _, rfl, D, _, rfl, gT hD1, _, _, rfl, ?_⟩
    refine ⟨_, rfl, D, _, rfl, gC hD1, sz_le (n := 0) (by decide), fun p hp _ => ?_⟩
    have sp1 : Same H1 (upd H1 p (.lst [])) := same_new hp
    refine ⟨.list (js.map PyData.int), .list [], .lst (SqL.of (sp1 _ _ hC1)) (dp_ints' js), .lst (SqL.of upd_same) .nil, shaped_ints js, by decide +kernel, _, rfl, ?_⟩
    have hD2 := sp1 _ _ hD1
    have hC2 := sp1 _ _ hC1
    have o2 : Off D C H (upd H1 p (.lst [])) := o1.trans (Off.same sp1)
    generalize upd H1 p (.lst []) = H2 at hD2 hC2 o2 ⊢
    have fin : ∀ (H3 : Hp) (js' : List Int), H3 D = some (.dK (deckKv C m (t + 1))) → H3 C = some (.lst (js'.map V.int)) → js'.length ≤ 100 → Off D C H H3 → ∀ r : Nat, r < b → Q (.int (r : Nat)) H3 :=
      fun H3 js' h1 h2 h3 h4 r hr => q H3 r hr ⟨m, t + 1, js', h1, h2, h3, by omega⟩ h4
    rcases List.eq_nil_or_concat js with rfl | ⟨js', j, rfl⟩
    · refine ifF rfl ?_
      have hDx := hD2
      have kq := fin H2 [] hD2 hC2 (by decide) o2
      refine ⟨_, rfl, Or.inl ⟨_, rfl, _, _, rfl, rfl, (show (2147483563 : Int) ≠ 0 by decide), _, rfl, _, _, rfl, rfl, Or.inl (by decide), _, rfl, _, _, rfl, rfl, Or.inr cT, _, _, rfl, rfl, _, _, rfl, rfl, Or.inl ⟨_, rfl, _, _, rfl, rfl, Or.inr (by decide), ?_⟩⟩⟩
      refine ⟨_, rfl, Or.inl ⟨_, rfl, _, _, rfl, rfl, (show (2147483647 : Int) ≠ 0 by decide), ?_⟩⟩
      refine ⟨_, rfl, _, rfl, _, _, rfl, rfl, Or.inl (bound_mod _), _, rfl, _, _, rfl, rfl, Or.inl (by decide), _, _, rfl, rfl, _, _, rfl, rfl, Or.inl ⟨_, rfl, _, _, rfl, rfl, (show (2147483579 : Int) ≠ 0 by decide), ?_⟩⟩
      refine ⟨_, rfl, _, _, rfl, rfl, Or.inr (by decide), Or.inl ⟨_, rfl, _, _, rfl, rfl, (show (2147483549 : Int) ≠ 0 by decide), _, _, rfl, rfl, ⟨by decide, by decide⟩, _, rfl, _, _, rfl, rfl, (show ((b : Nat) : Int) ≠ 0 by omega), ?_⟩⟩
      exact mod_fin hb0 _ kq
    · rw [List.concat_eq_append] at *
      refine ifT (by cases js' <;> rfl) ?_
      have hlast : ((js' ++ [j]).map V.int)[((js' ++ [j]).map V.int).length - 1]? = some (.int j) := by simp
      have hdrop : ((js' ++ [j]).map V.int).dropLast = js'.map V.int := by simp
      refine ⟨_, rfl, D, _, rfl, gC hD2, Or.inl ⟨rfl, _, Or.inl (Or.inl hC2)⟩, C, _, _, rfl, rfl, hC2, hlast, ?_⟩
      rw [hdrop]
      have hD3 : upd H2 C (.lst (js'.map V.int)) D = some (.dK (deckKv C m (t + 1))) := (upd_ne (Ne.symm ne)).trans hD2
      have hC3 : upd H2 C (.lst (js'.map V.int)) C = some (.lst (js'.map V.int)) := upd_same
      have o3 : Off D C H (upd H2 C (.lst (js'.map V.int))) := o2.trans (fun x o h1 h2 h => (upd_ne h2).trans h)
      generalize upd H2 C (.lst (js'.map V.int)) = H3 at hD3 hC3 o3 ⊢
      have hl' : js'.length + 1 ≤ 100 := by simpa using hjs
      refine ⟨_, rfl, _, _, rfl, rfl, ⟨by decide, by decide, by decide⟩, _, _, rfl, rfl, _, rfl, ite2 (fun hc => ?_) (fun hc => ?_)⟩
      · have hj : (10 : Int) ^ 18 ≤ j := of_decide_eq_true hc
        refine ⟨_, rfl, D, _, rfl, gC hD3, Or.inl ⟨rfl, _, Or.inl (Or.inl hC3)⟩, _, rfl, _, rfl, _, _, rfl, rfl, ⟨by omega, by omega⟩, C, _, _, rfl, rfl, hC3, sz_lt (by rw [List.length_map]; omega), ?_⟩
        have hD4 : upd H3 C (.lst (js'.map V.int ++ [.int (j.fdiv (b : Nat))])) D = some (.dK (deckKv C m (t + 1))) := (upd_ne (Ne.symm ne)).trans hD3
        have hC4 : upd H3 C (.lst (js'.map V.int ++ [.int (j.fdiv (b : Nat))])) C = some (.lst ((js' ++ [j.fdiv (b : Nat)]).map V.int)) := upd_same.trans (by rw [List.map_append]; rfl)
        have o4 : Off D C H (upd H3 C (.lst (js'.map V.int ++ [.int (j.fdiv (b : Nat))]))) := o3.trans (fun x o h1 h2 h => (upd_ne h2).trans h)
        have kq := fin _ _ hD4 hC4 (by rw [List.length_append]; exact hl') o4
        refine ⟨_, rfl, Or.inl ⟨_, rfl, _, rfl, _, _, rfl, rfl, (show ((b : Nat) : Int) ≠ 0 by omega), ?_⟩⟩
        exact mod_fin hb0 _ kq
      · refine ⟨_, rfl, _, rfl, Or.inl ⟨_, rfl, _, _, rfl, rfl, (show (2147483629 : Int) ≠ 0 by decide), _, _, rfl, rfl, ?_⟩⟩
        have hDx := hD3
        have kq := fin H3 js' hD3 hC3 (by omega) o3
        refine ⟨_, rfl, Or.inl ⟨_, rfl, _, _, rfl, rfl, (show (2147483563 : Int) ≠ 0 by decide), _, rfl, _, _, rfl, rfl, Or.inl (by decide), _, rfl, _, _, rfl, rfl, Or.inr cT, _, _, rfl, rfl, _, _, rfl, rfl, Or.inl ⟨_, rfl, _, _, rfl, rfl, Or.inr (by decide), ?_⟩⟩⟩
        refine ⟨_, rfl, Or.inl ⟨_, rfl, _, _, rfl, rfl, (show (2147483647 : Int) ≠ 0 by decide), ?_⟩⟩
        refine ⟨_, rfl, _, rfl, _, _, rfl, rfl, Or.inl (bound_mod _), _, rfl, _, _, rfl, rfl, Or.inl (by decide), _, _, rfl, rfl, _, _, rfl, rfl, Or.inl ⟨_, rfl, _, _, rfl, rfl, (show (2147483579 : Int) ≠ 0 by decide), ?_⟩⟩
        refine ⟨_, rfl, _, _, rfl, rfl, Or.inr (by decide), Or.inl ⟨_, rfl, _, _, rfl, rfl, (show (2147483549 : Int) ≠ 0 by decide), _, _, rfl, rfl, ⟨by decide, by decide⟩, _, rfl, _, _, rfl, rfl, (show ((b : Nat) : Int) ≠ 0 by omega), ?_⟩⟩
        exact mod_fin hb0 _ kq
end
end Lw

namespace Lw
open PySem PySem.Spec PyProof.Rows L2 Mq
open SX (S)
def spDeck (K : PySem.W.Frag) : Sp := fun vs H Q _ => ∃ (a : Addr) (ns : List Int), vs = [.ref a] ∧ SqL K H a (ns.map V.int) ∧ ns.length ≤ 63 ∧
  ∀ H' D C, Same H H' → DeckAt D C 0 H' → Q (.ref D) H'
def spPick : Sp := fun vs H Q _ => ∃ (D C : Addr) (T : Nat) (x : V), vs = [.ref D, x] ∧ DeckAt D C T H ∧ T ≤ 1000000 ∧
  ((∃ l : List Nat, x = .str (S l) ∧ 0 < l.length ∧ l.length ≤ 1000 ∧ ∀ H' c, c ∈ l → DeckAt D C (T + 1) H' → Off D C H H' → Q (.str (S [c])) H') ∨
   ∃ (p : Addr) (xs : List V), x = .ref p ∧ H p = some (.lst xs) ∧ p ≠ C ∧ 0 < xs.length ∧ xs.length ≤ 1000 ∧ ∀ H' v, v ∈ xs → DeckAt D C (T + 1) H' → Off D C H H' → Q v H')
section
variable {P : Program} {w : World} {K : PySem.W.Frag} {mg : Str → Option Value} {base : Heap}
theorem ok_deck {f : Addr} {fd : FuncData} (F : Fun K "_law_deck" "_law_deck" s__law_deck f fd) (B : Blt mg) :
    FnOk P w K mg base CX0 1 f fd ["_law_script"] (spDeck K) := by
  refine F.ok sc__law_deck (fun vs H Q E h => ?_) (fun cdv A outer s H vs Q E hr h => ?_)
  · obtain ⟨_, _, rfl, _⟩ := h
    rfl
  · obtain ⟨a, ns, rfl, ha, hn, q⟩ := h
    refine ⟨_, (pss_cons (ps_par (i := 1) (j := 2) rfl sc__law_deck.nd rfl rfl (by decide) rfl rfl (pa_cons (pe_callTy call_list_of (by rfl) B.list (by decide +kernel) (pa_cons (pe_slice sl_list (pv 0) po_none (po_some pe_int)) pa_nil)) (pa_cons pe_int pa_nil)) (by rfl))
    (pss_cons (ps_for PassesOwn.never rfl (pi_list (pv 1)) (pg_name (i := 3) sc__law_deck.nd rfl (Or.inl rfl))
      (pss_one (ps_set (i := 2) sc__law_deck.nd rfl (Or.inl rfl) (pe_op op_modN (pe_callTy call_int1 (by rfl) B.int (by decide +kernel) (pa_cons (pe_op op_add (pe_op op_add (pe_op op_mul (pv 2) pe_int) (pe_op op_modN (pe_callTy call_int1 (by rfl) B.int (by decide +kernel) (pa_cons (pv 3) pa_nil)) pe_int)) pe_int) pa_nil)) pe_int))))
    (pss_one (ps_ret (pe_disp (pps_cons pe_str (pe_revL (pv 1)) (pps_cons pe_str (pv 2) (pps_cons pe_str pe_int pps_nil))) (by rfl) (by rfl) (fun z => by cases z) (by decide)))))), ?_⟩
    obtain ⟨ms, hms, hml⟩ : ∃ ms : List Int, cutV (ns.map V.int) none (some 63) = ms.map V.int ∧ ms.length ≤ 63 := by
      refine ⟨(ns.drop (HT.sIx (ns.map V.int).length 0 none)).take (HT.sIx (ns.map V.int).length (ns.map V.int).length (some 63) - HT.sIx (ns.map V.int).length 0 none), ?_, ?_⟩
      · unfold cutV
        rw [← List.map_drop, ← List.map_take]
      · rw [List.length_take, List.length_drop]
        omega
    refine ⟨_, rfl, 63, rfl, a, _, rfl, ha, fun p0 hp0 => ⟨p0, _, rfl, Or.inl (SqL.of upd_same), fun p1 hp1 => ?_⟩⟩
    rw [hms] at hp1 ⊢
    have s0 : Same H (upd H p0 (.lst (ms.map V.int))) := same_new hp0
    generalize upd H p0 (.lst (ms.map V.int)) = H0 at s0 hp1 ⊢
    have s1 : Same H (upd H0 p1 (.lst (ms.map V.int))) := s0.trans (same_new hp1)
    have hP : upd H0 p1 (.lst (ms.map V.int)) p1 = some (.lst (ms.map V.int)) := upd_same
    generalize upd H0 p1 (.lst (ms.map V.int)) = H1 at s1 hP ⊢
    refine ⟨_, _, rfl, _, rfl, p1, rfl, ⟨_, SqL.of hP⟩, ?_⟩
    refine for_list (xs := ms.map V.int) (fun i σ H' => H' = H1 ∧ ∃ (m : Int) (o : Option V), σ = [some (.ref a), some (.ref p1), some (.int m), o]) ⟨rfl, _, _, rfl⟩ (fun i σ H' _ p => by rw [p.1]; exact SqL.of hP) ?_ ?_
    · rintro i x σ H' hx ⟨rfl, m, o, rfl⟩
      obtain ⟨j, rfl⟩ : ∃ j, x = .int j := by
        rw [List.getElem?_map] at hx
        cases h : ms[i]? with
        | none => rw [h] at hx; cases hx
        | some j => rw [h] at hx; cases hx; exact ⟨j, rfl⟩
      refine ⟨_, rfl, _, _, rfl, rfl, Or.inr (by decide), _, rfl, Or.inl ⟨_, rfl, _, _, rfl, rfl, (show (2147483629 : Int) ≠ 0 by decide), _, _, rfl, rfl, _, _, rfl, rfl, Or.inl ⟨_, rfl, _, _, rfl, rfl, (show (2147483587 : Int) ≠ 0 by decide), rfl, _, _, rfl⟩⟩⟩
    · rintro σ H' ⟨rfl, m, o, rfl⟩
      refine fun p hp => ?_
      have s3 : Same H' (upd H' p (.dK [])) := same_new hp
      refine ⟨_, rfl, p1, _, rfl, SqL.of (s3 _ _ hP), fun p4 hp4 => ⟨_, rfl, ?_⟩⟩
      have t4 : Same (upd H' p (.dK [])) (upd (upd H' p (.dK [])) p4 (.lst (ms.map V.int).reverse)) := same_new hp4
      have hp5 : upd (upd H' p (.dK [])) p4 (.lst (ms.map V.int).reverse) p = some (.dK []) := t4 _ _ upd_same
      have hp6 : upd (upd H' p (.dK [])) p4 (.lst (ms.map V.int).reverse) p4 = some (.lst (ms.map V.int).reverse) := upd_same
      have ne : p4 ≠ p := by
        rintro rfl
        rw [upd_same] at hp4
        cases hp4
      generalize upd (upd H' p (.dK [])) p4 (.lst (ms.map V.int).reverse) = H4 at t4 hp5 hp6 ⊢
      refine ⟨hp5, deckKv p4 m 0, rfl, by show 3 ≤ 15; decide, ?_⟩
      refine q _ p p4 ?_ ⟨m, 0, ms.reverse, upd_same.trans ?_, ?_, by rw [List.length_reverse]; omega, Nat.le_refl _⟩
      · intro b o e
        have e2 := s1 b o e
        rw [upd_ne (ne_of_none e2 hp)]
        exact t4 b o (s3 b o e2)
      · rfl
      · rw [upd_ne ne, hp6, List.map_reverse]
end
end Lw

namespace Lw
open PySem PySem.Spec PyProof.Rows L2 Mq
open SX (S)
section
variable {P : Program} {w : World} {K : PySem.W.Frag} {mg : Str → Option Value} {base : Heap}
theorem ok_pick {f fD : Addr} {fd fdD : FuncData} (F : Fun K "_law_pick" "_law_pick" s__law_pick f fd) (B : Blt mg)
    (FD : Fun K "_law_draw" "_law_draw" s__law_draw fD fdD) (gD : mg "_law_draw" = some (.ref fD)) (bD : Binds K fdD ["_law_deck_here", "_law_below"] []) :
    FnOk P w K mg base CX0 2 f fd ["_law_deck_here", "_law_some"] spPick := by
  have GD : FnOk P w K mg base CX0 1 fD fdD ["_law_deck_here", "_law_below"] spDraw := ok_draw FD B
  refine F.ok sc__law_pick (fun vs H Q E h => ?_) (fun cdv A outer s H vs Q E hr h => ?_)
  · obtain ⟨_, _, _, _, rfl, _⟩ := h
    rfl
  · obtain ⟨D, C, T, x, rfl, hdk, hT, h⟩ := h
    refine ⟨_, (pss_one (ps_ret (pe_ix ix_seq (pv 1) (pe_call GD (hr.mono (by decide)) (by rfl) gD FD.kp bD .nil pass0 (pa_cons (pv 0) (pa_cons (pe_callB call_len (by rfl) B.len (by decide +kernel) (pa_cons (pv 1) pa_nil)) pa_nil))) (fun _ _ => rfl)))), ?_⟩
    rcases h with ⟨l, rfl, h0, h1, q⟩ | ⟨p, xs, rfl, hp, hpC, h0, h1, q⟩
    · refine ⟨_, rfl, _, rfl, _, rfl, _, _, rfl, len_S (by omega), D, C, T, l.length, rfl, hdk, hT, h0, Nat.le_trans h1 (by decide), fun H' r hr dk off => ?_⟩
      refine Or.inr (Or.inr ⟨S l, _, l.getD r 0, rfl, rfl, sz_le (by rw [SX.S_len]; omega), at_get hr, ?_⟩)
      refine q H' _ ?_ dk off
      rw [List.getD_eq_getElem?_getD, List.getElem?_eq_getElem hr]
      exact List.getElem_mem hr
    · refine ⟨_, rfl, _, rfl, _, rfl, _, _, rfl, Or.inl ⟨xs, SqL.of hp, rfl⟩, D, C, T, xs.length, rfl, hdk, hT, h0, Nat.le_trans h1 (by decide), fun H' r hr dk off => ?_⟩
      have hpD : p ≠ D := by
        rintro rfl
        obtain ⟨_, _, _, e, _⟩ := hdk.ex
        rw [hp] at e
        cases e
      have hp' := off p _ hpD hpC hp
      refine Or.inl ⟨p, xs, _, xs[r], rfl, rfl, SqL.of hp', atI_nat (List.getElem?_eq_getElem hr), q H' _ (List.getElem_mem hr) dk off⟩
end
end Lw

namespace Mq
open PySem PySem.Spec PyProof.Rows L2
/-! ### the keys of a dict, drawn one by one, whatever they are -/
section
variable {prog : Program} {w : World} {d : Addr} {o : Obj} {es : Array DictEntry} {ep : Nat}
theorem walks_keys {A : Around} (hh : A.handled = none) (I : Addr) (hne : d ≠ I) (hdat : o.data = .dict es ep) :
    Walks prog w A I [I, d] [I] es.size (fun i v => ∃ en, es[i]? = some en ∧ v = en.key) (fun i h => h.IsKeyIter I d i es.size ep ∧ h.get? d = some o) where
  sub := fun b hb => by rw [List.mem_singleton.mp hb]; exact List.mem_cons_self
  frame := fun i h h' st k => ⟨st.1.at fun x e => k I (by simp) x e, k d (by simp) o st.2⟩
  item := fun i s Q E hi st hQ => by
    refine next_key_item st.1 st.2 hdat rfl (en := es[i]) (by simp [hi]) fun h' st' sb => ?_
    refine hQ _ h' s.toks ⟨es[i], by simp [hi], rfl⟩ ⟨st', (sb.2 d hne).trans st.2⟩ fun b x hb e => ?_
    exact (sb.2 b fun z => hb (by rw [z]; exact List.mem_singleton.mpr rfl)).trans e
  done := fun s Q E st hQ => by
    refine next_key_end hh st.1 st.2 hdat rfl (Nat.le_refl _) fun h' eb => hQ h' s.toks fun b x hb e => ?_
    exact eb b x (fun z => hb (by rw [z]; exact List.mem_singleton.mpr rfl)) e
  self := fun i s Q E st h => by
    have t := st.1.typeIs
    refine wpAny_pyIter_slot t F.slot_dict_keyiterator_iter (wpAny_call_entry F.slot_dict_keyiterator_iter t F.entry_dict_keyiterator_iter ?_ (F.args_dict_keyiterator_iter_1 _))
    refine wpAny_pure ⟨.ref I, rfl, "dict_keyiterator", _, t, F.slot_dict_keyiterator_next.lookup, h⟩
theorem src_keys (hd : (d == sysModules) = false) (hx : o.ExactDict) (hdat : o.data = .dict es ep) :
    PySem.W.KdlSrc prog w "dict" d d es.size (fun i v => ∃ en, es[i]? = some en ∧ v = en.key) (fun h => h.get? d = some o) where
  type := fun _ ho => ⟨o, ho, hx.1⟩
  there := fun _ ho => ⟨Heap.lt_size ho, Heap.lt_size ho⟩
  keep := fun _ _ ho k => k d (.inl rfl) o ho
  notList := by decide
  notTuple := by decide
  hint := fun _ _ _ _ ho hq => PySem.W.kdl_hint_dict ⟨o, ho, hx.1⟩ hq
  iter := fun A s hh ho => ⟨_, _, (fun _ _ hq => iter_keys hd ho hx hdat hq), walks_keys hh s.heap.objs.size (Nat.ne_of_lt (Heap.lt_size ho)) hdat,
    ⟨⟨_, Heap.get?_push_size _ rfl, rfl, rfl⟩, Heap.get?_push_of_some _ ho⟩⟩
end
/-! ### sorted(d), d's keys being pairs of texts -/
def txt2 (x : Str × Str) : List (Int ⊕ List Nat) := [.inr x.1.cps.toList, .inr x.2.cps.toList]
/-- ahead as pairs -/
def ltSS (x y : Str × Str) : Bool := (PyProof.Rows.listOrd PyProof.Rows.itemOrd).blt (txt2 x) (txt2 y)
def prOf (H : Hp) (b : Addr) : Str × Str := match H b with
  | some (.tup [.str x, .str y]) => (x, y)
  | _ => ("", "")
def rSortedT : List V → Hp → VK → Prop := fun xs H Q => ∃ (a : Addr) (kvs : List (List Key × V)) (ks : List (Str × Str)), xs = [.ref a] ∧ Rd H a (.dT kvs) ∧ kvs.map (·.1) = ks.map (fun x => [Sum.inr x.1, Sum.inr x.2]) ∧
  ∀ (as qs : List Addr) (p : Addr), as.map (prOf H) = ks → (∀ b ∈ as, H b = some (.tup [.str (prOf H b).1, .str (prOf H b).2])) → qs.Perm as →
    (∀ i j, i ≤ j → j < qs.length → ltSS (prOf H (qs.getD j 0)) (prOf H (qs.getD i 0)) = false) → H p = none → Q (.ref p) (upd H p (.lst (qs.map V.ref)))
theorem key_pair {H : Hp} {b : Addr} {x : Str × Str} (h : H b = some (.tup (([Sum.inr x.1, Sum.inr x.2] : List Key).map kV))) : prOf H b = x ∧ H b = some (.tup [.str (prOf H b).1, .str (prOf H b).2]) := by
  have h' : H b = some (.tup [.str x.1, .str x.2]) := h
  have e : prOf H b = x := by
    unfold prOf
    rw [h']
  rw [e]
  exact ⟨rfl, h'⟩
/-- the keys' own tuples -/
theorem keys_rel {H : Hp} : ∀ {kvs : List (List Key × V)} {xs : List (List Key × Addr × Value)} {ks : List (Str × Str)}, KT H kvs xs → kvs.map (·.1) = ks.map (fun x => [Sum.inr x.1, Sum.inr x.2]) →
    (xs.map fun q => q.2.1).map (prOf H) = ks ∧ ∀ b ∈ xs.map (fun q => q.2.1), H b = some (.tup [.str (prOf H b).1, .str (prOf H b).2])
  | [], [], [], .nil, _ => ⟨rfl, fun b h => by cases h⟩
  | p :: kvs, q :: xs, k :: ks, .cons h t, e => by
    obtain ⟨h1, h2, _⟩ := h
    injection e with e1 e2
    obtain ⟨a, b⟩ := keys_rel t e2
    have e1' : p.1 = [Sum.inr k.1, Sum.inr k.2] := e1
    rw [e1'] at h2
    obtain ⟨c, d⟩ := key_pair h2
    refine ⟨?_, fun x hx => ?_⟩
    · show prOf H q.2.1 :: _ = _
      rw [c, a]
    · rcases List.mem_cons.mp hx with e | hx
      · rw [e]
        exact d
      · exact b x hx
  | [], [], _ :: _, .nil, e => by cases e
  | _ :: _, _ :: _, [], .cons _ _, e => by cases e
def unR : Value → Addr
  | .ref b => b
  | _ => 0
theorem perm_back {l : List Value} {as : List Addr} (h : l.Perm (as.map Value.ref)) : ∃ qs : List Addr, l = qs.map Value.ref ∧ qs.Perm as := by
  refine ⟨l.map unR, ?_, ?_⟩
  · rw [List.map_map]
    have e : ∀ v ∈ l, (Value.ref ∘ unR) v = v := fun v hv => by
      obtain ⟨b, _, rfl⟩ := List.mem_map.mp (h.mem_iff.mp hv)
      rfl
    have e2 : l.map (Value.ref ∘ unR) = l.map id := List.map_congr_left fun v hv => e v hv
    rw [e2, List.map_id]
  · have h2 := h.map unR
    rw [List.map_map] at h2
    have e : as.map (unR ∘ Value.ref) = as := by
      have e3 : as.map (unR ∘ Value.ref) = as.map id := List.map_congr_left fun v _ => rfl
      rw [e3, List.map_id]
    rw [e] at h2
    exact h2
section
variable {X : Cx}
theorem call_sortedT (hcalm : X.calm = true) : CallR X (.builtin "sorted") rSortedT := by
  intro pins s σ H xs us Q I r q
  obtain ⟨a, kvs, ks, rfl, hd, hks, q⟩ := q
  obtain ⟨u, rfl, rx⟩ := vals1 r
  cases rx
  obtain ⟨z, lo, vs, rel, o, es, ep, ho, hx, hdat, hes, nd⟩ := (show ObjOk X.prog X.w H s.heap a (.dT kvs) from rd_of I.hok hd)
  obtain ⟨k1, k2⟩ := keys_rel rel hks
  have hlen : es.size = vs.length := by
    rw [← Array.length_toList, hes, List.length_map]
  have hz : kvs.length = vs.length := Paired.length rel
  refine Calls.call_function_entry PyProof.Rows.kind_sorted PyProof.Rows.plain_sorted PyProof.Rows.entry_sorted (PyProof.Rows.args_sorted1 _) ?_
  unfold Builtin.«sorted»
  refine wpAny_bind (m := checkCount "sorted" 1 1 _) (wpAny_pure ?_)
  refine wpAny_bind (PySem.W.kdu_collect (A := X.A.in1) (src_keys lo hx hdat) (I.ok.hd hcalm) ho (by omega) fun h' tk acc hk hacc => ?_)
  have hacc' : acc.toList = (vs.map fun q => q.2.1).map Value.ref := by
    refine List.ext_getElem? fun j => ?_
    rw [List.map_map, List.getElem?_map]
    have e1 : acc.toList[j]? = acc[j]? := Array.getElem?_toList
    rw [e1]
    cases h1 : acc[j]? with
    | none =>
      have h2 : acc.size ≤ j := Array.getElem?_eq_none_iff.mp h1
      rw [hacc.1, hlen] at h2
      rw [List.getElem?_eq_none h2]
      rfl
    | some v =>
      obtain ⟨en, h2, rfl⟩ := hacc.2 j v h1
      have h3 : es.toList[j]? = some en := by rw [Array.getElem?_toList]; exact h2
      rw [hes, List.getElem?_map] at h3
      cases h4 : vs[j]? with
      | none => rw [h4] at h3; cases h3
      | some y =>
        rw [h4] at h3
        cases h3
        rfl
  have I1 : Inv X pins σ H { s with heap := h', toks := tk } := I.kept hk
  generalize vs.map (fun q => q.2.1) = as at k1 k2 hacc'
  have hal : acc.toList.length ≤ sizeLine := by
    rw [Array.length_toList, hacc.1]
    omega
  refine wpAny_bind (wpAny_newList ?_ hal)
  rw [hacc']
  rw [hacc'] at hal
  have hoL : (h'.push (seqObj "list" (as.map Value.ref).toArray 0)).get? h'.objs.size = some (seqObj "list" (as.map Value.ref).toArray 0) := Heap.get?_push_size _ rfl
  show wpAny _ _ _ _ _ { s with heap := h'.push (seqObj "list" (as.map Value.ref).toArray 0), toks := tk }
  have obj : ∀ b ∈ as, ∃ (ob : Obj) (n : Nat) (t1 t2 : Tok), (h'.push (seqObj "list" (as.map Value.ref).toArray 0)).get? b = some ob ∧ ob.cls = .type "tuple" ∧ ob.data = .seq #[.str (prOf H b).1 t1, .str (prOf H b).2 t2] n := by
    intro b hb
    obtain ⟨_, its, r2, ob, h1, h2, n, h3⟩ := (show ObjOk X.prog X.w H h' b (.tup [.str (prOf H b).1, .str (prOf H b).2]) from I1.hok b _ (k2 b hb))
    obtain ⟨u1, u2, rfl, ⟨t1, rfl⟩, ⟨t2, rfl⟩⟩ := vals2 r2
    exact ⟨ob, n, t1, t2, Heap.get?_push_of_some _ h1, h2, h3⟩
  have tups : ∀ l : List Addr, (∀ b ∈ l, b ∈ as) → ∃ fs, PyProof.Rows.TupsOf (h'.push (seqObj "list" (as.map Value.ref).toArray 0)) (fun _ => true) (l.map Value.ref) fs := by
    intro l
    induction l with
    | nil => intro _; exact ⟨[], .nil⟩
    | cons b l ih =>
      intro hl
      obtain ⟨fs, hf⟩ := ih fun x hx => hl x (List.mem_cons_of_mem _ hx)
      obtain ⟨ob, n, t1, t2, h1, h2, h3⟩ := obj b (hl b List.mem_cons_self)
      exact ⟨_, .cons ⟨b, ob, _, n, rfl, h1, h2, h3, rfl, fun z => (by cases z), fun _ => ⟨_, _, rfl⟩⟩ hf⟩
  obtain ⟨fs, hfs⟩ := tups as fun _ h => h
  have keyC : ∀ b ∈ as, PyProof.Rows.G.tupKeyC (h'.push (seqObj "list" (as.map Value.ref).toArray 0)) (fun _ => true) (.ref b) = some (txt2 (prOf H b)) := by
    intro b hb
    obtain ⟨ob, n, t1, t2, h1, h2, h3⟩ := obj b hb
    have hT : PyProof.Rows.G.isTupObj (h'.push (seqObj "list" (as.map Value.ref).toArray 0)) (.ref b) = true := by
      simp [PyProof.Rows.G.isTupObj, h1, h2]
    unfold PyProof.Rows.G.tupKeyC
    rw [if_pos hT]
    simp only [PyProof.Rows.tupKey, h1, h3]
    rfl
  refine wpAny_bind (wpAny_holding (wpAny_call_entry PyProof.Rows.slot_list_sort ⟨_, hoL, rfl⟩ PyProof.Rows.entry_list_sort
    (PyProof.Rows.G.list_sort_tups (s := { s with heap := h'.push (seqObj "list" (as.map Value.ref).toArray 0), toks := tk }) hoL hfs
      (fun v hv => ?_) hal fun st' hp hs _ => ⟨_, rfl, ?_⟩) (PyProof.Rows.args_list_sort _)))
  · obtain ⟨b, hb, rfl⟩ := List.mem_map.mp hv
    exact ⟨_, keyC b hb⟩
  obtain ⟨e', he'⟩ := PyProof.Rows.sortedHeap_at (vs := as.map Value.ref) (out := (arrOf st').map (·.2)) hoL
  have mem : ∀ p ∈ (arrOf st').toList, p.1 = p.2 ∧ p.1 ∈ as.map Value.ref := fun p hp' => by
    have h1 := (hp.toList.mem_iff (a := p)).mp hp'
    rw [PyProof.Rows.pairsOf_toList] at h1
    exact PyProof.Rows.mem_zip_self h1
  obtain ⟨qs, hq1, hq2⟩ : ∃ qs : List Addr, (arrOf st').toList.map (·.2) = qs.map Value.ref ∧ qs.Perm as := by
    have h1 : ((arrOf st').toList.map (·.2)).Perm (as.map Value.ref) := by
      have h2 := hp.toList.map (fun p : Keyed => p.2)
      rw [PyProof.Rows.pairsOf_toList] at h2
      rw [List.map_snd_zip (Nat.le_refl _)] at h2
      exact h2
    exact perm_back h1
  have hql : qs.length = as.length := hq2.length_eq
  have harr : (arrOf st').toList.length = qs.length := by
    have h1 := congrArg List.length hq1
    rw [List.length_map, List.length_map] at h1
    exact h1
  have hkk : ∀ i, i < qs.length → PyProof.Rows.KK (PyProof.Rows.G.tupKindC (h'.push (seqObj "list" (as.map Value.ref).toArray 0)) fun _ => true) (arrOf st') i = txt2 (prOf H (qs.getD i 0)) := by
    intro i hi
    have hi' : i < (arrOf st').toList.length := by omega
    have e1 : (arrOf st')[i]? = some (arrOf st').toList[i] := by
      rw [← Array.getElem?_toList, List.getElem?_eq_getElem hi']
    obtain ⟨m1, m2⟩ := mem _ (List.getElem_mem hi')
    have e2 : (arrOf st').toList[i].2 = .ref (qs.getD i 0) := by
      have h1 := congrArg (fun l => l[i]?) hq1
      simp only [List.getElem?_map, List.getElem?_eq_getElem hi', List.getElem?_eq_getElem hi, Option.map_some, Option.some.injEq] at h1
      rw [h1, List.getD_eq_getElem?_getD, List.getElem?_eq_getElem hi]
      rfl
    have hin : qs.getD i 0 ∈ as := hq2.mem_iff.mp (by rw [List.getD_eq_getElem?_getD, List.getElem?_eq_getElem hi]; exact List.getElem_mem hi)
    unfold PyProof.Rows.KK
    rw [e1]
    show (PyProof.Rows.G.tupKeyC _ _ (arrOf st').toList[i].1).getD _ = _
    rw [m1, e2, keyC _ hin]
    rfl
  have srt : ∀ i j, i ≤ j → j < qs.length → ltSS (prOf H (qs.getD j 0)) (prOf H (qs.getD i 0)) = false := by
    intro i j hij hj
    have h1 := hs i j hij (by rw [PyProof.Rows.pairsOf_size, List.length_map]; omega)
    rw [hkk i (by omega), hkk j hj] at h1
    exact h1
  have vals : ∀ l : List Addr, Vals (l.map V.ref) (l.map Value.ref) := fun l => by
    induction l with
    | nil => exact .nil
    | cons b l ih => exact .cons rfl ih
  have hout : ((arrOf st').map (·.2)).toList = qs.map Value.ref := by
    rw [Array.toList_map]
    exact hq1
  have hz2 : (qs.map V.ref).length ≤ sizeLine := by
    rw [List.length_map, hql]
    rw [List.length_map] at hal
    exact hal
  have fresh := I1.hok.fresh (Nat.le_refl h'.objs.size)
  refine wpAny_pure ⟨.ref h'.objs.size, rfl, .ref h'.objs.size, upd H h'.objs.size (.lst (qs.map V.ref)), ?_, rfl, q as qs _ k1 k2 hq2 srt fresh⟩
  refine I1.laid (t' := tk) (fun b u e => ?_) (Nat.le_refl _) ⟨hz2, qs.map Value.ref, e', vals qs, ?_⟩
  · have hb : b < h'.objs.size := Heap.lt_size e
    rw [PyProof.Rows.sortedHeap_old (Nat.ne_of_lt hb) (by rw [size_push']; exact Nat.lt_succ_of_lt hb)]
    exact Heap.get?_push_of_some _ e
  · rw [← hout, Array.toArray_toList]
    exact he'
end
end Mq

namespace Mq
open PySem PySem.Spec PyProof.Rows L2
/-! ### pairs of texts by <= -/
def leSS (x y : Str × Str) : Bool := if x.1 = y.1 then (if x.2 = y.2 then true else !decide (y.2.cps.toList < x.2.cps.toList)) else !decide (y.1.cps.toList < x.1.cps.toList)
theorem op_leSS {X : Cx} (hu : X.A.units < cLine) : OpR X (compareOp .LtE) (fun x y H Q => ∃ (a b : Addr) (p q : Str × Str), x = .ref a ∧ y = .ref b ∧ SqT X.K H a [.str p.1, .str p.2] ∧ SqT X.K H b [.str q.1, .str q.2] ∧ Q (.bl (leSS p q)) H) := by
  intro pins s σ H x y v u Q I rx ry h
  obtain ⟨a, b, p, q, rfl, rfl, ha, hb, k⟩ := h
  cases rx
  cases ry
  obtain ⟨its, r1, p1, _⟩ := I.tuple ha
  obtain ⟨its2, r2, p2, _⟩ := I.tuple hb
  obtain ⟨u1, u2, rfl, ⟨t1, rfl⟩, ⟨t2, rfl⟩⟩ := vals2 r1
  obtain ⟨v1, v2, rfl, ⟨t3, rfl⟩, ⟨t4, rfl⟩⟩ := vals2 r2
  let e : Nat → Bool := fun j => if j = 0 then p.1 == q.1 else p.2 == q.2
  let r : Nat → Bool := fun j => if j = 0 then !decide (q.1.cps.toList < p.1.cps.toList) else !decide (q.2.cps.toList < p.2.cps.toList)
  have R := Ob.RcOp.tuples_le (A := X.A) (s := s) (e := e) (r := r) p1 p2 hu (fun j h1 h2 => by
    match j, h1, h2 with
    | 0, _, _ => exact SeqAt.EqAt.str_str _ _ _ _
    | 1, _, _ => exact SeqAt.EqAt.str_str _ _ _ _) (fun j h1 h2 _ => by
    match j, h1, h2 with
    | 0, _, _ => exact fun prog w E Q h => PySem.P.le_str h
    | 1, _, _ => exact fun prog w E Q h => PySem.P.le_str h)
  have z : Ob.lexAt e r (decide ((#[Value.str p.1 t1, Value.str p.2 t2] : Array Value).size ≤ (#[Value.str q.1 t3, Value.str q.2 t4] : Array Value).size)) 0 2 = leSS p q := by
    show (if (p.1 == q.1) = true then (if (p.2 == q.2) = true then true else !decide (q.2.cps.toList < p.2.cps.toList)) else !decide (q.1.cps.toList < p.1.cps.toList)) = _
    unfold leSS
    simp only [beq_iff_eq]
  have R2 : Ob.RcOp .LtE X.A s (.ref a) (.ref b) (leSS p q) := by
    rw [← z]
    exact R
  exact R2 X.prog X.w X.xe (EP X pins σ Q) ⟨.bl _, H, I, rfl, k⟩
/-- ahead, so not behind or equal -/
theorem le_of_lt {x y : Str × Str} (h : ltSS y x = true) : leSS x y = false := by
  have h1 : (decide (y.1.cps.toList < x.1.cps.toList) || (!decide (x.1.cps.toList < y.1.cps.toList) && (decide (y.2.cps.toList < x.2.cps.toList) || (!decide (x.2.cps.toList < y.2.cps.toList) && false)))) = true := h
  unfold leSS
  by_cases c1 : y.1.cps.toList < x.1.cps.toList
  · rw [if_neg (fun z => by rw [z] at c1; exact List.lt_irrefl _ c1), decide_eq_true c1]
    rfl
  · rw [decide_eq_false c1] at h1
    simp only [Bool.false_or, Bool.and_false, Bool.or_false, Bool.and_eq_true, Bool.not_eq_true', decide_eq_false_iff_not, decide_eq_true_eq] at h1
    obtain ⟨c2, c3⟩ := h1
    have e : x.1.cps.toList = y.1.cps.toList := List.le_antisymm (List.not_lt.mp c1) (List.not_lt.mp c2)
    have e' : x.1 = y.1 := congrArg Str.mk (Array.ext' e)
    rw [if_pos e', if_neg (fun z => by rw [z] at c3; exact List.lt_irrefl _ c3), decide_eq_true c3]
    rfl
theorem lt_of {x y : Str × Str} (h : ltSS x y = false) (n : x ≠ y) : ltSS y x = true := by
  cases e : ltSS y x with
  | true => rfl
  | false =>
    have h2 : txt2 x = txt2 y := (PyProof.Rows.listOrd PyProof.Rows.itemOrd).total _ _ h e
    injection h2 with h3 h4
    injection h4 with h5 _
    have e1 : x.1.cps.toList = y.1.cps.toList := by injection h3
    have e2 : x.2.cps.toList = y.2.cps.toList := by injection h5
    exact (n (Prod.ext (congrArg Str.mk (Array.ext' e1)) (congrArg Str.mk (Array.ext' e2)))).elim
end Mq

namespace Mq
open PySem PySem.Spec PyProof.Rows L2
open SX (S)
/-! ### a text cut at a sign -/
def spl (c : Nat) (a : List Nat) : List (List Nat) := (Txt.split (S a) (S [c])).map fun x => x.cps.toList
theorem spl_S (c : Nat) (a : List Nat) : Txt.split (S a) (S [c]) = (spl c a).map S := by
  unfold spl
  rw [List.map_map]
  exact (List.map_id _).symm
theorem spl_join (c : Nat) (a : List Nat) : TL.joinL [c] (spl c a) = a := by
  have h := StrLaws.join_split (S a) (S [c])
  rw [spl_S] at h
  have h2 : Txt.join (S [c]) ((spl c a).map S) = S a := (TL.join_eq _ _).trans h
  rw [SX.join_S] at h2
  exact SX.S_inj h2
theorem spl_of {c : Nat} (hc : c < 256) {ps : List (List Nat)} (hn : ps ≠ []) (h : ∀ p ∈ ps, c ∉ p) : spl c (TL.joinL [c] ps) = ps := by
  have h1 := TL.split_join (y := S [c]) (s := c) (S := []) rfl (by simp [S, hc]) (parts := ps.map S) (by simpa using hn) (fun p hp => by
    obtain ⟨q, hq, rfl⟩ := List.mem_map.mp hp
    exact h q hq)
  rw [SX.join_S, spl_S] at h1
  have h2 := congrArg (List.map fun x : Str => x.cps.toList) h1
  rw [List.map_map, List.map_map] at h2
  have e : ∀ xs : List (List Nat), xs.map ((fun x : Str => x.cps.toList) ∘ S) = xs := fun xs => List.map_id _
  rw [e, e] at h2
  exact h2
theorem spl_ne (c : Nat) (a : List Nat) : spl c a ≠ [] := by
  intro h
  have := PyProof.Rows.split_pos (S a) (S [c])
  rw [spl_S, h] at this
  cases this
theorem join_len (c : Nat) : ∀ ps : List (List Nat), ps ≠ [] → (TL.joinL [c] ps).length + 1 = (ps.map fun p => p.length + 1).sum
  | [], h => (h rfl).elim
  | [p], _ => by simp [TL.joinL]
  | p :: q :: r, _ => by
    have ih := join_len c (q :: r) (by simp)
    show (p ++ ([c] ++ TL.joinL [c] (q :: r))).length + 1 = (p.length + 1) + ((q :: r).map fun p => p.length + 1).sum
    rw [← ih]
    simp only [List.length_append, List.length_singleton]
    omega
theorem join_mem (c : Nat) : ∀ {ps : List (List Nat)} {p : List Nat}, p ∈ ps → ∀ d ∈ p, d ∈ TL.joinL [c] ps
  | [q], p, h, d, hd => by
    rw [List.mem_singleton.mp h] at hd
    exact hd
  | q :: q2 :: r, p, h, d, hd => by
    show d ∈ q ++ ([c] ++ TL.joinL [c] (q2 :: r))
    rcases List.mem_cons.mp h with rfl | h
    · exact List.mem_append_left _ hd
    · exact List.mem_append_right _ (List.mem_append_right _ (join_mem c h d hd))
theorem join_in (c : Nat) : ∀ {ps : List (List Nat)} {d : Nat}, d ∈ TL.joinL [c] ps → d = c ∨ ∃ p ∈ ps, d ∈ p
  | [], d, h => by cases h
  | [q], d, h => Or.inr ⟨q, List.mem_cons_self, h⟩
  | q :: q2 :: r, d, h => by
    have h : d ∈ q ++ ([c] ++ TL.joinL [c] (q2 :: r)) := h
    rcases List.mem_append.mp h with h | h
    · exact Or.inr ⟨q, List.mem_cons_self, h⟩
    rcases List.mem_append.mp h with h | h
    · exact Or.inl (List.mem_singleton.mp h)
    · rcases join_in c h with e | ⟨p, hp, e⟩
      · exact Or.inl e
      · exact Or.inr ⟨p, List.mem_cons_of_mem _ hp, e⟩
theorem sum_ge : ∀ {ps : List (List Nat)} {p : List Nat}, p ∈ ps → p.length + 1 ≤ (ps.map fun p => p.length + 1).sum
  | q :: r, p, h => by
    rw [List.map_cons, List.sum_cons]
    rcases List.mem_cons.mp h with rfl | h
    · omega
    · have := sum_ge h
      omega
theorem sum_many : ∀ ps : List (List Nat), ps.length ≤ (ps.map fun p => p.length + 1).sum
  | [] => Nat.zero_le _
  | q :: r => by
    rw [List.map_cons, List.sum_cons, List.length_cons]
    have := sum_many r
    omega
theorem spl_sum (c : Nat) (a : List Nat) : ((spl c a).map fun p => p.length + 1).sum = a.length + 1 := by
  have h := join_len c (spl c a) (spl_ne c a)
  rw [spl_join] at h
  exact h.symm
theorem spl_len {c : Nat} {a p : List Nat} (h : p ∈ spl c a) : p.length ≤ a.length := by
  have h1 := sum_ge h
  rw [spl_sum] at h1
  omega
theorem spl_many (c : Nat) (a : List Nat) : (spl c a).length ≤ a.length + 1 := by
  rw [← spl_sum c a]
  exact sum_many _
theorem spl_mem {c : Nat} {a p : List Nat} (h : p ∈ spl c a) {d : Nat} (hd : d ∈ p) : d ∈ a := by
  have := join_mem c h d hd
  rw [spl_join] at this
  exact this
end Mq


namespace MqE_line
open PySem PySem.Spec PyProof.Rows L2 Mq PySem.W PySem.Calls
/-! ### errors whose one parameter is line -/
def iA (p1 p2 : Pos) : Arguments := { posonlyargs := [], args := [{ arg := "self", annotation := none, pos := p1 }, { arg := "line", annotation := none, pos := p2 }], vararg := none, kwonlyargs := [], kw_defaults := [], kwarg := none, defaults := [] }
def iB (q1 q2 q3 q4 : Pos) : List Stmt := [.Assign [.Attribute (.Name "self" q1) "line" q2] (.Name "line" q3) q4]
def iS : Scope := { kind := .function, names := [(PySem.Str.ofString "self", .local), (PySem.Str.ofString "line", .local)], isGenerator := false, isCoroutine := false, more := [] }
/-- what the written part says of the class x at C, and of its __init__ at fI -/
structure Txt (K : Frag) (mg : Str → Option Value) (x qual : Str) (C fI : Addr) : Prop where
  gC : mg x = some (.ref C)
  kC : keepIn K (.ref C) = true
  ex : excInitIn K C exTail "Exception.__new__" = true
  ov : excOver K C exTail = true
  hdC : hasDictIn K C = true
  tk : takerIn K C "line" = some none
  sa : findIn K (.ref C) "__setattr__" = some (some (.builtin "object.__setattr__"))
  iC : findIn K (.ref C) "__init__" = some (some (.ref fI))
  tC : typeIn K (.ref fI) = some (.type "function")
  exC : subIn K (.ref C) (.type "BaseException") = some true
  tyC : typeIn K (.ref C) = some (.type "type")
  fn : ∃ (oc : Value) (od : Option Addr) (doc pm : Value) (an : Option Addr) (cdv ct : Value) (osl : Array (Option Value)) (p1 p2 q1 q2 q3 q4 : Pos),
    K.lookup fI = some ⟨oc, od, .func (fnOf "__init__" qual (iA p1 p2) (iB q1 q2 q3 q4) iS .none .none doc pm an cdv ct), osl⟩ ∧ codeIn K cdv qual = true
theorem ld_loc {M : Model} {s : Shared} {name : Str} {scope : Scope} {L a : Addr} {cd : Value} {m : Str → Option Value} {y : Str} {pos : Pos} {v : Value}
    {Q : Value → Shared → Prop} {A : Around} {E : Value → Shared → Prop} (hn : s.heap.Ns L m) (hv : m y = some v) (h : Q v s)
    (hk : scope.kind = .function := by rfl) (hl : (envOfC name scope L a cd).kindOf y = some .local := by rfl) (hd : (y == ("__debug__" : Str)) = false := by decide) :
    wpAny M A (eval (.Name y pos) (envOfC name scope L a cd)) Q E s := wpAny_Name (wpAny_loadName_local hk hl hn hv h) hd
/-- what __init__ leaves of a new error at e -/
structure Filled (h h' : Heap) (e C dx t1 : Addr) (v : Value) : Prop where
  keep : ∀ b o, b ≠ e → h.get? b = some o → h'.get? b = some o
  obj : h'.get? e = some (excObj C t1 (some dx) .none)
  big : h.objs.size ≤ dx
  ne : dx ≠ e
  ns : h'.Ns1 dx (fun y => if y = "line" then some v else none)
/-- a made error -/
structure Made (h h' : Heap) (e C d : Addr) (v : Value) : Prop where
  keep : ∀ b o, h.get? b = some o → h'.get? b = some o
  new : h.objs.size ≤ e
  obj : ∃ oe vs, h'.get? e = some oe ∧ oe.cls = .ref C ∧ oe.dict = some d ∧ oe.data = .fields vs ∧ vs[1]? = some .none
  big : h.objs.size ≤ d
  ne : d ≠ e
  ns : h'.Ns1 d (fun y => if y = "line" then some v else none)
section
variable {prog : Program} {w : World} {A : Around} {E : Value → Shared → Prop} {R : Result → Shared → Prop} {s : Shared} {K : Frag} {mg : Str → Option Value} {x qual : Str} {C fI : Addr}
theorem init_run (T : Txt K mg x qual C fI) {e t0 : Addr} {v : Value} (X : K.In s.heap) (lim : s.heap.NoLimit) (he : s.heap.get? e = some (excObj C t0 none .none)) (room : A.depth < recursionLimit)
    (hq : ∀ h' tk dx, Filled s.heap h' e C dx t0 v → R (.ok (.ret .none)) { s with heap := h', toks := tk }) :
    codeAny (model prog w) A (.call (.ref fI) ⟨[.ref e, v], []⟩) R s := by
  obtain ⟨oc, od, doc, pm, an, cdv, ct, osl, p1, p2, q1, q2, q3, q4, ho, hcd⟩ := T.fn
  refine Att.call_fn (binds := [("self", .ref e), ("line", v)]) X lim ho hcd room (BindsTo.of_eq (by first | rfl | with_unfolding_all rfl)) (by first | rfl | decide | with_unfolding_all rfl) (fun s₁ IC => ?_) rfl rfl rfl
  obtain ⟨h₁, tk₁, rfl⟩ := IC.toInCall.same
  have k : ∀ b o, s.heap.get? b = some o → h₁.get? b = some o := IC.toInCall.keep
  have hn := IC.toInCall.ns
  have X₁ : K.In h₁ := X.keeps k
  have he₁ := k _ _ he
  show wpAny _ _ (execs _ _) _ _ _
  refine wpAny_execs_cons (plainObj_wpAny_Assign_Attribute ?_)
  refine ld_loc (v := v) hn (by first | rfl | with_unfolding_all rfl | kernel_rfl) (ld_loc (v := .ref e) hn (by first | rfl | with_unfolding_all rfl | kernel_rfl) ?_)
  refine set_plain X₁ (ox := excObj C t0 none .none) (od := none) ⟨he₁, rfl, rfl, trivial⟩ T.sa ?_
  refine osa_first X₁ he₁ T.ov T.hdC T.tk (fun h₃ tk₃ dx k₃ dn dne he₃ hn₃ => ?_)
  show wpAny _ _ (execs _ _) _ _ _
  have z : s.heap.objs.size < h₁.objs.size := hn.lt
  exact wpAny_execs_nil (hq h₃ tk₃ dx ⟨fun b o hb e => k₃ b o hb (k b o e), he₃, Nat.le_of_lt (Nat.lt_of_lt_of_le z dn), dne, hn₃⟩)
theorem made_run (T : Txt K mg x qual C fI) {v : Value} (X : K.In s.heap) (lim : s.heap.NoLimit) (room : A.depth + 1 < recursionLimit)
    (hq : ∀ h' tk e d, Made s.heap h' e C d v → R (.ok (.ret (.ref e))) { s with heap := h', toks := tk }) :
    codeAny (model prog w) A (.call (.ref C) ⟨[v], []⟩) R s := by
  obtain ⟨nm, N, qn, bs, bm, hdct, sn, sub, ab, col, dd, k0, k1, k2, k3, k5, hC, hT⟩ := excInit_of X T.ex
  obtain ⟨hp, g, dr, tk, os⟩ := s
  have k : ∀ b o, hp.get? b = some o → ((hp.push (kdv_tup [v])).push (HandSPX.excO C hp.objs.size)).get? b = some o := fun b o e => Heap.get?_push_of_some _ (Heap.get?_push_of_some _ e)
  have hget : ((hp.push (kdv_tup [v])).push (HandSPX.excO C hp.objs.size)).get? (hp.objs.size + 1) = some (excObj C hp.objs.size none .none) := by heap_get
  refine HandSPX.call_own F.excBase_Exception hT hC (looks_findIn X T.iC) (fun self => bind_fn X self T.tC) (by rw [sizeLine_eq]; exact (by decide : 1 ≤ 16777216)) ?_
  refine init_run (s := ⟨(hp.push (kdv_tup [v])).push (HandSPX.excO C hp.objs.size), g, dr, tk, os⟩) T (X.keeps k) (lim.keeps k) hget ?_ (fun h' tk' dx M => ?_)
  · show A.depth + 1 < recursionLimit
    exact room
  · obtain ⟨k', hx, dn, dne, hns⟩ := M
    have old : ∀ b o, hp.get? b = some o → h'.get? b = some o := fun b o e => k' b o (Nat.ne_of_lt (Nat.lt_succ_of_lt (Heap.lt_size e))) (k b o e)
    have z : hp.objs.size + 1 + 1 ≤ dx := by
      have q := dn
      rw [Heap.size_push, Heap.size_push] at q
      exact q
    exact ⟨rfl, hq h' tk' (hp.objs.size + 1) dx ⟨old, Nat.le_succ _, ⟨_, _, hx, rfl, rfl, rfl, rfl⟩, Nat.le_trans (Nat.le_trans (Nat.le_succ _) (Nat.le_succ _)) z, dne, hns⟩⟩
end
theorem relO_f {v : V} {v' : Value} (r : RelV v v') (f : Str) : RelO (List.lookup f [(("line" : Str), v)]) (if f = "line" then some v' else none) := by
  by_cases hw : f = "line"
  · subst hw
    rw [if_pos rfl]
    have q : List.lookup ("line" : Str) [(("line" : Str), v)] = some v := by simp [List.lookup]
    rw [q]
    exact r
  · rw [if_neg hw]
    have qw : (f == ("line" : Str)) = false := by simpa using hw
    have q2 : List.lookup f [(("line" : Str), v)] = none := by simp [List.lookup, qw]
    rw [q2]
    trivial
section
variable {X : Cx} {C fI : Addr} {x qual : Str}
/-- x(e) -/
def tMk (C : Addr) (ta : TA) : L2.St → Hp → XK → Prop := fun σ H Q => ta σ H fun vs H1 => ∃ v, vs = [v] ∧ ∀ d, H1 d = none → Q (.ref C) (some d) (upd H1 d (.xd [(("line" : Str), v)]))
theorem pmk {a : Expr} {ta : TA} {p pos : Pos} {k : Nat} (T : Txt X.K X.mg x qual C fI) (hr : Room k X.A) (ha : PA X [a] ta) (hg : Gl X x := by rfl) (hdb : (x == ("__debug__" : Str)) = false := by decide)
    (he : starEach (a :: []) X.env = (false, eval a X.env) :: starEach [] X.env := by rfl) (hpl : (backTo pos (starEach [] X.env)).any (·.1) = false := by rfl) :
    PMk X (.Call (.Name x p) [a] [] pos) (tMk C ta) := by
  intro pins s σ H Q I h
  refine wpAny_Call_Name_kw (ld_glob I hg T.gC ?_ hdb)
  refine callWith_K (h₀ := X.base) I.ok.mod.kin T.kC (thn (ha.run pos pins s σ H _ I h) fun us s1 hh => ?_) he hpl
  obtain ⟨vs, H1, I1, r1, v, ev, q1⟩ := hh
  subst ev
  refine ⟨I1.kIn, ?_⟩
  cases r1 with
  | cons rv rn =>
    rename_i v' us'
    cases rn
    show wpAny _ _ (call (.ref C) [v']) _ _ _
    have hlim := I1.nolimit
    obtain ⟨hp, g, dr, tk, os⟩ := s1
    refine wpAny_call (made_run T I1.kIn hlim (by have := hr.dp; omega) (fun h' tk' e d M => ?_))
    show MkP X pins σ Q (.ref e) ⟨h', g, dr, tk', os⟩
    obtain ⟨oe, fv, hoe, hc, hd, hdat, h1⟩ := M.obj
    have hns := M.ns
    obtain ⟨G', g1, g2⟩ := restrict h' fun b => decide (b ≠ e)
    have gk : ∀ b, b ≠ e → G'.get? b = h'.get? b := fun b hb => g1 b (decide_eq_true hb)
    have ge : G'.get? e = none := g2 e (by simp)
    have old : ∀ b o, hp.get? b = some o → G'.get? b = some o := fun b o q => (gk b (Nat.ne_of_lt (Nat.lt_of_lt_of_le (Heap.lt_size q) M.new))).trans (M.keep b o q)
    have ob : ObjOk X.prog X.w (upd H1 d (.xd [(("line" : Str), v)])) G' d (.xd [(("line" : Str), v)]) :=
      ⟨_, hns.at (fun o q => (gk d M.ne).trans q), fun f => relO_f rv f⟩
    have J : L2.Inv X pins σ (upd H1 d (.xd [(("line" : Str), v)])) ⟨G', g, dr, tk', os⟩ := I1.laid (t' := tk') old M.big ob
    refine ⟨e, oe, fv, ⟨G', g, dr, tk', os⟩, _, .ref C, some d, rfl, J, (fun b o q => ?_), ge, hoe, ⟨hc, hd⟩, hdat, h1, ?_, rfl, I1.bare, raises_own T.exC T.tyC, q1 d (I1.hok.fresh M.big)⟩
    · by_cases hb : b = e
      · have q' : G'.get? b = some o := q
        rw [hb, ge] at q'
        cases q'
      · exact (gk b hb).symm.trans q
    · rw [upd_ne (Ne.symm M.ne)]
      exact I1.hok.fresh M.new
/-- raise x(e) -/
def tRaise (C : Addr) (W : WX) (ta : TA) : TS := fun _ σ H => tMk C ta σ H fun cls d H' => W cls d σ H'
theorem ps_raise {a : Expr} {ta : TA} {W : WX} {p pos pos2 : Pos} {k : Nat} (hc : X.calm = true) (T : Txt X.K X.mg x qual C fI) (hr : Room k X.A) (tk : Takes X W) (ha : PA X [a] ta) (hg : Gl X x := by rfl) (hdb : (x == ("__debug__" : Str)) = false := by decide)
    (he : starEach (a :: []) X.env = (false, eval a X.env) :: starEach [] X.env := by rfl) (hpl : (backTo pos (starEach [] X.env)).any (·.1) = false := by rfl) :
    PS X (.Raise (some (.Call (.Name x p) [a] [] pos)) none pos2) (tRaise C W ta) := L2.ps_raise hc tk (pmk T hr ha hg hdb he hpl)
end
end MqE_line

namespace Mq
open PySem PySem.Spec PyProof.Rows L2
/-- repr of a list or tuple without dicts in it, wherever it stands -/
def rRepP (K : PySem.W.Frag) : List V → Hp → VK → Prop := fun xs H Q => ∃ (a : Addr) (d : PyData), xs = [.ref a] ∧ Dp K H (.ref a) d ∧ d.showable = true ∧ d.hasDict = false ∧
  d.depth ≤ 40 ∧ d.shown.length ≤ sizeLine ∧ Q (.str d.shown) H
theorem call_repP {X : Cx} {k : Nat} (hr : Room k X.A) (gA : Still X.A) : CallR X (.builtin "repr") (rRepP X.K) := by
  intro pins s σ H xs us Q I r h
  obtain ⟨a, d, rfl, hd, hs, hz, hde, hl, q⟩ := h
  obtain ⟨u, rfl, rx⟩ := vals1 r
  have hu := hr.units
  obtain ⟨as, rd⟩ := Dp.reads I d _ _ hd rx
  cases rx
  exact repr_of_reads' rd hs (fun z => by rw [hz] at z; cases z) gA (by omega) (fun _ _ e => e) (fun h' u tk k => ⟨.str _, H, I.kept k, ⟨_, rfl⟩, q⟩) hl
/-- what a rule asks, told otherwise -/
theorem PE_imp {X : Cx} {e : Expr} {t t' : TE} (h : PE X e t) (i : ∀ σ H Q, t' σ H Q → t σ H Q) : PE X e t' := ⟨fun pins s σ H Q I q => h.run pins s σ H Q I (i σ H Q q)⟩
end Mq

namespace Mq
open PySem PySem.Spec PyProof.Rows L2
/-! ### (number, text) < (number, text) -/
def ltIS (x y : Int × Str) : Bool := if x.1 = y.1 then (if x.2 = y.2 then false else decide (x.2.cps.toList < y.2.cps.toList)) else decide (x.1 < y.1)
theorem op_ltIS {X : Cx} (hu : X.A.units < cLine) : OpR X (compareOp .Lt) (fun x y H Q => ∃ (a b : Addr) (p q : Int × Str), x = .ref a ∧ y = .ref b ∧ SqT X.K H a [.int p.1, .str p.2] ∧ SqT X.K H b [.int q.1, .str q.2] ∧ Q (.bl (ltIS p q)) H) := by
  intro pins s σ H x y v u Q I rx ry h
  obtain ⟨a, b, p, q, rfl, rfl, ha, hb, k⟩ := h
  cases rx
  cases ry
  obtain ⟨its, r1, p1, _⟩ := I.tuple ha
  obtain ⟨its2, r2, p2, _⟩ := I.tuple hb
  obtain ⟨u1, u2, rfl, ⟨t1, rfl⟩, ⟨t2, rfl⟩⟩ := vals2 r1
  obtain ⟨v1, v2, rfl, ⟨t3, rfl⟩, ⟨t4, rfl⟩⟩ := vals2 r2
  let e : Nat → Bool := fun j => if j = 0 then p.1 == q.1 else p.2 == q.2
  let r : Nat → Bool := fun j => if j = 0 then decide (p.1 < q.1) else decide (p.2.cps.toList < q.2.cps.toList)
  have R := Ob.RcOp.tuples_lt (A := X.A) (s := s) (e := e) (r := r) p1 p2 hu (fun j h1 h2 => by
    match j, h1, h2 with
    | 0, _, _ => exact SeqAt.EqAt.int_int _ _ _ _
    | 1, _, _ => exact SeqAt.EqAt.str_str _ _ _ _) (fun j h1 h2 _ => by
    match j, h1, h2 with
    | 0, _, _ => exact Ob.RcOp.lt_int _ _ _ _
    | 1, _, _ => exact fun prog w E Q h => PySem.P.lt_str h)
  have z : Ob.lexAt e r (decide ((#[Value.int p.1 t1, Value.str p.2 t2] : Array Value).size < (#[Value.int q.1 t3, Value.str q.2 t4] : Array Value).size)) 0 2 = ltIS p q := by
    show (if (p.1 == q.1) = true then (if (p.2 == q.2) = true then false else decide (p.2.cps.toList < q.2.cps.toList)) else decide (p.1 < q.1)) = _
    unfold ltIS
    simp only [beq_iff_eq]
  have R2 : Ob.RcOp .Lt X.A s (.ref a) (.ref b) (ltIS p q) := by
    rw [← z]
    exact R
  exact R2 X.prog X.w X.xe (EP X pins σ Q) ⟨.bl _, H, I, rfl, k⟩
end Mq

namespace Mq
open PySem PySem.Spec PyProof.Rows L2
/-! ### pairs of texts by <; the order's own laws -/
theorem le_not (x y : Str × Str) : leSS x y = !ltSS y x := by
  cases h : ltSS y x with
  | true => exact le_of_lt h
  | false =>
    unfold leSS
    have h1 : (decide (y.1.cps.toList < x.1.cps.toList) || (!decide (x.1.cps.toList < y.1.cps.toList) && (decide (y.2.cps.toList < x.2.cps.toList) || (!decide (x.2.cps.toList < y.2.cps.toList) && false)))) = false := h
    simp only [Bool.and_false, Bool.or_false, Bool.or_eq_false_iff, decide_eq_false_iff_not, Bool.and_eq_false_iff, Bool.not_eq_false', decide_eq_true_eq] at h1
    obtain ⟨c1, c2⟩ := h1
    by_cases e : x.1 = y.1
    · rw [if_pos e]
      by_cases e2 : x.2 = y.2
      · rw [if_pos e2]
        rfl
      · rw [if_neg e2]
        rcases c2 with c2 | c2
        · rw [e] at c2
          exact (List.lt_irrefl _ c2).elim
        · rw [decide_eq_false c2]
    · rw [if_neg e, decide_eq_false c1]
theorem lt_trans {x y z : Str × Str} (h : ltSS x y = true) (k : ltSS y z = true) : ltSS x z = true := (PyProof.Rows.listOrd PyProof.Rows.itemOrd).trans _ _ _ h k
theorem lt_irr (x : Str × Str) : ltSS x x = false := (PyProof.Rows.listOrd PyProof.Rows.itemOrd).irrefl _
theorem op_ltSS {X : Cx} (hu : X.A.units < cLine) : OpR X (compareOp .Lt) (fun x y H Q => ∃ (a b : Addr) (p q : Str × Str), x = .ref a ∧ y = .ref b ∧ SqT X.K H a [.str p.1, .str p.2] ∧ SqT X.K H b [.str q.1, .str q.2] ∧ Q (.bl (ltSS p q)) H) := by
  intro pins s σ H x y v u Q I rx ry h
  obtain ⟨a, b, p, q, rfl, rfl, ha, hb, k⟩ := h
  cases rx
  cases ry
  obtain ⟨its, r1, p1, _⟩ := I.tuple ha
  obtain ⟨its2, r2, p2, _⟩ := I.tuple hb
  obtain ⟨u1, u2, rfl, ⟨t1, rfl⟩, ⟨t2, rfl⟩⟩ := vals2 r1
  obtain ⟨v1, v2, rfl, ⟨t3, rfl⟩, ⟨t4, rfl⟩⟩ := vals2 r2
  let e : Nat → Bool := fun j => if j = 0 then p.1 == q.1 else p.2 == q.2
  let r : Nat → Bool := fun j => if j = 0 then decide (p.1.cps.toList < q.1.cps.toList) else decide (p.2.cps.toList < q.2.cps.toList)
  have R := Ob.RcOp.tuples_lt (A := X.A) (s := s) (e := e) (r := r) p1 p2 hu (fun j h1 h2 => by
    match j, h1, h2 with
    | 0, _, _ => exact SeqAt.EqAt.str_str _ _ _ _
    | 1, _, _ => exact SeqAt.EqAt.str_str _ _ _ _) (fun j h1 h2 _ => by
    match j, h1, h2 with
    | 0, _, _ => exact fun prog w E Q h => PySem.P.lt_str h
    | 1, _, _ => exact fun prog w E Q h => PySem.P.lt_str h)
  have z : Ob.lexAt e r (decide ((#[Value.str p.1 t1, Value.str p.2 t2] : Array Value).size < (#[Value.str q.1 t3, Value.str q.2 t4] : Array Value).size)) 0 2 = ltSS p q := by
    show (if (p.1 == q.1) = true then (if (p.2 == q.2) = true then false else decide (p.2.cps.toList < q.2.cps.toList)) else decide (p.1.cps.toList < q.1.cps.toList)) = (decide (p.1.cps.toList < q.1.cps.toList) || (!decide (q.1.cps.toList < p.1.cps.toList) && (decide (p.2.cps.toList < q.2.cps.toList) || (!decide (q.2.cps.toList < p.2.cps.toList) && false))))
    simp only [beq_iff_eq, Bool.and_false, Bool.or_false]
    by_cases e1 : p.1 = q.1
    · rw [if_pos e1, e1, decide_eq_false (List.lt_irrefl _)]
      by_cases e2 : p.2 = q.2
      · rw [if_pos e2, e2, decide_eq_false (List.lt_irrefl _)]
        rfl
      · rw [if_neg e2]
        rfl
    · rw [if_neg e1]
      by_cases c : p.1.cps.toList < q.1.cps.toList
      · rw [decide_eq_true c]
        rfl
      · have c2 : q.1.cps.toList < p.1.cps.toList := by
          by_cases c2 : q.1.cps.toList < p.1.cps.toList
          · exact c2
          · exact (e1 (congrArg Str.mk (Array.ext' (List.le_antisymm (List.not_lt.mp c2) (List.not_lt.mp c))))).elim
        rw [decide_eq_false c, decide_eq_true c2]
        rfl
  have R2 : Ob.RcOp .Lt X.A s (.ref a) (.ref b) (ltSS p q) := by
    rw [← z]
    exact R
  exact R2 X.prog X.w X.xe (EP X pins σ Q) ⟨.bl _, H, I, rfl, k⟩
end Mq

namespace Mq
open PySem PySem.Spec PyProof.Rows L2
/-! ### f(k = v, ..), all by keyword -/
theorem vals_rev : ∀ {vs : List V} {us : List Value}, Vals vs us → Vals vs.reverse us.reverse
  | _, _, .nil => .nil
  | _, _, .cons r h => by
    rw [List.reverse_cons, List.reverse_cons]
    exact (vals_rev h).append (.cons r .nil)
def rev0 {α : Type} (_ ws : List α) : List α := ws.reverse
section
variable {X : Cx} {CX : CXT} {k : Nat} {f : Addr} {fd : FuncData} {ps ks : List Str} {sp : Sp}
  {E : L2.St → XK} {x : Str} {p pos : Pos} {kws : List Keyword} {tk : TA}
  {g : List Value → List Value → List Value} {gV : List V → List V → List V}
def tCallK0 (m : Nat) (sp : Sp) (gV : List V → List V → List V) (E : L2.St → XK) (tk : TA) : TE := fun σ H Q => tk σ H fun zs H2 => zs.length = m ∧ sp (gV [] zs) H2 Q (E σ)
theorem pe_callK0 (F : FnOk X.prog X.w X.K X.mg X.base CX k f fd ps sp) (hr : Room k X.A) (hg : Gl X x) (hm : X.mg x = some (.ref f)) (hk : PySem.W.keepIn X.K (.ref f) = true) (hb : KBn X.K fd ps 0 ks g gV)
    (hx : ∀ σ, PassesAt CX X σ (E σ)) (hkw : PK X kws tk)
    (hall : (backToKw pos (keywordEach kws X.env)).all (·.1.isSome) = true := by rfl)
    (hks : (backToKw pos (keywordEach kws X.env)).filterMap (·.1) = ks := by rfl)
    (hdb : (x == ("__debug__" : Str)) = false := by decide)
    (hpl : ((backTo pos (starEach [] X.env)).any (·.1) || (backToKw pos (keywordEach kws X.env)).any (·.1.isNone)) = false := by rfl) :
    PE X (.Call (.Name x p) [] kws pos) (tCallK0 ks.length sp gV E tk) := by
  refine ⟨fun pins s σ H Q I h => ?_⟩
  refine wpAny_Call_Name_kw (ld_glob I hg hm ?_ hdb)
  refine PySem.W.callWith_KW0 (h₀ := X.base) I.ok.mod.kin hk hall ?_ hpl
  refine thn (hkw.run pos pins s σ H _ I h) fun ws s2 ⟨zs, H2, I2, rz, hl, q2⟩ => ⟨I2.kIn, ?_⟩
  rw [hks]
  have r2 := hb.rel (vs := []) (us := []) .nil rz
  have lw : ws.length = ks.length := rz.length.symm.trans hl
  refine wpAny_call (codeAny_mono (F.run X.A X.stack s2 H2 ⟨[], ks.zip ws⟩ (g [] ws) (gV [] zs) Q (E σ) hr I2.env0
    (hb.to s2 [] ws I2.kIn rfl lw) r2 q2) (fun r s' hq => ?_))
  match r, hq with
  | .error er, hq => exact hx σ pins H2 s2 er s' I2 hq
  | .ok (.ret u), hq => exact I2.after hq
  | .ok .next, hq => exact hq.elim
  | .ok .brk, hq => exact hq.elim
  | .ok .cont, hq => exact hq.elim
end
theorem kbn_rev2 {K : PySem.W.Frag} {x qual : Str} {st : Stmt} {f : Addr} {fd : FuncData} {p1 p2 : Str} (F : Fun K x qual st f fd)
    (h : ∀ (kV doc pm : Value) (an : Option Addr) (cdv ct : Value) (a b : Value), bindArgs (PySem.W.fnOf x qual (defArgs st) (defBody st) (defScope st) .none kV doc pm an cdv ct) ⟨[], [(p2, a), (p1, b)]⟩ = pure [(p1, b), (p2, a)]) :
    KBn K fd [p1, p2] 0 [p2, p1] rev0 rev0 := by
  obtain ⟨oc, od, kV, doc, pm, an, cdv, ct, osl, rfl, lk, hcd⟩ := F.ex
  refine ⟨fun s us ws _ h1 h2 => ?_, fun a b => vals_rev b⟩
  match us, ws, h1, h2 with
  | [], [a, b], _, _ => exact .of_eq (h kV doc pm an cdv ct a b)
theorem kbn_rev3 {K : PySem.W.Frag} {x qual : Str} {st : Stmt} {f : Addr} {fd : FuncData} {p1 p2 p3 : Str} (F : Fun K x qual st f fd)
    (h : ∀ (kV doc pm : Value) (an : Option Addr) (cdv ct : Value) (a b c : Value), bindArgs (PySem.W.fnOf x qual (defArgs st) (defBody st) (defScope st) .none kV doc pm an cdv ct) ⟨[], [(p3, a), (p2, b), (p1, c)]⟩ = pure [(p1, c), (p2, b), (p3, a)]) :
    KBn K fd [p1, p2, p3] 0 [p3, p2, p1] rev0 rev0 := by
  obtain ⟨oc, od, kV, doc, pm, an, cdv, ct, osl, rfl, lk, hcd⟩ := F.ex
  refine ⟨fun s us ws _ h1 h2 => ?_, fun a b => vals_rev b⟩
  match us, ws, h1, h2 with
  | [], [a, b, c], _, _ => exact .of_eq (h kV doc pm an cdv ct a b c)
end Mq

namespace Mq
open PySem PySem.Spec PyProof.Rows L2 ClX
/-! ### classmethods where what is raised is wished for at the slots as they stand; a class that stands in a slot -/
section
variable {X : Cx} {CX : CXT} {k n : Nat} {f g C p0 : Addr} {mc : Value} {fd : FuncData} {ps ks : List Str} {sp : Sp} {E : XK} {ES : L2.St → XK}
  {gg : List Value → List Value → List Value} {gV : List V → List V → List V} {pins : List (Addr × Obj)} {σ : L2.St} {H : Hp} {s : Shared} {Q : VK} {us ws : List Value} {vs zs : List V}
  {x m : Str} {p pos apos : Pos} {kws : List Keyword} {tk t ta tf : TA} {o e : Expr} {es : List Expr} {tc : TE} {pl : Sem Bool}
/-- x(e, ..), x a slot that holds the class C -/
def tMakeV (C : Addr) (sp : Sp) (E : XK) (tc : TE) (t : TA) : TE := fun σ H Q => tc σ H fun c H1 => c = .ref C ∧ t σ H1 fun vs H2 => ∀ x dx, H2 x = none → H2 dx = none → dx ≠ x → sp (.ref x :: vs) (upd (upd H2 dx (.own x)) x (.ins C dx [])) (fun v H3 => v = .non ∧ Q (.ref x) H3) E
theorem pe_makeV (M : Mk X.K C f) (F : FnOk X.prog X.w X.K X.mg X.base CX k f fd ps sp) (hr : Room (k + 1) X.A) (hc : PE X (.Name x p) tc) (hb : Binds X.K fd ps []) (hx : Passes CX X E)
    (ha : PA X (e :: es) t) (he : starEach (e :: es) X.env = (false, eval e X.env) :: starEach es X.env := by rfl) (hpl : (backTo pos (starEach es X.env)).any (·.1) = false := by rfl) :
    PE X (.Call (.Name x p) (e :: es) [] pos) (tMakeV C sp E tc t) := by
  refine ⟨fun pins s σ H Q I h => ?_⟩
  refine wpAny_Call_Name_kw (thn (hc.run pins s σ H _ I h) fun u s1 ⟨c, H1, I1, rc, ec, q1⟩ => ?_)
  subst ec
  obtain rfl : u = Value.ref C := rc
  refine PySem.W.callWith_K (h₀ := X.base) I.ok.mod.kin M.kp (thn (ha.run pos pins s1 σ H1 _ I1 q1) fun us s2 ⟨vs, H2, I2, r, q⟩ => ⟨I2.kIn, ?_⟩) he hpl
  refine run_make (dvs := []) M F hr hb .nil hx I2 r fun y dy h1 h2 h3 => ?_
  rw [List.append_nil]
  exact q y dy h1 h2 h3
theorem run_cmS {q : Addr} (F : FnOk X.prog X.w X.K X.mg X.base CX k g fd ps sp) (hr : Room k X.A) (hb : KBn X.K fd ps (n + 1) ks gg gV) (hx : PassesAt CX X σ E)
    (I : Inv X ((q, PySem.W.methodObj (.ref g) (.ref C)) :: pins) σ H s) (ru : Vals vs us) (rz : Vals zs ws) (hn : vs.length = n) (hm : zs.length = ks.length) (h : sp (gV (.ref C :: vs) zs) H Q E) :
    wpAny (model X.prog X.w) X.A (call (.ref q) us (ks.zip ws)) (EP X pins σ Q) X.xe s := by
  have z : wpAny (model X.prog X.w) X.A (call (.ref q) us (ks.zip ws)) (EP X ((q, PySem.W.methodObj (.ref g) (.ref C)) :: pins) σ Q) X.xe s := by
    refine wpAny_call (PySem.W.method_call (pin_at I) ?_)
    refine codeAny_mono (F.run X.A X.stack s H ⟨.ref C :: us, ks.zip ws⟩ (gg (.ref C :: us) ws) (gV (.ref C :: vs) zs) Q E hr I.env0
      (hb.to s (.ref C :: us) ws I.kIn (by rw [List.length_cons, ← ru.length, hn]) (rz.length.symm.trans hm)) (hb.rel (.cons rfl ru) rz) h) (fun r s' hq => ?_)
    match r, hq with
    | .error er, hq => exact hx _ H s er s' I hq
    | .ok (.ret u), hq => exact I.after hq
    | .ok .next, hq => exact hq.elim
    | .ok .brk, hq => exact hq.elim
    | .ok .cont, hq => exact hq.elim
  exact thn z fun _ _ y => unpinE y
def tCMethS (C : Addr) (m : Nat) (sp : Sp) (ES : L2.St → XK) (tc : TE) (t : TA) : TE := fun σ H Q => tc σ H fun x H1 => x = .ref C ∧ t σ H1 fun vs H2 => vs.length = m ∧ sp (.ref C :: vs) H2 Q (ES σ)
theorem pe_cmethS {n : Nat} (he : PE X o tc) (r : CRead X.K C mc) (c : CMet X.K C mc m p0 g) (F : FnOk X.prog X.w X.K X.mg X.base CX k g fd ps sp) (hr : Room k X.A) (hb : Binds X.K fd ps []) (hps : ps.length = n + 1) (hx : ∀ σ, PassesAt CX X σ (ES σ)) (ha : PA X (e :: es) t)
    (hst : starEach (e :: es) X.env = (false, eval e X.env) :: starEach es X.env := by rfl) (hpl : (backTo pos (starEach es X.env)).any (·.1) = false := by rfl)
    (ht : eval (.Call (.Attribute o m apos) (e :: es) [] pos) X.env = (do
      let ov ← eval o X.env
      standAt apos.atName
      let (f, first) ← holding [ov] (getMethod ov m pl)
      callWith pos f first (backTo pos (starEach (e :: es) X.env)) (backToKw pos (keywordEach [] X.env))) := by rfl) :
    PE X (.Call (.Attribute o m apos) (e :: es) [] pos) (tCMethS C n sp ES tc t) := by
  refine ⟨fun pins s σ H Q I h => ?_⟩
  refine PySem.W.methodCall_KW (pl := pl) (thn (he.run pins s σ H _ I h) fun u s1 ⟨x, H1, I1, rx, ex, q⟩ => ?_) ht
  subst ex
  obtain rfl : u = Value.ref C := rx
  refine getmethcm_ok I1 r c fun s2 I2 => ?_
  refine callwith_cm I2 (base_none I1 (Nat.le_refl _)) c.fi (thn (ha.run pos _ s2 σ H1 _ I2 q) fun us s3 ⟨vs, H2, I3, rv, hl, q2⟩ => ⟨⟨pin_at I3, I3.kIn⟩, ?_⟩) hst hpl
  have kb : KBn X.K fd ps (n + 1) [] (fun us _ => us) (fun vs _ => vs) := by
    refine ⟨fun s us ws kin h1 h2 => ?_, fun a _ => a⟩
    have b := hb s us kin (by rw [List.append_nil, hps, h1])
    rw [List.append_nil] at b
    exact b
  exact run_cmS (n := n) (zs := []) (ws := []) (ks := []) F hr kb (hx σ) I3 rv .nil hl rfl q2
def tCMethK (C : Addr) (m : Nat) (sp : Sp) (gV : List V → List V → List V) (ES : L2.St → XK) (tc : TE) (t : TA) : TE := fun σ H Q => tc σ H fun x H1 => x = .ref C ∧ t σ H1 fun zs H2 => zs.length = m ∧ sp (gV [.ref C] zs) H2 Q (ES σ)
theorem pe_cmethK (he : PE X o tc) (r : CRead X.K C mc) (c : CMet X.K C mc m p0 g) (F : FnOk X.prog X.w X.K X.mg X.base CX k g fd ps sp) (hr : Room k X.A) (hb : KBn X.K fd ps 1 ks gg gV) (hx : ∀ σ, PassesAt CX X σ (ES σ)) (hkw : PK X kws t)
    (hall : (backToKw pos (keywordEach kws X.env)).all (·.1.isSome) = true := by rfl)
    (hks : (backToKw pos (keywordEach kws X.env)).filterMap (·.1) = ks := by rfl)
    (hpl : ((backTo pos (starEach [] X.env)).any (·.1) || (backToKw pos (keywordEach kws X.env)).any (·.1.isNone)) = false := by rfl)
    (ht : eval (.Call (.Attribute o m apos) [] kws pos) X.env = (do
      let ov ← eval o X.env
      standAt apos.atName
      let (f, first) ← holding [ov] (getMethod ov m pl)
      callWith pos f first (backTo pos (starEach [] X.env)) (backToKw pos (keywordEach kws X.env))) := by rfl) :
    PE X (.Call (.Attribute o m apos) [] kws pos) (tCMethK C ks.length sp gV ES tc t) := by
  refine ⟨fun pins s σ H Q I h => ?_⟩
  refine PySem.W.methodCall_KW (pl := pl) (thn (he.run pins s σ H _ I h) fun u s1 ⟨x, H1, I1, rx, ex, q⟩ => ?_) ht
  subst ex
  obtain rfl : u = Value.ref C := rx
  refine getmethcm_ok I1 r c fun s2 I2 => ?_
  refine PySem.W.callWith_of (P := PySem.W.MethP X.K s1.heap.objs.size g (.ref C)) hpl (PySem.W.keeps_M c.fi) (PyProof.Rows.evalArgs_kw2_nil hall ?_)
  refine thn (hkw.run pos _ s2 σ H1 _ I2 q) fun ws s3 ⟨zs, H2, I3, rz, hl, q2⟩ => ⟨⟨pin_at I3, I3.kIn⟩, ?_⟩
  rw [hks]
  exact run_cmS (n := 0) (vs := []) (us := []) F hr hb (hx σ) I3 .nil rz rfl hl q2
end
end Mq

namespace Mq
open PySem PySem.Spec PyProof.Rows L2
/-! ### a text, from its end -/
def revS (z : Str) : Str := ⟨z.cps.toList.reverse.toArray⟩
theorem rev_ix (n : Nat) : Builtin.Str.strSliceIndices none none (-1) n = (List.range n).reverse := by
  rw [← PySem.W.krv_range, ← PySem.W.krv_sliceRange]
  rfl
theorem rev_pick (z : Str) : (Builtin.Str.strSliceIndices none none (-1) z.length).filterMap (z.cps[·]?) = z.cps.toList.reverse := by
  rw [rev_ix]
  show ((List.range z.cps.size).reverse).filterMap (z.cps[·]?) = _
  rw [List.filterMap_reverse, PySem.W.krv_all]
def tRevS (te : TE) : TE := fun σ H Q => te σ H fun x H1 => ∃ z : Str, x = .str z ∧ z.length ≤ sizeLine ∧ Q (.str (revS z)) H1
theorem pe_revS {X : Cx} {e : Expr} {te : TE} {k : Nat} {p1 p2 p3 pos : Pos} (he : PE X e te) : PE X (.Subscript e (.Slice none none (some (.UnaryOp .USub (.Constant (.int 1) k p1) p2)) p3) pos) (tRevS te) := by
  refine ⟨fun pins s σ H Q I0 h => ?_⟩
  refine Subscript_ (thn (he.run pins s σ H _ I0 h) fun v s1 ⟨x, H1, I1, r1, q1⟩ => ?_)
  obtain ⟨z, ez, hz, q⟩ := q1
  subst ez
  obtain ⟨tz, rfl⟩ := r1
  have back : PO X (some (.UnaryOp .USub (.Constant (.int 1) k p1) p2)) (tPart (tUn (rU fun i => .int (-i)) (tC (.int 1)))) := po_some (pe_un un_neg pe_int)
  refine wpAny_Slice (thn (po_none.run pins s1 σ H1 (fun o G => o = none ∧ G = H1) I1 ⟨rfl, rfl⟩) fun v1 s2 ⟨o1, G1, I2, a1, b1, c1⟩ => ?_)
  subst b1 c1
  refine thn (po_none.run pins s2 σ G1 (fun o G => o = none ∧ G = G1) I2 ⟨rfl, rfl⟩) fun v2 s3 ⟨o2, G2, I3, a2, b2, c2⟩ => ?_
  subst b2 c2
  refine thn (back.run pins s3 σ G2 (fun o G => o = some (-1) ∧ G = G2) I3 ⟨1, rfl, -1, rfl, rfl, rfl⟩) fun v3 s4 ⟨o3, G3, I4, a3, b3, c3⟩ => ?_
  subst b3 c3
  obtain ⟨l1, rfl, f1⟩ := IsPart.raw a1
  obtain ⟨l2, rfl, f2⟩ := IsPart.raw a2
  obtain ⟨l3, rfl, f3⟩ := IsPart.raw a3
  have I5 : Inv X pins σ G3 { s4 with heap := s4.heap.push { cls := .type "slice", data := .fields #[partValue l1, partValue l2, partValue l3] } } := I4.kept (t' := s4.toks) fun b ob q => Heap.get?_push_of_some _ q
  show wpAny (model X.prog X.w) X.A (subscriptTail e (.Slice none none (some (.UnaryOp .USub (.Constant (.int 1) k p1) p2)) p3) (.str z tz) (.ref s4.heap.objs.size)) (EP X pins σ Q) X.xe { s4 with heap := s4.heap.push { cls := .type "slice", data := .fields #[partValue l1, partValue l2, partValue l3] } }
  refine tail_any (ops := [.str z tz, .ref s4.heap.objs.size]) (typeIs_str _ z tz) (F.slot_str_getitem.lookup) ?_ (by with_unfolding_all rfl)
  refine wpAny_getItem_str_slice (l := l1) (u := l2) (st := l3) ⟨_, Heap.get?_push_size _ rfl, rfl, rfl⟩ (by rw [f3]; rfl) ?_
  unfold sliceMade slicePicked
  rw [f1, f2, f3]
  show Made.post (if ((-1 : Int) == 1 && (Builtin.Str.strSliceIndices none none (-1) z.length).length == z.length) = true then Made.val (.str z tz) else Made.str ⟨((Builtin.Str.strSliceIndices none none (-1) z.length).filterMap (z.cps[·]?)).toArray⟩) (EP X pins σ Q) _
  rw [rev_pick, if_neg (show ¬ _ by rw [show ((-1 : Int) == 1) = false by decide, Bool.false_and]; exact Bool.false_ne_true)]
  refine ⟨?_, .str _, G3, I5.tok _, ⟨_, rfl⟩, q⟩
  show (z.cps.toList.reverse.toArray).size ≤ sizeLine
  rw [List.size_toArray, List.length_reverse, Array.length_toList]
  exact hz
end Mq

/-! Mq34: sets of texts that can be walked: set(text), sorted(set). -/
namespace PySem.Froz
open PySem
/-- the set of the texts l at a: its table rises, and it can be walked -/
def WkT (P : Program) (w : World) (h : Heap) (a : Addr) (l : List Str) : Prop :=
  ∃ D : SD, h.get? a = some (sObj "set" D) ∧ TxOk P w D l ∧ l.Nodup ∧ l.length < scanBound ∧ L2.Ris D.2.2.place.toList ∧ (w.params.followText "set-order" = true ∨ D.2.2.led = true)
section
variable {P : Program} {w : World} {A : Around} {E : Value → Shared → Prop} {s : Shared}
theorem WkT.at {h h' : Heap} {a : Addr} {l : List Str} (R : WkT P w h a l) (k : ∀ o, h.get? a = some o → h'.get? a = some o) : WkT P w h' a l := by
  obtain ⟨D, ho, r⟩ := R
  exact ⟨D, k _ ho, r⟩
theorem tail_ris {ep : Nat} {es1 : Array (Int × Value)} {t2 : SetTable} {wd : Bool} (r : L2.Ris t2.place.toList) : L2.Ris (tailTx ep es1 t2 wd).2.2.place.toList := by
  unfold tailTx
  split
  · exact L2.relayAll_ris _ _ _
  · exact r
theorem tail_led {ep : Nat} {es1 : Array (Int × Value)} {t2 : SetTable} {wd : Bool} : (tailTx ep es1 t2 wd).2.2.led = t2.led := by
  unfold tailTx
  split
  · exact L2.relayAll_led _ _ _
  · rfl
theorem add_ris {h : Int} {v : Value} {D : SD} (r : L2.Ris D.2.2.place.toList) : L2.Ris (addTx h v D).2.2.place.toList := by
  obtain ⟨es, ep, t⟩ := D
  have r1 := L2.layNew_ris t es h v r
  refine tail_ris ?_
  show L2.Ris (if (layNew t es h v).2.1.plain = true then { (layNew t es h v).2.1 with plain := false } else (layNew t es h v).2.1).place.toList
  split <;> exact r1
theorem add_led {h : Int} {v : Value} {D : SD} : (addTx h v D).2.2.led = D.2.2.led := by
  obtain ⟨es, ep, t⟩ := D
  have l1 := L2.layNew_led t es h v
  refine tail_led.trans ?_
  show (if (layNew t es h v).2.1.plain = true then { (layNew t es h v).2.1 with plain := false } else (layNew t es h v).2.1).led = t.led
  split <;> exact l1
/-- one that is there already -/
theorem add_old {a : Addr} {T : String} {D : SD} {l : List Str} {k : Str} {u : Tok} {Q : Bool → Shared → Prop} (ho : s.heap.get? a = some (sObj T D)) (F : TxOk P w D l) (hk : k ∈ l) (hb : l.length < scanBound)
    (h : Q false s) : wpAny (model P w) A (setAddHashed a (.str k u) (hashStr w k)) Q E s := by
  obtain ⟨es, ep, t⟩ := D
  have hd : (sObj T (es, ep, t)).data = .set es ep t := rfl
  have hf : t.fits es.size = true := F.fit
  have hel : ElemsOf (strKind P w) es.toList := F.el
  have hb0 : es.size < scanBound := by rw [show es.size = l.length from F.sz]; exact hb
  have hkey : (strKind P w).is k (.str k u) = true := is_str k u
  unfold setAddHashed setAddHashedIn
  refine wpAny_holding (wpAny_bind (wpAny_setState_of ho hd hf ?_))
  dsimp only
  rw [byScan_of rfl hb0 hel]
  simp only [↓reduceIte]
  unfold setAddByScan
  refine wpAny_bind ?_
  refine wpAny_bind (wpAny_rule ?_)
  refine wpAny_bind (wpAny_setScan_of (knd := strKind P w) (k := k) hkey ho hd hf hel ?_)
  cases hfi : List.findIdx? (fun e => (strKind P w).is k e.2) es.toList with
  | some j => exact wpAny_pure (wpAny_pure h)
  | none =>
    obtain ⟨e, he, q⟩ := (F.mem k).mp hk
    have c := List.findIdx?_eq_none_iff.mp hfi e he
    rw [q] at c
    cases c
/-- the members behind so many signs of a text -/
def Upto (x : Str) (i : Nat) (l : List Str) : Prop := l.length ≤ i ∧ ∀ k : Str, k ∈ l ↔ k ∈ (PyProof.Rows.signs x).take i
theorem upto_step {x : Str} {i c : Nat} {l : List Str} (u : Upto x i l) (hc : x.cps[i]? = some c) : (PyProof.Rows.signs x)[i]? = some (sing c) ∧
    ∀ k, k ∈ (PyProof.Rows.signs x).take (i + 1) ↔ k ∈ l ∨ k = sing c := by
  have e : (PyProof.Rows.signs x)[i]? = some (sing c) := by
    unfold PyProof.Rows.signs
    rw [List.getElem?_map, Array.getElem?_toList, hc]
    rfl
  refine ⟨e, fun k => ?_⟩
  rw [List.take_add_one, e, u.2 k]
  simp
theorem code_updT {I a : Addr} {fp wr : List Addr} {n : Nat} {St : Nat → Heap → Prop} {x : Str} {R : Result → Shared → Prop}
    (W : Walks P w A.in1 I fp wr n (SignAt x) St) (hn : n = x.cps.size) (hsz : n + 1 < scanBound) (haf : a ∉ fp) : ∀ (m i : Nat) (l : List Str) (s : Shared), n - i = m → i ≤ n → St i s.heap →
    WkT P w s.heap a l → Upto x i l →
    (∀ h' tk l', (∀ b o, b ∉ a :: wr → s.heap.get? b = some o → h'.get? b = some o) → WkT P w h' a l' → Upto x n l' → R (.ok (.ret .none)) { s with heap := h', toks := tk }) →
    codeAny (model P w) A (.builtin "set.update.loop" ⟨[.ref a, .ref I], []⟩) R s := by
  have haw : a ∉ wr := fun z => haf (W.sub _ z)
  have hsub : ∀ b, b ∉ a :: wr → b ∉ wr := fun b hb z => hb (List.mem_cons_of_mem _ z)
  intro m
  induction m with
  | zero =>
    intro i l s hm hi hst hS hu hR
    have hin : i = n := by omega
    subst hin
    refine codeAny_builtin PyProof.Rows.F.entry_set_update_loop ?_
    rw [Around.under_plainId PyProof.Rows.F.plain_set_update_loop _]
    show wpAny _ A.in1 (pyNext (.ref I) >>= _) _ _ s
    refine wpAny_bind (W.done s _ _ hst fun h' tk hk' => ?_)
    show wpAny _ A.in1 (ret Value.none) _ _ _
    exact wpAny_pure (hR h' tk l (fun b o hb e => hk' b o (hsub b hb) e) (hS.at fun o e => hk' a o haw e) hu)
  | succ m ih =>
    intro i l s hm hi hst hS hu hR
    have hlt : i < n := by omega
    refine codeAny_builtin PyProof.Rows.F.entry_set_update_loop ?_
    rw [Around.under_plainId PyProof.Rows.F.plain_set_update_loop _]
    show wpAny _ A.in1 (pyNext (.ref I) >>= _) _ _ s
    refine wpAny_bind (W.item i s _ _ hlt hst fun v h' tk hP hst' hk' => ?_)
    obtain ⟨c, t, hc, rfl⟩ := hP
    obtain ⟨e1, e2⟩ := upto_step hu hc
    have hS' : WkT P w h' a l := hS.at fun o e => hk' a o haw e
    obtain ⟨D, hD, F, nd, hb, hr, hl⟩ := hS'
    show wpAny _ A.in1 (holding [Value.str (sing c) t] (setAdd a (.str (sing c) t)) >>= _) _ _ _
    refine wpAny_bind (wpAny_holding ?_)
    unfold setAdd
    refine wpAny_holding ?_
    refine wpAny_bind ((strKind P w).pyHash (k := sing c) (is_str _ _) ?_)
    have hll : l.length ≤ i := hu.1
    by_cases hk : sing c ∈ l
    · refine add_old (s := { s with heap := h', toks := tk + 1 }) hD F hk hb ?_
      refine wpAny_pure ⟨plainId_quiet PyProof.Rows.F.plain_set_update_loop _, ih (i + 1) l { s with heap := h', toks := tk + 1 } (by omega) hlt hst' ⟨D, hD, F, nd, hb, hr, hl⟩ ⟨by omega, fun k => ?_⟩ fun h'' tk'' l' hk'' w' u' => ?_⟩
      · rw [e2 k]
        exact ⟨.inl, fun z => z.elim id fun q => q ▸ hk⟩
      · exact hR h'' tk'' l' (fun b o hb e => hk'' b o hb (hk' b o (hsub b hb) e)) w' u'
    · have hb2 : l.length + 1 < scanBound := by omega
      refine add_x (s := { s with heap := h', toks := tk + 1 }) hD F hk hb2 ?_
      have hne : ∀ b ∈ fp, b ≠ a := fun b hb z => haf (z ▸ hb)
      have k2 : ∀ b o, b ≠ a → h'.get? b = some o → (h'.update a (fun _ => sObj "set" (addTx (hashStr w (sing c)) (.str (sing c) t) D))).get? b = some o := fun b o hb e => PySem.Heap.get?_update_of_ne _ (Ne.symm hb) e
      have hw : WkT P w (h'.update a (fun _ => sObj "set" (addTx (hashStr w (sing c)) (.str (sing c) t) D))) a (sing c :: l) :=
        ⟨_, get_upd _ hD rfl, add_ok t F, List.nodup_cons.mpr ⟨hk, nd⟩, hb2, add_ris hr, hl.imp id fun z => by rw [add_led]; exact z⟩
      refine wpAny_pure ⟨plainId_quiet PyProof.Rows.F.plain_set_update_loop _, ih (i + 1) (sing c :: l) { s with heap := h'.update a (fun _ => sObj "set" (addTx (hashStr w (sing c)) (.str (sing c) t) D)), toks := tk + 1 } (by omega) hlt
        (W.frame _ h' _ hst' fun b hb o e => k2 b o (hne b hb) e) hw ⟨?_, fun k => ?_⟩ fun h'' tk'' l' hk'' w' u' => ?_⟩
      · show l.length + 1 ≤ i + 1
        omega
      · rw [e2 k, List.mem_cons]
        exact Or.comm
      · exact hR h'' tk'' l' (fun b o hb e => hk'' b o hb (k2 b o (fun z => hb (z ▸ List.mem_cons_self ..)) (hk' b o (hsub b hb) e))) w' u'
end
end PySem.Froz

/-! Mq35: set(text), sorted(set). -/
namespace PySem.Froz
open PySem PySem.Spec PyProof.Rows L2
def emptyO (w : World) : Obj := { cls := .type "set", dict := none, data := .set #[] 0 (.fresh 0 0 (!w.params.followText "set-order")) }
theorem wkt_new {P : Program} {w : World} {h : Heap} {a : Addr} (ho : h.get? a = some (emptyO w)) : WkT P w h a [] := by
  refine ⟨(#[], 0, .fresh 0 0 (!w.params.followText "set-order")), ho, TxOk.nil rfl, List.nodup_nil, by decide, List.Pairwise.nil, ?_⟩
  show _ ∨ (!w.params.followText "set-order") = true
  cases w.params.followText "set-order"
  · exact .inr rfl
  · exact .inl rfl
section
variable {P : Program} {w : World} {A : Around} {E : Value → Shared → Prop} {s : Shared}
set_option maxHeartbeats 3200000 in
theorem call_set_txt {x : Str} {u : Tok} {Q : Value → Shared → Prop} (hh : A.handled = none) (hsz : x.cps.size + 1 < scanBound)
    (h : ∀ (h' : Heap) (tk : Nat) (l : List Str), WkT P w h' s.heap.objs.size l → Upto x x.cps.size l → (∀ b o, s.heap.get? b = some o → h'.get? b = some o) → Q (.ref s.heap.objs.size) { s with heap := h', toks := tk }) :
    wpAny (model P w) A (call (.type "set") [.str x u]) Q E s := by
  obtain ⟨c, tl, hmro⟩ := PySem.F.called_set.mro
  have hmade := PySem.F.called_set.made
  have hsub := PySem.F.called_set.sub
  refine wpAny_call (codeAny_of_tree ?_)
  show wpAny _ _ (callAny (.type "set") _) _ _ _
  refine wpAny_pure ⟨Code.quiet_builtin _ (by decide +kernel), codeAny_builtin F.entry_type_call ?_⟩
  rw [Around.under_plain (weight_type_call_type "set" [.str x u] []) rfl]
  have h1 := PySem.F.called_set.notType
  have h2 := PySem.F.called_set.canCreate
  have hct := F.typeCall_set_1 (.str x u)
  repeat (any_goals (first | assumption | wp_step))
  refine codeAny_mono (code_set_led1 (.str x u) (E := E) (Q₁ := fun obj s₁ => obj = .ref s.heap.objs.size ∧ s₁ = { s with heap := s.heap.push (emptyO w) }) ⟨rfl, rfl⟩) fun r s₁ hr => ?_
  cases r with
  | error e => exact hr
  | ok fl =>
    cases fl with
    | ret obj =>
      obtain ⟨rfl, rfl⟩ := hr
      have hS : (s.heap.push (emptyO w)).get? s.heap.objs.size = some (emptyO w) := Heap.get?_push_size _ rfl
      have hT : Shared.TypeIs { s with heap := s.heap.push (emptyO w) } (.ref s.heap.objs.size) "set" := ⟨_, hS, rfl⟩
      have hli := PySem.F.called_set.init.lookup
      have hbi := PySem.F.called_set.init.bind (.ref s.heap.objs.size)
      repeat (any_goals (first | assumption | wp_step))
      refine codeAny_mono (codeAny_call_builtin (R := wants (fun r s₂ => r = .none ∧ ∃ h' tk l, s₂ = { s with heap := h', toks := tk } ∧ WkT P w h' s.heap.objs.size l ∧ Upto x x.cps.size l ∧
          (∀ b o, s.heap.get? b = some o → h'.get? b = some o)) E) PySem.F.called_set.init.plain F.entry_set_init (check_set_init_1 hT ?_)) fun r₂ s₂ hr₂ => ?_
      · unfold Builtin.«set.__init__» noKeywords Builtin.Frozenset.updateFrom
        generalize hPI : pyIter = PI
        have hA1 := PySem.F.sub_str_set
        have hA2 := PySem.F.sub_str_frozenset
        have hne : (Value.type "str" == Value.type "dict") = false := by decide
        unfold emptyO at hS hT ⊢
        wp_walk
        subst hPI
        refine wpAny_pyIter_str fun o St hW hst => ?_
        refine wpAny_bind (wpAny_runValue ?_)
        have hsz1 : (s.heap.push (emptyO w)).objs.size = s.heap.objs.size + 1 := Heap.size_push ..
        have hS2 : WkT P w ((s.heap.push (emptyO w)).push o) s.heap.objs.size [] := (wkt_new (P := P) (Heap.get?_push_size _ rfl)).at fun _ e => Heap.get?_push_of_some _ e
        refine code_updT (hW _ (by simp [hh])) rfl hsz ?hSf (x.cps.size - 0) 0 [] _ rfl (Nat.zero_le _) hst hS2 ⟨Nat.le_refl 0, fun k => by simp⟩ fun h' tk l hk hw hu => ?_
        case hSf =>
          rw [List.mem_singleton]
          show s.heap.objs.size ≠ (s.heap.push (emptyO w)).objs.size
          rw [hsz1]
          exact Nat.ne_of_lt (Nat.lt_succ_self _)
        show wpAny _ _ _ _ _ _
        refine wpAny_pure ?_
        show wpAny _ _ (ret Value.none) _ _ _
        refine wpAny_pure ⟨rfl, h', tk, l, rfl, hw, hu, fun b o' e => ?_⟩
        have hb0 : b < s.heap.objs.size := Heap.lt_size e
        refine hk b o' (fun z => ?_) (Heap.get?_push_of_some _ (Heap.get?_push_of_some _ e))
        rcases List.mem_cons.mp z with z | z
        · exact Nat.ne_of_lt hb0 z
        · have z2 : b = (s.heap.push (emptyO w)).objs.size := List.mem_singleton.mp z
          rw [hsz1] at z2
          exact absurd hb0 (by rw [z2]; exact Nat.not_lt_of_le (Nat.le_succ _))
      · cases r₂ with
        | error e => exact hr₂
        | ok fl₂ =>
          cases fl₂ with
          | ret r =>
            obtain ⟨rfl, h', tk, l, rfl, hS', hc', hk'⟩ := hr₂
            repeat (any_goals (first | assumption | wp_step))
            exact h _ _ _ hS' hc' hk'
          | _ => exact hr₂.elim
    | _ => exact hr.elim
end
end PySem.Froz

/-! Mq36: sorted(set) of texts. -/
namespace PySem.Froz
open PySem PySem.Spec PyProof.Rows L2
theorem nd_perm {α : Type} : ∀ (l m : List α), l.Nodup → (∀ x ∈ l, x ∈ m) → m.length ≤ l.length → m.Perm l
  | [], m, _, _, h => by
    have e : m = [] := List.length_eq_zero_iff.mp (Nat.le_zero.mp h)
    rw [e]
  | x :: l, m, nd, sub, h => by
    obtain ⟨n1, n2⟩ := List.nodup_cons.mp nd
    obtain ⟨m1, m2, e⟩ := List.append_of_mem (sub x (List.mem_cons_self ..))
    subst e
    refine List.perm_middle.trans ((nd_perm l (m1 ++ m2) n2 (fun y hy => ?_) ?_).cons x)
    · have q := sub y (List.mem_cons_of_mem _ hy)
      rcases List.mem_append.mp q with q | q
      · exact List.mem_append_left _ q
      · rcases List.mem_cons.mp q with q | q
        · exact absurd hy (q ▸ n1)
        · exact List.mem_append_right _ q
    · simp only [List.length_append, List.length_cons] at h ⊢
      omega
section
variable {P : Program} {w : World} {A : Around} {E : Value → Shared → Prop} {s : Shared}
theorem texts_perm {D : SD} {l : List Str} (F : TxOk P w D l) (nd : l.Nodup) : (∀ v ∈ D.1.toList.map (·.2), ∃ x t, v = Value.str x t) ∧ ((D.1.toList.map (·.2)).map strOf).Perm l := by
  have hs : ∀ v ∈ D.1.toList.map (·.2), ∃ x t, v = Value.str x t := fun v hv => by
    obtain ⟨e, he, q⟩ := List.mem_map.mp hv
    obtain ⟨⟨k, hk, _⟩, _⟩ := F.el e he
    obtain ⟨t, ev⟩ := Value.isStrOf_shape (x := k) (v := e.2) hk
    exact ⟨k, t, by rw [← q]; exact ev⟩
  refine ⟨hs, nd_perm _ _ nd (fun k hk => ?_) ?_⟩
  · obtain ⟨e, he, q⟩ := (F.mem k).mp hk
    obtain ⟨t, ev⟩ := Value.isStrOf_shape (x := k) (v := e.2) q
    refine List.mem_map.mpr ⟨e.2, List.mem_map.mpr ⟨e, he, rfl⟩, ?_⟩
    rw [ev]
    rfl
  · rw [List.length_map, List.length_map, Array.length_toList, F.sz]
    exact Nat.le_refl _
theorem sorted_txt {a : Addr} {l : List Str} {Q : Value → Shared → Prop} (R : WkT P w s.heap a l) (hh : A.handled = none) (h64 : l.length < 64)
    (hQ : ∀ s' p (out : Array Value) (c : Nat) (ys : List Str), (∀ b o, s.heap.get? b = some o → s'.heap.get? b = some o) → s'.gens = s.gens → s'.os = s.os → s.heap.objs.size ≤ p →
      s'.heap.get? p = some (seqObj "list" out c) → StrsAre out.toList ys → ys.Perm l → sortedS ys = true → Q (.ref p) s') :
    wpAny (model P w) A (call (.builtin "sorted") [.ref a]) Q E s := by
  obtain ⟨⟨es, ep, t⟩, ho, F, nd, hb, hr, hl⟩ := R
  obtain ⟨hs, hp⟩ := texts_perm F nd
  have hf : t.fits es.size = true := F.fit
  have hn : es.size = l.length := F.sz
  refine Calls.call_function_entry kind_sorted plain_sorted entry_sorted (args_sorted1 _) ?_
  unfold Builtin.«sorted»
  refine wpAny_bind (m := checkCount "sorted" 1 1 _) (wpAny_pure ?_)
  refine wpAny_bind (collect_set (A := A.in1) hh ⟨_, ho, rfl, rfl⟩ hf (by rw [hn]; exact hb) hr hl fun s1 vs k1 hz g1 o1 pm => ?_)
  have hvl : vs.length = l.length := by rw [pm.length_eq, List.length_map, Array.length_toList]; exact hn
  have hS : StrsAre vs (vs.map strOf) := strsAre_map vs fun v hv => hs v (pm.mem_iff.mp hv)
  refine wpAny_bind (wpAny_newList ?_ (by rw [hvl, sizeLine_eq]; omega))
  have hoL : (s1.heap.push (seqObj "list" vs.toArray 0)).get? s1.heap.objs.size = some (seqObj "list" vs.toArray 0) := Heap.get?_push_size _ rfl
  refine wpAny_bind (wpAny_holding (wpAny_call_entry slot_list_sort ⟨_, hoL, rfl⟩ entry_list_sort
    (list_sort_treeK strKind_oneLt hoL hS.keysOf (fun v₁ v₂ rest e => keyKind_strs (by rw [← e]; exact hS)) (by rw [hvl]; exact h64) fun st' hp' hs' => ⟨_, rfl, ?_⟩) (args_list_sort _)))
  obtain ⟨ys, a1, a2, a3⟩ := sorted_out_str hS hp' hs'
  obtain ⟨c, hc⟩ := sortedHeap_at (vs := vs) (out := (arrOf st').map (·.2)) hoL
  refine wpAny_pure ⟨_, rfl, hQ _ s1.heap.objs.size _ c ys (fun b u e => ?_) g1 o1 hz hc a1 (a2.trans ((pm.map strOf).trans hp)) a3⟩
  have q := k1 b u e
  have hlt := Heap.lt_size q
  show (sortedHeap (s1.heap.push (seqObj "list" vs.toArray 0)) s1.heap.objs.size vs ((arrOf st').map (·.2))).get? b = some u
  rw [sortedHeap_old (Nat.ne_of_lt hlt) (by rw [size_push']; exact Nat.lt_succ_of_lt hlt)]
  exact Heap.get?_push_of_some _ q
end
end PySem.Froz

/-! Mq37: set(text), sorted(set) as rules. -/
namespace Mq
open PySem PySem.Spec PyProof.Rows L2 PySem.Froz
/-- the set of the texts l at a -/
def TxO (P : Program) (w : World) (a : Addr) (l : List Str) : HO := .ext fun h => WkT P w h a l
section
variable {X : Cx}
theorem txO_new {w : World} {P : Program} {H : Hp} {h : Heap} {a : Addr} {l : List Str} (R : WkT P w h a l) : ObjOk P w H h a (TxO P w a l) := by
  have ⟨D, ho, _⟩ := R
  exact ⟨R, ⟨_, ho⟩, fun h1 h2 p k => WkT.at p k⟩
theorem txO_get {pins : List (Addr × Obj)} {σ : L2.St} {H : Hp} {s : Shared} {a : Addr} {l : List Str} (I : Inv X pins σ H s) (ha : H a = some (TxO X.prog X.w a l)) : WkT X.prog X.w s.heap a l := (I.hok a _ ha).1
/-- set(text) -/
def rSetTx (X : Cx) : List V → Hp → VK → Prop := fun xs H Q => ∃ x : Str, xs = [V.str x] ∧ x.cps.size + 1 < scanBound ∧
  ∀ (p : Addr) (l : List Str), H p = none → l.Nodup → l.length ≤ x.cps.size → (∀ k, k ∈ l ↔ k ∈ signs x) → Q (.ref p) (upd H p (TxO X.prog X.w p l))
theorem cr_setTx (hc : X.calm = true) : CallR X (.type "set") (rSetTx X) := by
  intro pins s σ H xs us Q I r h
  obtain ⟨x, rfl, hsz, q⟩ := h
  obtain ⟨v, rfl, rv⟩ := r.one
  obtain ⟨t, rfl⟩ := rv
  refine call_set_txt (I.ok.hd hc) hsz fun h' tk l hw hu hk => ?_
  have e : (signs x).take x.cps.size = signs x := List.take_of_length_le (by unfold signs; rw [List.length_map, Array.length_toList] <;> exact Nat.le_refl _)
  have hn : l.Nodup := by
    obtain ⟨D, _, _, nd, _⟩ := hw
    exact nd
  exact ⟨.ref _, upd H s.heap.objs.size (TxO X.prog X.w s.heap.objs.size l), I.laid (t' := tk) hk (Nat.le_refl _) (txO_new hw), rfl, q _ l (I.hok.fresh (Nat.le_refl _)) hn hu.1 fun k => by rw [hu.2 k, e]⟩
/-- sorted(s), s a set of fewer than 64 texts -/
def rSortTx (X : Cx) : List V → Hp → VK → Prop := fun vs H Q => ∃ (a : Addr) (l : List Str), vs = [V.ref a] ∧ H a = some (TxO X.prog X.w a l) ∧ l.length < 64 ∧
  ∀ (ys : List Str) (p : Addr), ys.Perm l → sortedS ys = true → H p = none → Q (.ref p) (upd H p (.lst (ys.map V.str)))
theorem cr_sortTx (hc : X.calm = true) : CallR X (.builtin "sorted") (rSortTx X) := by
  intro pins s σ H vs us Q I r h
  obtain ⟨a, l, rfl, ha, h64, q⟩ := h
  have R := txO_get I ha
  rw [Vals.ref1 r]
  refine sorted_txt R (I.ok.hd hc) h64 fun s' p out c ys k g o hp hg hi hs hm => ?_
  have hlen : (ys.map V.str).length ≤ sizeLine := by rw [List.length_map, hs.length_eq]; exact small64 h64
  have hn : H p = none := I.hok.fresh hp
  have J : Inv X pins σ (upd H p (.lst (ys.map V.str))) { s with heap := s'.heap, gens := s'.gens, drawn := s'.drawn, toks := s'.toks } :=
    I.call (ch := []) (Un.laid k hp hn) (I.hok.laid k hp ⟨hlen, out.toList, c, vals_of_strs hi, hg⟩) (by rw [g]; exact I.bare) (fun _ z => nomatch z)
  have e : s' = { s with heap := s'.heap, gens := s'.gens, drawn := s'.drawn, toks := s'.toks } := by
    cases s'
    cases s
    cases o
    rfl
  rw [e]
  exact ⟨.ref p, _, J, rfl, q ys p hs hm hn⟩
theorem txO_setOf {P : Program} {w : World} {h : Heap} {a : Addr} {l : List Str} (R : WkT P w h a l) : h.SetOf (PySem.strKind P w) a (fun k => decide (k ∈ l)) l.length := by
  obtain ⟨D, ho, F, nd, hb, _, _⟩ := R
  exact ⟨_, D.1, D.2.1, D.2.2, ho, ⟨rfl, rfl, rfl⟩, rfl, F.el, fun k => by rw [decide_eq_true_eq]; exact F.mem k, by rw [show D.1.size = l.length from F.sz]; exact hb, F.fit, F.sz⟩
/-- text in s, text not in s -/
def rTxIn (X : Cx) (neg : Bool) : V → V → Hp → VK → Prop := fun x y H Q => ∃ k a l, x = V.str k ∧ y = V.ref a ∧ H a = some (TxO X.prog X.w a l) ∧ Q (.bl (if neg then !decide (k ∈ l) else decide (k ∈ l))) H
theorem or_txIn : OpR X (compareOp .In) (rTxIn X false) := by
  intro pins s σ H x y v u Q I rx ry h
  obtain ⟨k, a, l, rfl, rfl, ha, q⟩ := h
  obtain ⟨tk, rfl⟩ := rx
  cases ry
  exact wpAny_inSet_of (strKind_is _ _ _ _) rfl (txO_setOf (txO_get I ha)) ⟨.bl _, H, I.tok _, rfl, q⟩
theorem or_txNotIn : OpR X (compareOp .NotIn) (rTxIn X true) := by
  intro pins s σ H x y v u Q I rx ry h
  obtain ⟨k, a, l, rfl, rfl, ha, q⟩ := h
  obtain ⟨tk, rfl⟩ := rx
  cases ry
  exact wpAny_notInSet_of (strKind_is _ _ _ _) rfl (txO_setOf (txO_get I ha)) ⟨.bl _, H, I.tok _, rfl, q⟩
end
end Mq

namespace Mq
open PySem PySem.Spec PyProof.Rows L2
/-! ### list(text) -/
def rListTx : List V → Hp → VK → Prop := fun xs H Q => ∃ x : Str, xs = [.str x] ∧ x.cps.size ≤ sizeLine ∧ ∀ p, H p = none → p ≠ sysModules → Q (.ref p) (upd H p (.lst (x.cps.toList.map fun c => V.str ⟨#[c]⟩)))
theorem call_listTx {X : Cx} (hc : X.calm = true) : CallR X (.type "list") rListTx := by
  intro pins s σ H xs us Q I r h
  obtain ⟨x, rfl, hx, q⟩ := h
  obtain ⟨v, rfl, rv⟩ := r.one
  obtain ⟨t, rfl⟩ := rv
  refine call_list_str (I.ok.hd hc) x t (fun h' tk acc' c' hk hD ha => ?_) hx
  refine ⟨.ref s.heap.objs.size, upd H s.heap.objs.size (.lst (x.cps.toList.map fun c => V.str ⟨#[c]⟩)), I.laid (t' := tk) hk (Nat.le_refl _) ⟨?_, acc'.toList, c', ?_, ?_⟩, rfl, q _ (I.hok.fresh (Nat.le_refl _)) (Nat.ne_of_gt (Inv.low I))⟩
  · rw [List.length_map, Array.length_toList]
    exact hx
  · have el : acc'.toList.length = acc'.size := by simp
    refine vals_of_at (by rw [List.length_map, el, ha.1, Array.length_toList]) fun j y w h1 h2 => ?_
    obtain ⟨c, u, hcx, rfl⟩ := ha.2 j w (by rw [← Array.getElem?_toList]; exact h2)
    rw [List.getElem?_map, Array.getElem?_toList, hcx] at h1
    cases h1
    exact ⟨u, rfl⟩
  · rw [Array.toArray_toList]
    exact hD
/-! ### t[::-1] -/
section
variable {prog : Program} {w : World} {A : Around} {E : Value → Shared → Prop} {s : Shared}
theorem adjust_rev (n : Nat) : Builtin.Slice.sliceAdjust none none (-1) (n : Int) = ((n : Int) - 1, -1) := by
  unfold Builtin.Slice.sliceAdjust
  rfl
theorem places_rev (n : Nat) : Builtin.Slice.slicePlaces ((n : Int) - 1) (-1) (-1) = n := by
  unfold Builtin.Slice.slicePlaces
  have h1 : ¬ ((-1 : Int) > 0) := by omega
  simp only [h1, if_false]
  split
  · show (((n : Int) - 1 - -1 - 1) / 1 + 1).toNat = n
    rw [Int.ediv_one]
    omega
  · show (0 : Int).toNat = n
    omega
theorem fm_congr {α β : Type} {f g : α → Option β} : ∀ {l : List α}, (∀ k ∈ l, f k = g k) → l.filterMap f = l.filterMap g
  | [], _ => rfl
  | k :: l, h => by
    rw [List.filterMap_cons, List.filterMap_cons, h k List.mem_cons_self, fm_congr fun x hx => h x (List.mem_cons_of_mem _ hx)]
theorem pick_rev (xs : Array Value) : ((List.range xs.size).filterMap fun (k : Nat) => xs[(((xs.size : Int) - 1) + (k : Int) * (-1)).toNat]?) = xs.toList.reverse := by
  have e : ∀ k ∈ List.range xs.size, xs[(((xs.size : Int) - 1) + (k : Int) * (-1)).toNat]? = (fun k => xs[xs.size - 1 - k]?) k := by
    intro k hk
    have h1 := List.mem_range.mp hk
    have : (((xs.size : Int) - 1) + (k : Int) * (-1)).toNat = xs.size - 1 - k := by omega
    rw [this]
  rw [fm_congr e]
  have h2 : (List.range xs.size).filterMap (fun k => xs[xs.size - 1 - k]?) = ((List.range xs.size).map fun k => xs.size - 1 - k).filterMap (xs[·]?) := by
    rw [List.filterMap_map]
    rfl
  rw [h2, PySem.W.krv_range, List.filterMap_reverse, PySem.W.krv_all]
theorem sliceApplied_rev {sl : Addr} {vl vu vs : Value} {n : Nat} {Q : Int × Int × Nat → Shared → Prop} (hs : s.heap.IsSliceOf sl vl vu vs) (pl : IsPart vl none) (pu : IsPart vu none) (ps : IsPart vs (some (-1)))
    (h : Q ((n : Int) - 1, -1, n) s) : wpAny (model prog w) A (Builtin.Slice.sliceApplied (.ref sl) (pure (n : Int))) Q E s := by
  obtain ⟨os, hos, hcs, hds⟩ := id hs
  unfold Builtin.Slice.sliceApplied Builtin.Slice.sliceFields
  refine wpAny_bind (wpAny_bind (wpAny_field hos hds (x := vl) rfl (wpAny_bind (wpAny_field hos hds (x := vu) rfl (wpAny_bind (wpAny_field hos hds (x := vs) rfl (wpAny_pure ?_)))))))
  refine wpAny_bind (HT.slicePart_ ps ?_)
  show wpAny _ _ (if ((-1 : Int) == 0) = true then _ else _) _ _ s
  rw [if_neg (by decide)]
  refine wpAny_bind (HT.slicePart_ pl (wpAny_bind (HT.slicePart_ pu (wpAny_bind (wpAny_pure ?_)))))
  show wpAny _ _ (match Builtin.Slice.sliceAdjust none none (-1) (n : Int) with | (lo, hi) => pure (lo, (-1 : Int), Builtin.Slice.slicePlaces lo hi (-1))) _ _ s
  rw [adjust_rev n]
  show wpAny _ _ (pure (((n : Int) - 1), (-1 : Int), Builtin.Slice.slicePlaces ((n : Int) - 1) (-1) (-1))) _ _ s
  rw [places_rev]
  exact wpAny_pure h
theorem getItem_tuple_rev {t sl : Addr} {items : Array Value} {vl vu vs : Value} {Q : Value → Shared → Prop} (ht : IsTup s.heap t items) (hs : s.heap.IsSliceOf sl vl vu vs) (pl : IsPart vl none) (pu : IsPart vu none) (ps : IsPart vs (some (-1)))
    (h : Q (.ref s.heap.objs.size) { s with heap := s.heap.push { cls := .type "tuple", data := .seq items.toList.reverse.toArray } })
    (hsz : items.size ≤ sizeLine) : wpAny (model prog w) A (getItem (.ref t) (.ref sl)) Q E s := by
  have htake : sizeOk (.seq items.toList.reverse.toArray) := by
    show items.toList.reverse.toArray.size ≤ sizeLine
    rw [List.size_toArray, List.length_reverse, Array.length_toList]
    exact hsz
  obtain ⟨os, hos, hcs, hds⟩ := id hs
  have hTs : s.TypeIs (.ref sl) "slice" := ⟨os, hos, hcs⟩
  unfold getItem
  try with_reducible refine wpAny_holding ?_
  first | refine wpAny_bind (wpAny_pure ?_) | skip
  refine wpAny_bind (wpAny_sequenceKey ht.typeIs (by decide) ?_)
  refine wpAny_bind (wpAny_callSpecial?_slot (name := Str.ofString "__getitem__") ht.typeIs PyProof.Rows.slot_tuple_getitem
    (wpAny_call_entry PyProof.Rows.slot_tuple_getitem ht.typeIs PyProof.Rows.entry_tuple_getitem ?_ (PyProof.Rows.args_tuple_getitem _ _)))
  show wpAny _ _ (Builtin.Tuple.tupleItemsOf (.ref t) >>= _) _ _ s
  refine wpAny_bind (tupleItemsOf_ ht ?_)
  refine wpAny_bind (wpAny_typeOf hTs ?_)
  rw [if_pos (by decide)]
  refine wpAny_bind (sliceApplied_rev hs pl pu ps ?_)
  have hno : ¬ ((((items.size : Int) - 1) == 0 && (-1 : Int) == 1 && items.size == items.size) = true) := by
    rw [show ((-1 : Int) == 1) = false by decide, Bool.and_false, Bool.false_and]
    exact Bool.false_ne_true
  show wpAny _ _ (if ((((items.size : Int) - 1) == 0 && (-1 : Int) == 1 && items.size == items.size)) = true then _ else _) _ _ s
  rw [if_neg hno, pick_rev]
  first
    | exact wpAny_bind (m := Builtin.Tuple.tupleExact _) (wpAny_newObj_type (wpAny_pure ⟨_, rfl, wpAny_pure h⟩) htake)
    | exact wpAny_bind (m := Builtin.Tuple.tupleExact _) (wpAny_newObj_type (wpAny_bind (wpAny_pure (wpAny_pure ⟨_, rfl, wpAny_pure h⟩))) htake)
    | exact wpAny_bind (wpAny_bind (m := Builtin.Tuple.tupleExact _) (wpAny_newObj_type (wpAny_pure (wpAny_pure ⟨_, rfl, wpAny_pure h⟩)) htake))
    | exact wpAny_bind (wpAny_bind (m := Builtin.Tuple.tupleExact _) (wpAny_newObj_type (wpAny_pure ⟨_, rfl, wpAny_pure h⟩) htake))
end
def tRevT (K : PySem.W.Frag) (te : TE) : TE := fun σ H Q => te σ H fun x H1 => ∃ a xs, x = .ref a ∧ SqT K H1 a xs ∧ ∀ p, H1 p = none → Q (.ref p) (upd H1 p (.tup xs.reverse))
theorem pe_revT {X : Cx} {e : Expr} {te : TE} {k : Nat} {p1 p2 p3 pos : Pos} (he : PE X e te) : PE X (.Subscript e (.Slice none none (some (.UnaryOp .USub (.Constant (.int 1) k p1) p2)) p3) pos) (tRevT X.K te) := by
  refine ⟨fun pins s σ H Q I h => ?_⟩
  refine Subscript_ (thn (he.run pins s σ H _ I h) fun v s1 ⟨x, H1, I1, r1, q1⟩ => ?_)
  obtain ⟨a, xs, ex, hx, q⟩ := q1
  subst ex
  cases r1
  have hst : PO X (some (.UnaryOp .USub (.Constant (.int 1) k p1) p2)) (tPart (tUn (rU fun i => .int (-i)) (tC (.int 1)))) := po_some (pe_un un_neg pe_int)
  refine wpAny_Slice (thn (po_none.run pins s1 σ H1 (fun o H2 => o = none ∧ H2 = H1) I1 ⟨rfl, rfl⟩) fun vl s2 ⟨l, H2, I2, pl, el, e2⟩ => ?_)
  subst el e2
  refine thn (po_none.run pins s2 σ H2 (fun o H3 => o = none ∧ H3 = H2) I2 ⟨rfl, rfl⟩) fun vu s3 ⟨u, H3, I3, pu, eu, e3⟩ => ?_
  subst eu e3
  refine thn (hst.run pins s3 σ H3 (fun o H4 => o = some (-1) ∧ H4 = H3) I3 ⟨1, rfl, -1, rfl, rfl, rfl⟩) fun vs s4 ⟨o, H4, I4, ps, eo, e4⟩ => ?_
  subst eo e4
  have I5 : Inv X pins σ H4 { s4 with heap := s4.heap.push { cls := .type "slice", data := .fields #[vl, vu, vs] } } := I4.kept (t' := s4.toks) fun b ob q => Heap.get?_push_of_some _ q
  obtain ⟨its, r, ht, hz⟩ := I5.tuple hx
  have hlen := r.length
  show wpAny (model X.prog X.w) X.A (subscriptTail e (.Slice none none (some (.UnaryOp .USub (.Constant (.int 1) k p1) p2)) p3) (.ref a) (.ref s4.heap.objs.size)) (EP X pins σ Q) X.xe { s4 with heap := s4.heap.push { cls := .type "slice", data := .fields #[vl, vu, vs] } }
  refine tail_any (ops := [.ref a, .ref s4.heap.objs.size]) ht.typeIs (PyProof.Rows.slot_tuple_getitem.lookup) ?_ (by with_unfolding_all rfl)
  refine getItem_tuple_rev ht (Heap.IsSliceOf.new _ vl vu vs) pl pu ps ?_ (by rw [List.size_toArray]; omega)
  refine ⟨.ref _, _, I5.laid (t' := s4.toks) (o := .tup xs.reverse) (fun b ob q => Heap.get?_push_of_some _ q) (Nat.le_refl _) ?_, rfl, q _ (I5.hok.fresh (Nat.le_refl _))⟩
  exact ⟨by rw [List.length_reverse]; exact hz, its.reverse, r.reverse, IsTup.new _ _⟩
end Mq

namespace Mq
open PySem PySem.Spec PyProof.Rows L2
open SX (S)
/-! ### tuples cut and joined: what stands in the end -/
def NewT (K : PySem.W.Frag) (xs : List V) (H : Hp) (Q : VK) : Prop := ∀ p H', Same H H' → SqT K H' p xs → Q (.ref p) H'
theorem NewT.put {K : PySem.W.Frag} {xs : List V} {H : Hp} {Q : VK} (q : NewT K xs H Q) {p : Addr} (hp : H p = none) : Q (.ref p) (upd H p (.tup xs)) := q p _ (same_new hp) (Or.inl (Or.inl upd_same))
def rSlN (K : PySem.W.Frag) : V → Option Int → Option Int → Hp → VK → Prop := fun x lo hi H Q => ∃ a xs, x = .ref a ∧ SqT K H a xs ∧ NewT K (cutV xs lo hi) H Q
section
variable {X : Cx}
theorem sl_tupN : SlR X (rSlN X.K) := by
  intro pins s σ H x v vl vu lo hi sl Q I rx hs pl pu h
  obtain ⟨a, xs, ex, hx, q⟩ := h
  refine sl_tupA pins s σ H x v vl vu lo hi sl Q I rx hs pl pu ⟨a, xs, ex, hx, fun h => q a H (Same.refl H) ?_, fun _ p hp => q.put hp⟩
  have : cutV xs lo hi = xs := by
    unfold cutV
    rw [h.1, h.2, Nat.sub_zero, List.drop_zero, List.take_length]
  rw [this]
  exact hx
def rCatN (K : PySem.W.Frag) : R2 := fun x y H Q => ∃ a b xs ys, x = .ref a ∧ y = .ref b ∧ SqT K H a xs ∧ SqT K H b ys ∧ xs.length + ys.length ≤ sizeLine ∧ NewT K (xs ++ ys) H Q
theorem op_catN : OpR X (binaryOp .Add) (rCatN X.K) := by
  intro pins s σ H x y v u Q I rx ry h
  obtain ⟨a, b, xs, ys, ex, ey, hx, hy, hz, q⟩ := h
  refine op_catA pins s σ H x y v u Q I rx ry ⟨a, b, xs, ys, ex, ey, hx, hy, hz, fun e => q b H (Same.refl H) ?_, fun _ e => q a H (Same.refl H) ?_, fun _ _ p hp => q.put hp⟩
  · subst e
    exact hy
  · subst e
    rw [List.append_nil]
    exact hx
/-! ### twice a text -/
theorem op_2S : OpR X (binaryOp .Mult) (fun x y H Q => ∃ z : List Nat, x = .int 2 ∧ y = .str (S z) ∧ z.length ≤ 1000 ∧ Q (.str (S (z ++ z))) H) := by
  intro pins s σ H x y v u Q I rx ry h
  obtain ⟨z, rfl, rfl, hz, q⟩ := h
  obtain ⟨t, rfl⟩ := rx
  obtain ⟨t', rfl⟩ := ry
  have hl : (S z).length = z.length := SX.S_len z
  refine lm_binaryOp_repeat_right (T := "str") (U := "int") (by decide) (fun s' => typeIs_int s' 2 t) (typeIs_str s (S z) t') F.fills_int_mul noFill_str_mul F.slot_int_mul lm_noRepeat_int repeat_str F.slot_int_index.lookup
    (call_gives F.slot_int_mul (typeIs_int s 2 t) F.entry_int_mul (F.args_int_mul_2 _ _) (AutoIntG3.int___mul___int_str_0 2 t (S z) t')
      ⟨rfl, typeIs_str _ _ _, call_gives F.slot_str_mul (typeIs_str _ (S z) t') F.entry_str_mul (F.args_str_mul_2 _ _) (gives_str_mul (S z) 2 t' t (by decide) (fun _ _ => ?_) (fun _ _ => ?_)) ?_⟩)
  · rw [hl]
    have : (1000 : Int) ≤ (2 ^ 63 - 1) / 2 := by decide
    omega
  · rw [hl]
    unfold Builtin.Str.tooLong
    exact decide_eq_false (by
      have : (1000 * 2 : Nat) ≤ sizeLine := by decide
      show ¬ (z.length * 2 > sizeLine)
      omega)
  · rw [if_neg (by decide)]
    cases z with
    | nil => exact ⟨.str (S []), H, I, ⟨_, rfl⟩, q⟩
    | cons c z =>
      rw [show (((2 : Int) == 1) || ((S (c :: z)).length == 0)) = false by rw [hl]; rfl, if_neg Bool.false_ne_true]
      have e : (⟨(List.replicate (2 : Int).toNat (S (c :: z)).cps).foldl (· ++ ·) #[]⟩ : Str) = S ((c :: z) ++ (c :: z)) := by
        show (⟨(#[] ++ (c :: z).toArray) ++ (c :: z).toArray⟩ : Str) = ⟨((c :: z) ++ (c :: z)).toArray⟩
        simp
      rw [e]
      refine ⟨?_, .str (S ((c :: z) ++ (c :: z))), H, I.tok _, ⟨_, rfl⟩, q⟩
      show (S ((c :: z) ++ (c :: z))).length ≤ sizeLine
      rw [SX.S_len, List.length_append]
      have : (2000 : Nat) ≤ sizeLine := by decide
      omega
end
end Mq

namespace Mq
open PySem PySem.Spec PyProof.Rows L2
/-! ### sorted(xs), xs a list of tuples of three texts -/
def txt3 (x : Str × Str × Str) : List (Int ⊕ List Nat) := [.inr x.1.cps.toList, .inr x.2.1.cps.toList, .inr x.2.2.cps.toList]
def ltS3 (x y : Str × Str × Str) : Bool := (PyProof.Rows.listOrd PyProof.Rows.itemOrd).blt (txt3 x) (txt3 y)
def Is3 (H : Hp) (f : Addr → Str × Str × Str) (b : Addr) : Prop := H b = some (.tup [.str (f b).1, .str (f b).2.1, .str (f b).2.2])
def rSorted3 (K : PySem.W.Frag) : List V → Hp → VK → Prop := fun xs H Q => ∃ (a : Addr) (as : List Addr) (f : Addr → Str × Str × Str), xs = [.ref a] ∧ SqL K H a (as.map V.ref) ∧ (∀ b ∈ as, Is3 H f b) ∧
  ∀ (qs : List Addr) (p : Addr), qs.Perm as → (∀ i j, i ≤ j → j < qs.length → ltS3 (f (qs.getD j 0)) (f (qs.getD i 0)) = false) → H p = none → Q (.ref p) (upd H p (.lst (qs.map V.ref)))
theorem vals_refs : ∀ {as : List Addr} {us : List Value}, Vals (as.map V.ref) us → us = as.map Value.ref
  | [], _, .nil => rfl
  | b :: as, _, @Paired.cons _ _ _ _ y _ _ r rr => by
    have e : y = Value.ref b := r
    rw [e, vals_refs rr]
    rfl
section
variable {X : Cx}
theorem call_sorted3 : CallR X (.builtin "sorted") (rSorted3 X.K) := by
  intro pins s σ H xs us Q I r q
  obtain ⟨a, as, f, rfl, ha, h3, q⟩ := q
  obtain ⟨u, rfl, rx⟩ := vals1 r
  cases rx
  obtain ⟨its, rv, hl, hz⟩ := I.list ha
  have ei : its = as.map Value.ref := vals_refs rv
  subst ei
  have obj : ∀ b ∈ as, ∃ (ob : Obj) (n : Nat) (t1 t2 t3 : Tok), s.heap.get? b = some ob ∧ ob.cls = .type "tuple" ∧ ob.data = .seq #[.str (f b).1 t1, .str (f b).2.1 t2, .str (f b).2.2 t3] n := by
    intro b hb
    obtain ⟨_, its, r2, ob, h1, h2, n, h4⟩ := (show ObjOk X.prog X.w H s.heap b (.tup [.str (f b).1, .str (f b).2.1, .str (f b).2.2]) from I.hok b _ (h3 b hb))
    cases r2 with
    | cons a1 r2 =>
      cases r2 with
      | cons a2 r2 =>
        cases r2 with
        | cons a3 r2 =>
          cases r2
          obtain ⟨t1, rfl⟩ := a1
          obtain ⟨t2, rfl⟩ := a2
          obtain ⟨t3, rfl⟩ := a3
          exact ⟨ob, n, t1, t2, t3, h1, h2, h4⟩
  have tups : ∀ l : List Addr, (∀ b ∈ l, b ∈ as) → ∃ fs, PyProof.Rows.TupsOf s.heap (fun _ => true) (l.map Value.ref) fs := by
    intro l
    induction l with
    | nil => intro _; exact ⟨[], .nil⟩
    | cons b l ih =>
      intro hl
      obtain ⟨fs, hf⟩ := ih fun x hx => hl x (List.mem_cons_of_mem _ hx)
      obtain ⟨ob, n, t1, t2, t3, h1, h2, h4⟩ := obj b (hl b List.mem_cons_self)
      exact ⟨_, .cons ⟨b, ob, _, n, rfl, h1, h2, h4, rfl, fun z => (by cases z), fun _ => ⟨_, _, rfl⟩⟩ hf⟩
  obtain ⟨fs, hfs⟩ := tups as fun _ h => h
  have keyC : ∀ b ∈ as, PyProof.Rows.G.tupKeyC s.heap (fun _ => true) (.ref b) = some (txt3 (f b)) := by
    intro b hb
    obtain ⟨ob, n, t1, t2, t3, h1, h2, h4⟩ := obj b hb
    have hT : PyProof.Rows.G.isTupObj s.heap (.ref b) = true := by
      simp [PyProof.Rows.G.isTupObj, h1, h2]
    unfold PyProof.Rows.G.tupKeyC
    rw [if_pos hT]
    simp only [PyProof.Rows.tupKey, h1, h4]
    rfl
  refine PyProof.Rows.G.sorted_tups (vs := as.map Value.ref) hl.isList hfs (fun v hv => ?_) (by rw [List.length_map] at hz ⊢; exact hz) fun st' hp hs _ => ?_
  · obtain ⟨b, hb, rfl⟩ := List.mem_map.mp hv
    exact ⟨_, keyC b hb⟩
  obtain ⟨e', he'⟩ := PyProof.Rows.sortedAll_at s.heap (as.map Value.ref) ((arrOf st').map (·.2))
  have mem : ∀ p ∈ (arrOf st').toList, p.1 = p.2 ∧ p.1 ∈ as.map Value.ref := fun p hp' => by
    have h1 := (hp.toList.mem_iff (a := p)).mp hp'
    rw [PyProof.Rows.pairsOf_toList] at h1
    exact PyProof.Rows.mem_zip_self h1
  obtain ⟨qs, hq1, hq2⟩ : ∃ qs : List Addr, (arrOf st').toList.map (·.2) = qs.map Value.ref ∧ qs.Perm as := by
    have h1 : ((arrOf st').toList.map (·.2)).Perm (as.map Value.ref) := by
      have h2 := hp.toList.map (fun p : Keyed => p.2)
      rw [PyProof.Rows.pairsOf_toList] at h2
      rw [List.map_snd_zip (Nat.le_refl _)] at h2
      exact h2
    exact perm_back h1
  have hql : qs.length = as.length := hq2.length_eq
  have harr : (arrOf st').toList.length = qs.length := by
    have h1 := congrArg List.length hq1
    rw [List.length_map, List.length_map] at h1
    exact h1
  have hkk : ∀ i, i < qs.length → PyProof.Rows.KK (PyProof.Rows.G.tupKindC s.heap fun _ => true) (arrOf st') i = txt3 (f (qs.getD i 0)) := by
    intro i hi
    have hi' : i < (arrOf st').toList.length := by omega
    have e1 : (arrOf st')[i]? = some (arrOf st').toList[i] := by
      rw [← Array.getElem?_toList, List.getElem?_eq_getElem hi']
    obtain ⟨m1, m2⟩ := mem _ (List.getElem_mem hi')
    have e2 : (arrOf st').toList[i].2 = .ref (qs.getD i 0) := by
      have h1 := congrArg (fun l => l[i]?) hq1
      simp only [List.getElem?_map, List.getElem?_eq_getElem hi', List.getElem?_eq_getElem hi, Option.map_some, Option.some.injEq] at h1
      rw [h1, List.getD_eq_getElem?_getD, List.getElem?_eq_getElem hi]
      rfl
    have hin : qs.getD i 0 ∈ as := hq2.mem_iff.mp (by rw [List.getD_eq_getElem?_getD, List.getElem?_eq_getElem hi]; exact List.getElem_mem hi)
    unfold PyProof.Rows.KK
    rw [e1]
    show (PyProof.Rows.G.tupKeyC _ _ (arrOf st').toList[i].1).getD _ = _
    rw [m1, e2, keyC _ hin]
    rfl
  have srt : ∀ i j, i ≤ j → j < qs.length → ltS3 (f (qs.getD j 0)) (f (qs.getD i 0)) = false := by
    intro i j hij hj
    have h1 := hs i j hij (by rw [PyProof.Rows.pairsOf_size, List.length_map]; omega)
    rw [hkk i (by omega), hkk j hj] at h1
    exact h1
  have vals : ∀ l : List Addr, Vals (l.map V.ref) (l.map Value.ref) := fun l => by
    induction l with
    | nil => exact .nil
    | cons b l ih => exact .cons rfl ih
  have hout : ((arrOf st').map (·.2)).toList = qs.map Value.ref := by
    rw [Array.toList_map]
    exact hq1
  have hz2 : (qs.map V.ref).length ≤ sizeLine := by
    rw [List.length_map, hql]
    rw [List.length_map] at hz
    exact hz
  have fresh := I.hok.fresh (Nat.le_succ s.heap.objs.size)
  refine ⟨.ref (s.heap.objs.size + 1), upd H (s.heap.objs.size + 1) (.lst (qs.map V.ref)), ?_, rfl, q qs _ hq2 srt fresh⟩
  refine I.laid (t' := s.toks) (fun b u e => PyProof.Rows.sortedAll_old e) (Nat.le_succ _) ⟨hz2, qs.map Value.ref, e', vals qs, ?_⟩
  rw [← hout, Array.toArray_toList]
  exact he'
end
end Mq

namespace Mq
open PySem PySem.Spec PyProof.Rows L2
/-! ### sorted(xs), xs a list of pairs of texts -/
def Is2 (H : Hp) (b : Addr) : Prop := H b = some (.tup [.str (prOf H b).1, .str (prOf H b).2])
def rSorted2 (K : PySem.W.Frag) : List V → Hp → VK → Prop := fun xs H Q => ∃ (a : Addr) (as : List Addr), xs = [.ref a] ∧ SqL K H a (as.map V.ref) ∧ (∀ b ∈ as, Is2 H b) ∧
  ∀ (qs : List Addr) (p : Addr), qs.Perm as → (∀ i j, i ≤ j → j < qs.length → ltSS (prOf H (qs.getD j 0)) (prOf H (qs.getD i 0)) = false) → H p = none → Q (.ref p) (upd H p (.lst (qs.map V.ref)))
section
variable {X : Cx}
theorem call_sorted2 : CallR X (.builtin "sorted") (rSorted2 X.K) := by
  intro pins s σ H xs us Q I r q
  obtain ⟨a, as, rfl, ha, h3, q⟩ := q
  obtain ⟨u, rfl, rx⟩ := vals1 r
  cases rx
  obtain ⟨its, rv, hl, hz⟩ := I.list ha
  have ei : its = as.map Value.ref := vals_refs rv
  subst ei
  have obj : ∀ b ∈ as, ∃ (ob : Obj) (n : Nat) (t1 t2 : Tok), s.heap.get? b = some ob ∧ ob.cls = .type "tuple" ∧ ob.data = .seq #[.str (prOf H b).1 t1, .str (prOf H b).2 t2] n := by
    intro b hb
    obtain ⟨_, its, r2, ob, h1, h2, n, h4⟩ := (show ObjOk X.prog X.w H s.heap b (.tup [.str (prOf H b).1, .str (prOf H b).2]) from I.hok b _ (h3 b hb))
    cases r2 with
    | cons a1 r2 =>
      cases r2 with
      | cons a2 r2 =>
        cases r2
        obtain ⟨t1, rfl⟩ := a1
        obtain ⟨t2, rfl⟩ := a2
        exact ⟨ob, n, t1, t2, h1, h2, h4⟩
  have tups : ∀ l : List Addr, (∀ b ∈ l, b ∈ as) → ∃ fs, PyProof.Rows.TupsOf s.heap (fun _ => true) (l.map Value.ref) fs := by
    intro l
    induction l with
    | nil => intro _; exact ⟨[], .nil⟩
    | cons b l ih =>
      intro hl
      obtain ⟨fs, hf⟩ := ih fun x hx => hl x (List.mem_cons_of_mem _ hx)
      obtain ⟨ob, n, t1, t2, h1, h2, h4⟩ := obj b (hl b List.mem_cons_self)
      exact ⟨_, .cons ⟨b, ob, _, n, rfl, h1, h2, h4, rfl, fun z => (by cases z), fun _ => ⟨_, _, rfl⟩⟩ hf⟩
  obtain ⟨fs, hfs⟩ := tups as fun _ h => h
  have keyC : ∀ b ∈ as, PyProof.Rows.G.tupKeyC s.heap (fun _ => true) (.ref b) = some (txt2 (prOf H b)) := by
    intro b hb
    obtain ⟨ob, n, t1, t2, h1, h2, h4⟩ := obj b hb
    have hT : PyProof.Rows.G.isTupObj s.heap (.ref b) = true := by
      simp [PyProof.Rows.G.isTupObj, h1, h2]
    unfold PyProof.Rows.G.tupKeyC
    rw [if_pos hT]
    simp only [PyProof.Rows.tupKey, h1, h4]
    rfl
  refine PyProof.Rows.G.sorted_tups (vs := as.map Value.ref) hl.isList hfs (fun v hv => ?_) (by rw [List.length_map] at hz ⊢; exact hz) fun st' hp hs _ => ?_
  · obtain ⟨b, hb, rfl⟩ := List.mem_map.mp hv
    exact ⟨_, keyC b hb⟩
  obtain ⟨e', he'⟩ := PyProof.Rows.sortedAll_at s.heap (as.map Value.ref) ((arrOf st').map (·.2))
  have mem : ∀ p ∈ (arrOf st').toList, p.1 = p.2 ∧ p.1 ∈ as.map Value.ref := fun p hp' => by
    have h1 := (hp.toList.mem_iff (a := p)).mp hp'
    rw [PyProof.Rows.pairsOf_toList] at h1
    exact PyProof.Rows.mem_zip_self h1
  obtain ⟨qs, hq1, hq2⟩ : ∃ qs : List Addr, (arrOf st').toList.map (·.2) = qs.map Value.ref ∧ qs.Perm as := by
    have h1 : ((arrOf st').toList.map (·.2)).Perm (as.map Value.ref) := by
      have h2 := hp.toList.map (fun p : Keyed => p.2)
      rw [PyProof.Rows.pairsOf_toList] at h2
      rw [List.map_snd_zip (Nat.le_refl _)] at h2
      exact h2
    exact perm_back h1
  have hql : qs.length = as.length := hq2.length_eq
  have harr : (arrOf st').toList.length = qs.length := by
    have h1 := congrArg List.length hq1
    rw [List.length_map, List.length_map] at h1
    exact h1
  have hkk : ∀ i, i < qs.length → PyProof.Rows.KK (PyProof.Rows.G.tupKindC s.heap fun _ => true) (arrOf st') i = txt2 (prOf H (qs.getD i 0)) := by
    intro i hi
    have hi' : i < (arrOf st').toList.length := by omega
    have e1 : (arrOf st')[i]? = some (arrOf st').toList[i] := by
      rw [← Array.getElem?_toList, List.getElem?_eq_getElem hi']
    obtain ⟨m1, m2⟩ := mem _ (List.getElem_mem hi')
    have e2 : (arrOf st').toList[i].2 = .ref (qs.getD i 0) := by
      have h1 := congrArg (fun l => l[i]?) hq1
      simp only [List.getElem?_map, List.getElem?_eq_getElem hi', List.getElem?_eq_getElem hi, Option.map_some, Option.some.injEq] at h1
      rw [h1, List.getD_eq_getElem?_getD, List.getElem?_eq_getElem hi]
      rfl
    have hin : qs.getD i 0 ∈ as := hq2.mem_iff.mp (by rw [List.getD_eq_getElem?_getD, List.getElem?_eq_getElem hi]; exact List.getElem_mem hi)
    unfold PyProof.Rows.KK
    rw [e1]
    show (PyProof.Rows.G.tupKeyC _ _ (arrOf st').toList[i].1).getD _ = _
    rw [m1, e2, keyC _ hin]
    rfl
  have srt : ∀ i j, i ≤ j → j < qs.length → ltSS (prOf H (qs.getD j 0)) (prOf H (qs.getD i 0)) = false := by
    intro i j hij hj
    have h1 := hs i j hij (by rw [PyProof.Rows.pairsOf_size, List.length_map]; omega)
    rw [hkk i (by omega), hkk j hj] at h1
    exact h1
  have vals : ∀ l : List Addr, Vals (l.map V.ref) (l.map Value.ref) := fun l => by
    induction l with
    | nil => exact .nil
    | cons b l ih => exact .cons rfl ih
  have hout : ((arrOf st').map (·.2)).toList = qs.map Value.ref := by
    rw [Array.toList_map]
    exact hq1
  have hz2 : (qs.map V.ref).length ≤ sizeLine := by
    rw [List.length_map, hql]
    rw [List.length_map] at hz
    exact hz
  have fresh := I.hok.fresh (Nat.le_succ s.heap.objs.size)
  refine ⟨.ref (s.heap.objs.size + 1), upd H (s.heap.objs.size + 1) (.lst (qs.map V.ref)), ?_, rfl, q qs _ hq2 srt fresh⟩
  refine I.laid (t' := s.toks) (fun b u e => PyProof.Rows.sortedAll_old e) (Nat.le_succ _) ⟨hz2, qs.map Value.ref, e', vals qs, ?_⟩
  rw [← hout, Array.toArray_toList]
  exact he'
end
/-- what stands in order is left as it is -/
theorem perm_asc {α : Type} {r : α → α → Bool} : ∀ {l m : List α}, l.Perm m → l.Pairwise (fun a b => r b a = false) → m.Pairwise (fun a b => r a b = true) → l = m
  | [], m, h, _, _ => h.nil_eq
  | a :: l, [], h, _, _ => h.eq_nil
  | a :: l, b :: m, h, hl, hm => by
    obtain ⟨h1, h2⟩ := List.pairwise_cons.mp hl
    obtain ⟨h3, h4⟩ := List.pairwise_cons.mp hm
    have e : a = b := by
      rcases List.mem_cons.mp (h.mem_iff.mp (List.mem_cons_self (a := a) (l := l))) with e | e
      · exact e
      · rcases List.mem_cons.mp (h.mem_iff.mpr (List.mem_cons_self (a := b) (l := m))) with e2 | e2
        · exact e2.symm
        · have h5 := h1 b e2
          rw [h3 a e] at h5
          cases h5
    subst e
    rw [perm_asc h.cons_inv h2 h4]
theorem lt_first {x y : Str × Str} (h : x.1.cps.toList < y.1.cps.toList) : ltSS x y = true := by
  show (decide (x.1.cps.toList < y.1.cps.toList) || (!decide (y.1.cps.toList < x.1.cps.toList) && (decide (x.2.cps.toList < y.2.cps.toList) || (!decide (y.2.cps.toList < x.2.cps.toList) && false)))) = true
  rw [decide_eq_true h]
  rfl
end Mq

namespace Mq
open PySem PySem.Spec PyProof.Rows L2
open SX (S)
/-! ### data of tuples, texts and numbers: where tuples stay, it stays -/
mutual
inductive Td (K : PySem.W.Frag) (H : Hp) : V → PyData → Prop
  | int (i : Int) : Td K H (.int i) (.int i)
  | str (x : Str) : Td K H (.str x) (.str x)
  | tup {a : Addr} {xs : List V} {ds : List PyData} : SqT K H a xs → TdAll K H xs ds → Td K H (.ref a) (.tuple ds)
inductive TdAll (K : PySem.W.Frag) (H : Hp) : List V → List PyData → Prop
  | nil : TdAll K H [] []
  | cons {v : V} {vs : List V} {d : PyData} {ds : List PyData} : Td K H v d → TdAll K H vs ds → TdAll K H (v :: vs) (d :: ds)
end
section
variable {K : PySem.W.Frag} {H H' : Hp}
mutual
theorem Td.kp (e : ∀ a xs, SqT K H a xs → SqT K H' a xs) : ∀ {v : V} {d : PyData}, Td K H v d → Td K H' v d
  | _, _, .int i => .int i
  | _, _, .str x => .str x
  | _, _, .tup h a => .tup (e _ _ h) (TdAll.kp e a)
theorem TdAll.kp (e : ∀ a xs, SqT K H a xs → SqT K H' a xs) : ∀ {v : List V} {d : List PyData}, TdAll K H v d → TdAll K H' v d
  | _, _, .nil => .nil
  | _, _, .cons a b => .cons (Td.kp e a) (TdAll.kp e b)
end
theorem Td.same (e : Same H H') {v : V} {d : PyData} (h : Td K H v d) : Td K H' v d := h.kp fun _ _ z => Same.tup e z
theorem TdAll.same (e : Same H H') {v : List V} {d : List PyData} (h : TdAll K H v d) : TdAll K H' v d := h.kp fun _ _ z => Same.tup e z
mutual
theorem Td.dg : ∀ {v : V} {d : PyData}, Td K H v d → Dg K H v d
  | _, _, .int i => .int i
  | _, _, .str x => .str x
  | _, _, .tup h a => .tup h (TdAll.dg a)
theorem TdAll.dg : ∀ {v : List V} {d : List PyData}, TdAll K H v d → DgAll K H v d
  | _, _, .nil => .nil
  | _, _, .cons a b => .cons (Td.dg a) (TdAll.dg b)
end
mutual
theorem Td.dp : ∀ {v : V} {d : PyData}, Td K H v d → Dp K H v d
  | _, _, .int i => .int i
  | _, _, .str x => .str x
  | _, _, .tup h a => .tup h (TdAll.dp a)
theorem TdAll.dp : ∀ {v : List V} {d : List PyData}, TdAll K H v d → DpAll K H v d
  | _, _, .nil => .nil
  | _, _, .cons a b => .cons (Td.dp a) (TdAll.dp b)
end
theorem TdAll.len : ∀ {vs : List V} {ds : List PyData}, TdAll K H vs ds → vs.length = ds.length
  | _, _, .nil => rfl
  | _, _, .cons a b => congrArg (· + 1) b.len
theorem TdAll.snoc : ∀ {vs : List V} {ds : List PyData} {v : V} {d : PyData}, TdAll K H vs ds → Td K H v d → TdAll K H (vs ++ [v]) (ds ++ [d])
  | _, _, _, _, .nil, h => .cons h .nil
  | _, _, _, _, .cons a b, h => .cons a (b.snoc h)
theorem TdAll.unsnoc : ∀ {vs : List V} {ds : List PyData} {d : PyData}, TdAll K H vs (ds ++ [d]) → ∃ us v, vs = us ++ [v] ∧ TdAll K H us ds ∧ Td K H v d
  | _, [], _, .cons a .nil => ⟨[], _, rfl, .nil, a⟩
  | _, e :: ds, _, .cons a b => by
    obtain ⟨us, v, rfl, h1, h2⟩ := b.unsnoc
    exact ⟨_ :: us, v, rfl, .cons a h1, h2⟩
theorem TdAll.at : ∀ {vs : List V} {ds : List PyData} {i : Nat} {v : V}, TdAll K H vs ds → vs[i]? = some v → ∃ d, ds[i]? = some d ∧ Td K H v d
  | _, _, 0, _, .cons a b, h => ⟨_, rfl, by cases h; exact a⟩
  | _, _, i + 1, _, .cons a b, h => TdAll.at (i := i) b h
theorem TdAll.of_strs {xs : List Str} : TdAll K H (xs.map V.str) (xs.map PyData.str) := by
  induction xs with
  | nil => exact .nil
  | cons x xs ih => exact .cons (.str x) ih
/-- a tuple of two -/
theorem Td.two {v : V} {d e : PyData} (h : Td K H v (.tuple [d, e])) : ∃ a x y, v = .ref a ∧ SqT K H a [x, y] ∧ Td K H x d ∧ Td K H y e := by
  cases h with
  | tup h a =>
    cases a with
    | cons a b =>
      cases b with
      | cons b c =>
        cases c
        exact ⟨_, _, _, rfl, h, a, b⟩
theorem Td.two' {a : Addr} {x y : V} {d e : PyData} (h : SqT K H a [x, y]) (h1 : Td K H x d) (h2 : Td K H y e) : Td K H (.ref a) (.tuple [d, e]) := .tup h (.cons h1 (.cons h2 .nil))
theorem Td.isStr {v : V} {x : Str} (h : Td K H v (.str x)) : v = .str x := by
  cases h
  rfl
end
/-! ### what can be shown, and how long it is -/
structure ShowOk (d : PyData) : Prop where
  sh : d.showable = true
  de : d.depth ≤ 40
  le : d.shown.length ≤ sizeLine
structure Gd (w n : Nat) (d : PyData) : Prop where
  cl : d.canLay0 = true
  sh : d.showable = true
  de : d.depth ≤ n
  we : d.weight ≤ w
  it : d.intsShort 13 = true
theorem gd_str {l : List Nat} {w : Nat} (h : ∀ c ∈ l, c < 1114112) (hl : l.length ≤ w) : Gd w 0 (.str (S l)) := by
  refine ⟨?_, rfl, Nat.le_refl 0, ?_, rfl⟩
  · show (l.toArray : Array Nat).all (fun d => decide (d < 1114112)) = true
    rw [List.all_toArray]
    exact List.all_eq_true.mpr fun c hc => decide_eq_true (h c hc)
  · show (S l).length ≤ w
    rw [SX.S_len]
    exact hl
theorem gd_int {k : Nat} (h : k ≤ 1000) : Gd 20 0 (.int (k : Nat)) := by
  obtain ⟨a, b, c⟩ := small_short k h
  exact ⟨rfl, b, Nat.le_refl 0, c, by show decide _ = true; exact decide_eq_true a⟩
theorem Gd.mono {w n w' n' : Nat} {d : PyData} (h : Gd w n d) (hw : w ≤ w') (hn : n ≤ n') : Gd w' n' d := ⟨h.cl, h.sh, Nat.le_trans h.de hn, Nat.le_trans h.we hw, h.it⟩
theorem gd_all {w n : Nat} : ∀ {ds : List PyData}, (∀ d ∈ ds, Gd w n d) → PyData.canLayAll0 ds = true ∧ PyData.showableAll ds = true ∧ PyData.depthAll ds ≤ n ∧ PyData.weightAll ds ≤ ds.length * (w + 1) ∧ PyData.intsShortAll 13 ds = true
  | [], _ => ⟨rfl, rfl, Nat.zero_le _, Nat.zero_le _, rfl⟩
  | d :: ds, h => by
    obtain ⟨a, b, c, e, f⟩ := gd_all fun x hx => h x (List.mem_cons_of_mem _ hx)
    have g := h d List.mem_cons_self
    refine ⟨?_, ?_, ?_, ?_, ?_⟩
    · show (d.canLay0 && PyData.canLayAll0 ds) = true
      rw [g.cl, a]
      rfl
    · show (d.showable && PyData.showableAll ds) = true
      rw [g.sh, b]
      rfl
    · exact Nat.max_le.mpr ⟨g.de, c⟩
    · show d.weight + 1 + PyData.weightAll ds ≤ (ds.length + 1) * (w + 1)
      have := g.we
      rw [Nat.add_mul, Nat.one_mul]
      omega
    · show (d.intsShort 13 && PyData.intsShortAll 13 ds) = true
      rw [g.it, f]
      rfl
theorem gd_tup {w n m : Nat} {ds : List PyData} (h : ∀ d ∈ ds, Gd w n d) (hl : ds.length ≤ m) : Gd (m * (w + 1)) (n + 1) (.tuple ds) := by
  obtain ⟨a, b, c, e, f⟩ := gd_all h
  exact ⟨a, b, Nat.succ_le_succ c, Nat.le_trans e (Nat.mul_le_mul_right _ hl), f⟩
theorem gd_lst {w n m : Nat} {ds : List PyData} (h : ∀ d ∈ ds, Gd w n d) (hl : ds.length ≤ m) : Gd (m * (w + 1)) (n + 1) (.list ds) := by
  obtain ⟨a, b, c, e, f⟩ := gd_all h
  exact ⟨a, b, Nat.succ_le_succ c, Nat.le_trans e (Nat.mul_le_mul_right _ hl), f⟩
theorem Gd.ok {w n : Nat} {d : PyData} (h : Gd w n d) (hw : w ≤ 1000000) (hn : n ≤ 40) : ShowOk d :=
  ⟨h.sh, Nat.le_trans h.de hn, shown_fits h.cl (Nat.le_trans h.de (Nat.le_trans hn (by decide))) (Nat.le_trans h.we hw) h.it⟩
end Mq

namespace Mq
open PySem PySem.Spec PyProof.Rows L2
open SX (S)
/-! ### signs of what is shown -/
def Low (x : Str) : Prop := ∀ c ∈ x.cps.toList, c < 16 ^ 8
theorem low_of (s : String) : Low (Str.ofString s) := by
  intro c hc
  rw [Str.ofString_eq_toList] at hc
  obtain ⟨d, _, rfl⟩ := List.mem_map.mp (by simpa using hc : c ∈ s.toList.map Char.toNat)
  have h : d.toNat < 4294967296 := d.val.toBitVec.isLt
  exact Nat.lt_of_lt_of_le h (by decide)
theorem low_app {x y : Str} (hx : Low x) (hy : Low y) : Low (x ++ y) := by
  intro c hc
  have e : (x ++ y).cps.toList = x.cps.toList ++ y.cps.toList := Array.toList_append ..
  rw [e] at hc
  exact (List.mem_append.mp hc).elim (hx c) (hy c)
theorem low_join {sep : Str} (hs : Low sep) : ∀ ts : List Str, (∀ t ∈ ts, Low t) → Low (Str.join sep ts)
  | [], _ => fun c hc => by cases (by simpa [Str.join, Str.empty] using hc : False)
  | [x], h => h x List.mem_cons_self
  | x :: y :: r, h => low_app (low_app (h x List.mem_cons_self) hs) (low_join hs (y :: r) fun t ht => h t (List.mem_cons_of_mem _ ht))
theorem low_from : ∀ (ts : List Str) (k : Nat) (acc : Str), Low acc → (∀ t ∈ ts, Low t) → Low (textFrom k acc ts)
  | [], _, _, h, _ => h
  | t :: r, k, acc, h, ht => by
    refine low_from r (k + 1) _ (low_app (low_app h ?_) (ht t List.mem_cons_self)) fun u hu => ht u (List.mem_cons_of_mem _ hu)
    exact low_of _
theorem low_digits {c : Nat} : ∀ d ∈ (Nat.toDigits 16 c).map Char.toNat, d < 16 ^ 8 := by
  intro d hd
  obtain ⟨e, _, rfl⟩ := List.mem_map.mp hd
  have h : e.toNat < 4294967296 := e.val.toBitVec.isLt
  exact Nat.lt_of_lt_of_le h (by decide)
theorem low_char {q c : Nat} (hc : c < 16 ^ 8) : ∀ d ∈ Builtin.Str.reprChar q c, d < 16 ^ 8 := by
  have hx : ∀ w : Nat, ∀ d ∈ List.replicate (w - ((Nat.toDigits 16 c).map Char.toNat).length) 48 ++ (Nat.toDigits 16 c).map Char.toNat, d < 16 ^ 8 := by
    intro w d hd
    rcases List.mem_append.mp hd with h | h
    · rw [(List.mem_replicate.mp h).2]
      decide
    · exact low_digits d h
  have two : ∀ a b : Nat, a < 16 ^ 8 → b < 16 ^ 8 → ∀ d ∈ [a, b], d < 16 ^ 8 := by
    intro a b ha hb d hd
    simp only [List.mem_cons, List.not_mem_nil, or_false] at hd
    rcases hd with rfl | rfl
    · exact ha
    · exact hb
  have both : ∀ (a b : List Nat), (∀ d ∈ a, d < 16 ^ 8) → (∀ d ∈ b, d < 16 ^ 8) → ∀ d ∈ a ++ b, d < 16 ^ 8 := fun a b ha hb d hd => (List.mem_append.mp hd).elim (ha d) (hb d)
  unfold Builtin.Str.reprChar
  dsimp only
  split
  · exact two _ _ (by decide) hc
  split
  · exact two _ _ (by decide) (by decide)
  split
  · exact two _ _ (by decide) (by decide)
  split
  · exact two _ _ (by decide) (by decide)
  split
  · intro d hd
    rw [List.mem_singleton.mp hd]
    exact hc
  split
  · exact both _ _ (two _ _ (by decide) (by decide)) (hx 2)
  split
  · exact both _ _ (two _ _ (by decide) (by decide)) (hx 4)
  · exact both _ _ (two _ _ (by decide) (by decide)) (hx 8)
theorem low_fold (q : Nat) : ∀ (l : List Nat) (acc : Array Nat), (∀ c ∈ l, c < 16 ^ 8) → (∀ c ∈ acc.toList, c < 16 ^ 8) → ∀ c ∈ (l.foldl (fun out c => out ++ (Builtin.Str.reprChar q c).toArray) acc).toList, c < 16 ^ 8
  | [], acc, _, h => h
  | c :: l, acc, hl, h => by
    refine low_fold q l _ (fun d hd => hl d (List.mem_cons_of_mem _ hd)) fun d hd => ?_
    rw [Array.toList_append] at hd
    rcases List.mem_append.mp hd with hd | hd
    · exact h d hd
    · exact low_char (hl c List.mem_cons_self) d hd
theorem low_quote (x : Str) : reprQuote x < 16 ^ 8 := by
  unfold reprQuote
  split <;> decide
theorem low_repr {x : Str} (h : Low x) : Low (reprText x) := by
  intro c hc
  unfold reprText at hc
  have hc : c ∈ ((x.cps.foldl (fun out c => out ++ (Builtin.Str.reprChar (reprQuote x) c).toArray) #[reprQuote x]).push (reprQuote x)).toList := hc
  rw [Array.toList_push, ← Array.foldl_toList] at hc
  rcases List.mem_append.mp hc with hc | hc
  · refine low_fold _ _ _ h (fun d hd => ?_) c hc
    have hd : d ∈ [reprQuote x] := hd
    rw [List.mem_singleton.mp hd]
    exact low_quote x
  · rw [List.mem_singleton.mp hc]
    exact low_quote x
mutual
theorem low_shown {B : Nat} : ∀ d : PyData, d.leavesShort B = true → Low d.shown
  | .none, _ => low_of "None"
  | .bool true, _ => low_of "True"
  | .bool false, _ => low_of "False"
  | .int i, _ => low_of _
  | .str x, h => by
    have hx : ∀ c ∈ x.cps.toList, c < 16 ^ 8 := by simpa only [PyData.leavesShort, List.all_eq_true, decide_eq_true_eq] using h
    exact low_repr hx
  | .list xs, h => by
    have h1 := low_all xs (by simpa only [PyData.leavesShort] using h)
    show Low (listText (PyData.shownAll xs))
    unfold listText
    exact low_app (low_from _ 0 _ (low_of "[") h1) (low_of "]")
  | .tuple xs, h => by
    have h1 := low_all xs (by simpa only [PyData.leavesShort] using h)
    show Low (tupleText (PyData.shownAll xs))
    unfold tupleText
    exact low_app (low_app (low_of "(") (low_join (low_of ", ") _ h1)) (low_of _)
  | .dict kvs, h => by
    have h1 := low_kv kvs (by simpa only [PyData.leavesShort] using h)
    show Low (dictText (PyData.shownKv kvs))
    unfold dictText
    exact low_app (low_app (low_of "{") (low_join (low_of ", ") _ h1)) (low_of "}")
theorem low_all {B : Nat} : ∀ xs : List PyData, PyData.leavesShortAll B xs = true → ∀ t ∈ PyData.shownAll xs, Low t
  | [], _ => fun t ht => by cases ht
  | x :: xs, h => by
    have h' : x.leavesShort B = true ∧ PyData.leavesShortAll B xs = true := by simpa only [PyData.leavesShortAll, Bool.and_eq_true] using h
    have h1 := low_shown x h'.1
    have h2 := low_all xs h'.2
    intro t ht
    rcases List.mem_cons.mp (show t ∈ x.shown :: PyData.shownAll xs from ht) with rfl | ht
    · exact h1
    · exact h2 t ht
theorem low_kv {B : Nat} : ∀ kvs : List (PyData × PyData), PyData.leavesShortKv B kvs = true → ∀ t ∈ PyData.shownKv kvs, Low t
  | [], _ => fun t ht => by cases ht
  | (k, v) :: r, h => by
    have h' : (k.leavesShort B = true ∧ v.leavesShort B = true) ∧ PyData.leavesShortKv B r = true := by simpa only [PyData.leavesShortKv, Bool.and_eq_true] using h
    have h1 := low_shown k h'.1.1
    have h2 := low_shown v h'.1.2
    have h3 := low_kv r h'.2
    intro t ht
    rcases List.mem_cons.mp (show t ∈ (k.shown ++ ": " ++ v.shown) :: PyData.shownKv r from ht) with rfl | ht
    · exact low_app (low_app h1 (low_of ": ")) h2
    · exact h3 t ht
end
/-! ### bounds, dicts and long numbers among them -/
structure Gs (w n : Nat) (d : PyData) : Prop where
  sh : d.showable = true
  de : d.depth ≤ n
  we : d.weight ≤ w
  le : d.leavesShort 60 = true
def gsB (w n : Nat) (d : PyData) : Bool := d.showable && (decide (d.depth ≤ n) && (decide (d.weight ≤ w) && d.leavesShort 60))
theorem gs_of {w n : Nat} {d : PyData} (h : gsB w n d = true) : Gs w n d := by
  obtain ⟨a, h⟩ := Bool.and_eq_true_iff.mp h
  obtain ⟨b, h⟩ := Bool.and_eq_true_iff.mp h
  obtain ⟨c, e⟩ := Bool.and_eq_true_iff.mp h
  exact ⟨a, of_decide_eq_true b, of_decide_eq_true c, e⟩
theorem Gs.mono {w n w' n' : Nat} {d : PyData} (h : Gs w n d) (hw : w ≤ w') (hn : n ≤ n') : Gs w' n' d := ⟨h.sh, Nat.le_trans h.de hn, Nat.le_trans h.we hw, h.le⟩
theorem Gs.len {w n : Nat} {d : PyData} (h : Gs w n d) : d.shown.length ≤ 62 * w + 60 := by
  have h1 := PyData.shown_le 60 (by decide) d h.le
  have h2 := h.we
  omega
theorem Gs.ok {w n : Nat} {d : PyData} (h : Gs w n d) (hw : w ≤ 200000) (hn : n ≤ 40) : ShowOk d :=
  ⟨h.sh, Nat.le_trans h.de hn, by have := h.len; rw [sizeLine_eq]; omega⟩
theorem gs_str {l : List Nat} {w : Nat} (h : ∀ c ∈ l, c < 1114112) (hl : l.length ≤ w) : Gs w 0 (.str (S l)) := by
  refine ⟨rfl, Nat.le_refl 0, ?_, ?_⟩
  · show (S l).length ≤ w
    rw [SX.S_len]
    exact hl
  · show (l.toArray.toList.all fun c => decide (c < 16 ^ 8)) = true
    refine List.all_eq_true.mpr fun c hc => decide_eq_true ?_
    exact Nat.lt_of_lt_of_le (h c (by simpa using hc)) (by decide)
theorem Gs.shown {w n : Nat} {d : PyData} (h : Gs w n d) : Gs (62 * w + 60) 0 (.str d.shown) := by
  refine ⟨rfl, Nat.le_refl 0, h.len, ?_⟩
  show (d.shown.cps.toList.all fun c => decide (c < 16 ^ 8)) = true
  exact List.all_eq_true.mpr fun c hc => decide_eq_true (low_shown d h.le c hc)
theorem gs_all {w n : Nat} : ∀ {ds : List PyData}, (∀ d ∈ ds, Gs w n d) → PyData.showableAll ds = true ∧ PyData.depthAll ds ≤ n ∧ PyData.weightAll ds ≤ ds.length * (w + 1) ∧ PyData.leavesShortAll 60 ds = true
  | [], _ => ⟨rfl, Nat.zero_le _, Nat.zero_le _, rfl⟩
  | d :: ds, h => by
    obtain ⟨b, c, e, f⟩ := gs_all fun x hx => h x (List.mem_cons_of_mem _ hx)
    have g := h d List.mem_cons_self
    refine ⟨?_, ?_, ?_, ?_⟩
    · show (d.showable && PyData.showableAll ds) = true
      rw [g.sh, b]
      rfl
    · exact Nat.max_le.mpr ⟨g.de, c⟩
    · show d.weight + 1 + PyData.weightAll ds ≤ (ds.length + 1) * (w + 1)
      have := g.we
      rw [Nat.add_mul, Nat.one_mul]
      omega
    · show (d.leavesShort 60 && PyData.leavesShortAll 60 ds) = true
      rw [g.le, f]
      rfl
theorem gs_tup {w n m : Nat} {ds : List PyData} (h : ∀ d ∈ ds, Gs w n d) (hl : ds.length ≤ m) : Gs (m * (w + 1)) (n + 1) (.tuple ds) := by
  obtain ⟨b, c, e, f⟩ := gs_all h
  exact ⟨b, Nat.succ_le_succ c, Nat.le_trans e (Nat.mul_le_mul_right _ hl), f⟩
theorem gs_lst {w n m : Nat} {ds : List PyData} (h : ∀ d ∈ ds, Gs w n d) (hl : ds.length ≤ m) : Gs (m * (w + 1)) (n + 1) (.list ds) := by
  obtain ⟨b, c, e, f⟩ := gs_all h
  exact ⟨b, Nat.succ_le_succ c, Nat.le_trans e (Nat.mul_le_mul_right _ hl), f⟩
theorem gs_bool {w n : Nat} (b : Bool) : Gs w n (.bool b) := ⟨rfl, Nat.zero_le _, Nat.zero_le _, rfl⟩
/-! ### data whose lists and dicts stand at told places: it stays where these stay -/
mutual
inductive Dv (K : PySem.W.Frag) (N : Addr → Prop) (H : Hp) : V → PyData → Prop
  | non : Dv K N H .non .none
  | bl (b : Bool) : Dv K N H (.bl b) (.bool b)
  | int (i : Int) : Dv K N H (.int i) (.int i)
  | str (x : Str) : Dv K N H (.str x) (.str x)
  | lst {a : Addr} {xs : List V} {ds : List PyData} : N a → a ≠ sysModules → H a = some (.lst xs) → DvAll K N H xs ds → Dv K N H (.ref a) (.list ds)
  | tup {a : Addr} {xs : List V} {ds : List PyData} : SqT K H a xs → DvAll K N H xs ds → Dv K N H (.ref a) (.tuple ds)
  | dct {a : Addr} : N a → H a = some (.dK []) → Dv K N H (.ref a) (.dict [])
inductive DvAll (K : PySem.W.Frag) (N : Addr → Prop) (H : Hp) : List V → List PyData → Prop
  | nil : DvAll K N H [] []
  | cons {v : V} {vs : List V} {d : PyData} {ds : List PyData} : Dv K N H v d → DvAll K N H vs ds → DvAll K N H (v :: vs) (d :: ds)
end
section
variable {K : PySem.W.Frag} {N N' : Addr → Prop} {H H' : Hp}
mutual
theorem Dv.kp (e1 : ∀ a o, N a → H a = some o → H' a = some o) (e2 : ∀ a xs, SqT K H a xs → SqT K H' a xs) : ∀ {v : V} {d : PyData}, Dv K N H v d → Dv K N H' v d
  | _, _, .non => .non
  | _, _, .bl b => .bl b
  | _, _, .int i => .int i
  | _, _, .str x => .str x
  | _, _, .lst n m h a => .lst n m (e1 _ _ n h) (DvAll.kp e1 e2 a)
  | _, _, .tup h a => .tup (e2 _ _ h) (DvAll.kp e1 e2 a)
  | _, _, .dct n h => .dct n (e1 _ _ n h)
theorem DvAll.kp (e1 : ∀ a o, N a → H a = some o → H' a = some o) (e2 : ∀ a xs, SqT K H a xs → SqT K H' a xs) : ∀ {v : List V} {d : List PyData}, DvAll K N H v d → DvAll K N H' v d
  | _, _, .nil => .nil
  | _, _, .cons a b => .cons (Dv.kp e1 e2 a) (DvAll.kp e1 e2 b)
end
mutual
theorem Dv.mono (e : ∀ a, N a → N' a) : ∀ {v : V} {d : PyData}, Dv K N H v d → Dv K N' H v d
  | _, _, .non => .non
  | _, _, .bl b => .bl b
  | _, _, .int i => .int i
  | _, _, .str x => .str x
  | _, _, .lst n m h a => .lst (e _ n) m h (DvAll.mono e a)
  | _, _, .tup h a => .tup h (DvAll.mono e a)
  | _, _, .dct n h => .dct (e _ n) h
theorem DvAll.mono (e : ∀ a, N a → N' a) : ∀ {v : List V} {d : List PyData}, DvAll K N H v d → DvAll K N' H v d
  | _, _, .nil => .nil
  | _, _, .cons a b => .cons (Dv.mono e a) (DvAll.mono e b)
end
mutual
theorem Dv.dg : ∀ {v : V} {d : PyData}, Dv K N H v d → Dg K H v d
  | _, _, .non => .non
  | _, _, .bl b => .bl b
  | _, _, .int i => .int i
  | _, _, .str x => .str x
  | _, _, .lst _ m h a => .lst m (SqL.of h) (DvAll.dg a)
  | _, _, .tup h a => .tup h (DvAll.dg a)
  | _, _, .dct n h => .dct h .nil
theorem DvAll.dg : ∀ {v : List V} {d : List PyData}, DvAll K N H v d → DgAll K H v d
  | _, _, .nil => .nil
  | _, _, .cons a b => .cons (Dv.dg a) (DvAll.dg b)
end
mutual
theorem Td.dv : ∀ {v : V} {d : PyData}, Td K H v d → Dv K N H v d
  | _, _, .int i => .int i
  | _, _, .str x => .str x
  | _, _, .tup h a => .tup h (TdAll.dv a)
theorem TdAll.dv : ∀ {v : List V} {d : List PyData}, TdAll K H v d → DvAll K N H v d
  | _, _, .nil => .nil
  | _, _, .cons a b => .cons (Td.dv a) (TdAll.dv b)
end
theorem Dv.same (e : Same H H') {v : V} {d : PyData} (h : Dv K N H v d) : Dv K N H' v d := h.kp (fun a o _ z => e a o z) fun _ _ z => Same.tup e z
theorem DvAll.same (e : Same H H') {v : List V} {d : List PyData} (h : DvAll K N H v d) : DvAll K N H' v d := h.kp (fun a o _ z => e a o z) fun _ _ z => Same.tup e z
theorem DvAll.len : ∀ {vs : List V} {ds : List PyData}, DvAll K N H vs ds → vs.length = ds.length
  | _, _, .nil => rfl
  | _, _, .cons a b => congrArg (· + 1) b.len
theorem DvAll.app : ∀ {vs us : List V} {ds es : List PyData}, DvAll K N H vs ds → DvAll K N H us es → DvAll K N H (vs ++ us) (ds ++ es)
  | _, _, _, _, .nil, h => h
  | _, _, _, _, .cons a b, h => .cons a (b.app h)
theorem DvAll.at : ∀ {vs : List V} {ds : List PyData} {i : Nat} {v : V}, DvAll K N H vs ds → vs[i]? = some v → ∃ d, ds[i]? = some d ∧ Dv K N H v d
  | _, _, 0, _, .cons a b, h => ⟨_, rfl, by cases h; exact a⟩
  | _, _, i + 1, _, .cons a b, h => DvAll.at (i := i) b h
theorem DvAll.mem {vs : List V} {ds : List PyData} {v : V} (h : DvAll K N H vs ds) (hv : v ∈ vs) : ∃ d ∈ ds, Dv K N H v d := by
  obtain ⟨i, hi, e⟩ := List.getElem_of_mem hv
  obtain ⟨d, h1, h2⟩ := h.at (i := i) (by rw [List.getElem?_eq_getElem hi, e])
  exact ⟨d, List.mem_of_getElem? h1, h2⟩
end
/-! ### capital letters -/
theorem upper_low (l : List Nat) (h : ∀ c ∈ l, c < 128) : ∃ u : List Nat, Txt.upper (S l) = S u ∧ u.length = l.length ∧ ∀ c ∈ u, c < 128 := by
  have h1 : ((List.range 128).all fun c => match Unicode.upperOf c with | [d] => decide (d < 128) | _ => false) = true := by decide +kernel
  have h2 : ∀ c, c < 128 → ∃ d, Unicode.upperOf c = [d] ∧ d < 128 := by
    intro c hc
    have h3 := List.all_eq_true.mp h1 c (List.mem_range.mpr hc)
    split at h3
    · rename_i d e
      exact ⟨d, e, of_decide_eq_true h3⟩
    · cases h3
  refine ⟨l.map fun c => (Unicode.upperOf c).headD 0, ?_, List.length_map .., ?_⟩
  · have e1 : (placed (S l) fun _ c => Unicode.upperOf c).toList = l.map fun c => (Unicode.upperOf c).headD 0 := by
      unfold placed
      rw [Array.toList_flatten, Array.toList_mapIdx]
      show ((List.mapIdx (fun (_ : Nat) (c : Nat) => (Unicode.upperOf c).toArray) l).map Array.toList).flatten = _
      rw [show ((List.mapIdx (fun (_ : Nat) (c : Nat) => (Unicode.upperOf c).toArray) l).map Array.toList) = l.map Unicode.upperOf from ?_]
      · clear h1
        induction l with
        | nil => rfl
        | cons c l ih =>
          obtain ⟨d, hd, _⟩ := h2 c (h c List.mem_cons_self)
          rw [List.map_cons, List.flatten_cons, List.map_cons, ih fun x hx => h x (List.mem_cons_of_mem _ hx), hd]
          rfl
      · refine List.ext_getElem? fun i => ?_
        rw [List.getElem?_map, List.getElem?_mapIdx, List.getElem?_map, Option.map_map]
        rfl
    show Str.mk _ = Str.mk _
    exact congrArg Str.mk (Array.toList_inj.mp e1)
  · intro c hc
    obtain ⟨d, hd, rfl⟩ := List.mem_map.mp hc
    obtain ⟨e, h3, h4⟩ := h2 d (h d hd)
    rw [h3]
    exact h4
end Mq

namespace Mq
open PySem PySem.Spec PyProof.Rows L2
/-! ### text.replace(c, d) of two written texts, behind a first item that gives out a token -/
section
variable {X : Cx}
theorem pat_of {es : List Expr} {t : TA} (h : PA X es t) : PAT X es t := fun pos pins s σ H Q _ I q => h.run pos pins s σ H Q I q
theorem pet_of {e : Expr} {t : TE} (h : PE X e t) : PET X e t := fun pins s σ H Q _ I q => h.run pins s σ H Q I q
/-- [a op 'c', ..]: behind the first item a token is out -/
theorem pa_consT {op : Operator} {r : R2} {a : Expr} {c : Str} {j : Nat} {es : List Expr} {ta : TE} {t : TA} {cp pos : Pos} (ho : OpR X (binaryOp op) r) (ha : PE X a ta) (hr : PAT X es t)
    (hs : starEach (.BinOp a op (.Constant (.str c) j cp) pos :: es) X.env = (false, eval (.BinOp a op (.Constant (.str c) j cp) pos) X.env) :: starEach es X.env := by rfl) :
    PA X (.BinOp a op (.Constant (.str c) j cp) pos :: es) (tCons (tOp r ta (tC (.str c))) t) := by
  refine ⟨fun pos2 pins s σ H Q I h => ?_⟩
  rw [hs]
  show wpAny _ _ (spliced ((false, eval (.BinOp a op (.Constant (.str c) j cp) pos) X.env) :: backTo pos2 (starEach es X.env))) _ _ s
  refine Calls.spliced_cons (wpAny_BinOp (thn (ha.run pins s σ H _ I h) fun v s1 ⟨x, H1, I1, r1, q1⟩ => ?_))
  refine Calls.Constant_str ?_
  have I2 := I1.tok (s1.toks + 1)
  refine wpAny_mono (PySem.wpAny_toks (ho pins _ σ H1 x (.str c) v _ _ I2 r1 ⟨_, rfl⟩ q1)) (fun u s3 hq => ?_) fun _ _ z => z.2
  obtain ⟨hk, y, H3, I3, r3, q3⟩ := hq
  have hk' : s1.toks + 1 ≤ s3.toks := hk
  exact thn (hr pos2 pins s3 σ H3 _ (by omega) I3 q3) fun us s4 ⟨xs, H4, I4, r4, q4⟩ => ⟨y :: xs, H4, I4, .cons r3 r4, q4⟩
def tRepC (ik : Nat) (y z : Str) : TE := fun σ H Q => ∃ x, σ[ik]? = some (some (.str x)) ∧ x.length + (x.length + 1) * z.length ≤ 16777216 ∧ Q (.str (Txt.replace x y z)) H
theorem pet_repC {ik j0 j1 : Nat} {kx y z : Str} {p1 c0 c1 apos pos : Pos} (hNk : X.N[ik]? = some kx) (hvk : Vis X.env.scope kx) (hyz : (y == z) = false)
    (hdk : (kx == ("__debug__" : Str)) = false := by decide) (hck : (kx == ("__classdict__" : Str)) = false := by decide)
    (hst : starEach [.Constant (.str y) j0 c0, .Constant (.str z) j1 c1] X.env = [(false, eval (.Constant (.str y) j0 c0) X.env), (false, eval (.Constant (.str z) j1 c1) X.env)] := by rfl)
    (hbase : attributeBase (.Name kx p1) "replace" X.env (eval (.Name kx p1) X.env) = eval (.Name kx p1) X.env := by rfl) (hline : (apos.endLine == pos.line) = true := by rfl) :
    PET X (.Call (.Attribute (.Name kx p1) "replace" apos) [.Constant (.str y) j0 c0, .Constant (.str z) j1 c1] [] pos) (tRepC ik y z) := by
  intro pins s σ H Q h0 I h
  obtain ⟨x, hx, hb, q⟩ := h
  refine PySem.Call_method2 hbase hst hline (raw_name hNk hvk I hx (fun v r => ?_) hdk hck)
  obtain ⟨tx, e⟩ := r
  subst e
  refine ⟨"str", _, F.plainAttrs_str, F.slot_str_replace, F.type_str_replace, typeIs_str _ _ _, (fun _ e => nomatch e), Calls.callWith_builtin rfl (Calls.evalArgs_plain (Calls.spliced_cons ?_))⟩
  refine Calls.Constant_str (Calls.spliced_cons (Calls.Constant_str (Calls.spliced_nil ?_)))
  exact PySem.SC.replace (show s.toks ≠ 0 by omega) (show s.toks + 1 ≠ 0 by omega) (show s.toks ≠ s.toks + 1 by omega) hyz hb fun t' k => ⟨.str (Txt.replace x y z), H, I.tok k, ⟨t', rfl⟩, q⟩
end
end Mq

namespace Lw
open PySem PySem.Spec PyProof.Rows L2 Mq
open SX (S)
theorem PT_imp {X : Cx} {e : Expr} {t t' : TT} (h : PT X e t) (i : ∀ σ H Q, t' σ H Q → t σ H Q) : PT X e t' := ⟨fun pins s σ H Q I q => h.run pins s σ H Q I (i σ H Q q)⟩
def KpT (K : PySem.W.Frag) (H H' : Hp) : Prop := ∀ a xs, SqT K H a xs → SqT K H' a xs
theorem KpT.trans {K : PySem.W.Frag} {H H' H'' : Hp} (a : KpT K H H') (b : KpT K H' H'') : KpT K H H'' := fun x y h => b x y (a x y h)
theorem KpT.off {K : PySem.W.Frag} {D C : Addr} {T : Nat} {H H' : Hp} (f : Off D C H H') (k : DeckAt D C T H) : KpT K H H' := fun _ _ h => f.tup k h
theorem KpT.same {K : PySem.W.Frag} {H H' : Hp} (e : Same H H') : KpT K H H' := fun _ _ h => Same.tup e h
theorem KpT.lst {K : PySem.W.Frag} {H : Hp} {L : Addr} {xs ys : List V} (h : H L = some (.lst xs)) : KpT K H (upd H L (.lst ys)) := by
  intro a zs hz
  have ne : ∀ {o : HO}, H a = some o → (∀ xs, o ≠ .lst xs) → upd H L (.lst ys) a = some o := by
    intro o e n
    by_cases q : a = L
    · subst q
      rw [h] at e
      cases e
      exact (n _ rfl).elim
    · exact (upd_ne q).trans e
  rcases hz with (hz | ⟨o, hz⟩) | hz
  · exact Or.inl (Or.inl (ne hz fun _ z => nomatch z))
  · exact Or.inl (Or.inr ⟨o, ne hz fun _ z => nomatch z⟩)
  · exact Or.inr hz
def letB (sg : List Nat) : List Nat → Bool
  | [c] => decide (c ∈ sg)
  | _ => false
theorem S_dec (a b : List Nat) : decide (V.str (S a) = V.str (S b)) = decide (a = b) := by
  refine decide_eq_decide.mpr ⟨fun h => SX.S_inj (V.str.inj h), fun h => by rw [h]⟩
theorem int_ne {n m : Nat} (h : n ≠ m) : (!decide (V.int (n : Nat) = V.int (m : Nat))) = true := by
  rw [Bool.not_eq_true']
  exact decide_eq_false fun z => h (Int.ofNat.inj (V.int.inj z))
theorem letB_one {sg a : List Nat} (h : letB sg a = true) : ∃ c, a = [c] ∧ c ∈ sg := by
  match a, h with
  | [c], h => exact ⟨c, rfl, of_decide_eq_true h⟩
def NoTx (K : PySem.W.Frag) (H : Hp) (v : V) : Prop := ∃ c, TyX K H v c ∧ PySem.W.kitOne K c (.type "str") = some false
def lineD (d : Addr) (k : Nat) (H : Hp) : Hp := upd H d (.xd [("line", .int (k : Nat))])
theorem map_SV (ws : List (List Nat)) : (ws.map S).map V.str = ws.map fun l => V.str (S l) := by rw [List.map_map]; rfl
theorem at_line {ws : List (List Nat)} {i : Nat} {l : List Nat} (h : ws[i]? = some l) : atI (ws.map fun l => V.str (S l)) (i : Nat) = some (.str (S l)) := atI_nat (by rw [List.getElem?_map, h]; rfl)
theorem cut_from (xs : List V) (k : Nat) : cutV xs (some ((k : Nat) : Int)) none = xs.drop k := by
  unfold cutV
  rw [HT.sIx_nat, HT.sIx_none]
  by_cases h : k ≤ xs.length
  · rw [Nat.min_eq_left h, List.take_of_length_le (by rw [List.length_drop]; exact Nat.le_refl _)]
  · rw [Nat.min_eq_right (by omega), List.drop_of_length_le (Nat.le_refl _), List.drop_of_length_le (by omega), List.take_nil]
theorem cut_tail (l : V) (xs : List V) : cutV (l :: xs) (some 1) none = xs := cut_from (l :: xs) 1
theorem push_same {H0 H : Hp} {L : Addr} {o : HO} (hn : H0 L = none) (s : Same H0 H) : Same H0 (upd H L o) := by
  intro b u e
  rw [upd_ne (ne_of_none e hn)]
  exact s b u e
def orDash (z : List Nat) : List Nat := if z = [] then [45] else z
theorem app_le {a b : Str} {m n : Nat} (h : a.length ≤ m) (k : b.length ≤ n) : (a ++ b).length ≤ m + n := by
  have e : (a ++ b).length = a.length + b.length := Array.size_append ..
  omega
theorem S_le {l : List Nat} {n : Nat} (h : l.length ≤ n) : (S l).length ≤ n := by rw [SX.S_len]; exact h
theorem sum_le {ps : List (List Nat)} {n : Nat} (h : ∀ p ∈ ps, p.length ≤ n) : ((ps.map S).map (·.length)).sum ≤ ps.length * n := by
  induction ps with
  | nil => exact Nat.zero_le _
  | cons p ps ih =>
    rw [List.map_cons, List.map_cons, List.sum_cons, List.length_cons, Nat.succ_mul]
    have h1 := ih fun q hq => h q (List.mem_cons_of_mem _ hq)
    have h2 := h p List.mem_cons_self
    rw [SX.S_len]
    omega
theorem getD_mem {l : List Nat} {a : Nat} (ha : a < l.length) : l.getD a 0 ∈ l := by
  rw [List.getD_eq_getElem?_getD, List.getElem?_eq_getElem ha]
  exact List.getElem_mem ha
theorem new_ne {D C : Addr} {T : Nat} {H : Hp} {q : Addr} (k : DeckAt D C T H) (h : H q = none) : q ≠ D ∧ q ≠ C := by
  obtain ⟨_, _, _, e1, e2, _⟩ := k.ex
  refine ⟨?_, ?_⟩
  · rintro rfl
    rw [h] at e1
    cases e1
  · rintro rfl
    rw [h] at e2
    cases e2
theorem deck_lst {D C L : Addr} {T : Nat} {H : Hp} {o : HO} (k : DeckAt D C T H) (h1 : L ≠ D) (h2 : L ≠ C) : DeckAt D C T (upd H L o) := by
  obtain ⟨m, t, js, a, b, c, d⟩ := k.ex
  exact ⟨m, t, js, (upd_ne (Ne.symm h1)).trans a, (upd_ne (Ne.symm h2)).trans b, c, d⟩
theorem off_lst {D C L : Addr} {H H' : Hp} {o : HO} (e : Off D C H H') (h : H L = none) : Off D C H (upd H' L o) := by
  intro b u h1 h2 e2
  rw [upd_ne (ne_of_none e2 h)]
  exact e b u h1 h2 e2
theorem S_one {c d : Nat} : S [c] = S [d] ↔ c = d := ⟨fun h => by have := SX.S_inj h; simpa using this, fun h => by rw [h]⟩
theorem asc_pair {l : List Nat} : ascB l = true ↔ l.Pairwise (· < ·) := by
  unfold ascB
  rw [List.pairwise_iff_getElem, List.all_eq_true]
  constructor
  · intro h
    have h1 : ∀ k, k + 1 < l.length → l.getD k 0 < l.getD (k + 1) 0 := by
      intro k hk
      have := h (decide (l.getD k 0 < l.getD (k + 1) 0)) (List.mem_map.mpr ⟨k, List.mem_range.mpr (by omega), rfl⟩)
      exact of_decide_eq_true this
    have h2 : ∀ n i, i + n + 1 < l.length → l.getD i 0 < l.getD (i + n + 1) 0 := by
      intro n
      induction n with
      | zero => exact fun i hi => h1 i hi
      | succ n ih => exact fun i hi => Nat.lt_trans (ih i (by omega)) (h1 (i + n + 1) (by omega))
    intro i j hi hj hij
    have := h2 (j - i - 1) i (by omega)
    rw [show i + (j - i - 1) + 1 = j by omega] at this
    rw [List.getD_eq_getElem?_getD, List.getD_eq_getElem?_getD, List.getElem?_eq_getElem hi, List.getElem?_eq_getElem hj] at this
    exact this
  · intro h b hb
    obtain ⟨k, hk, rfl⟩ := List.mem_map.mp hb
    have hk := List.mem_range.mp hk
    have := h k (k + 1) (by omega) (by omega) (by omega)
    rw [List.getD_eq_getElem?_getD, List.getD_eq_getElem?_getD, List.getElem?_eq_getElem (show k < l.length by omega), List.getElem?_eq_getElem (show k + 1 < l.length by omega)]
    exact decide_eq_true this
theorem rising_pair : ∀ (p : Nat) (l : List Nat), PyProof.Rows.risingS (S [p]) (l.map fun c => S [c]) = true → (p :: l).Pairwise (· ≤ ·)
  | p, [], _ => List.pairwise_singleton _ _
  | p, x :: l, h => by
    have h' : (!PySem.Spec.ltCps (S [x]).cps.toList (S [p]).cps.toList && PyProof.Rows.risingS (S [x]) (l.map fun c => S [c])) = true := h
    obtain ⟨h1, h2⟩ := Bool.and_eq_true_iff.mp h'
    have ih := rising_pair x l h2
    have h3 : p ≤ x := by
      have e : PySem.Spec.ltCps (S [x]).cps.toList (S [p]).cps.toList = decide (x < p) := by
        show (decide (x < p) || (x == p && false)) = _
        rw [Bool.and_false, Bool.or_false]
      rw [e] at h1
      have := of_decide_eq_false (by simpa using h1 : decide (x < p) = false)
      omega
    refine List.pairwise_cons.mpr ⟨fun y hy => ?_, ih⟩
    rcases List.mem_cons.mp hy with rfl | hy
    · exact h3
    · exact Nat.le_trans h3 ((List.pairwise_cons.mp ih).1 y hy)
theorem sorted_pair {l : List Nat} (h : PyProof.Rows.sortedS (l.map fun c => S [c]) = true) (nd : l.Nodup) : l.Pairwise (· < ·) := by
  have h1 : l.Pairwise (· ≤ ·) := by
    cases l with
    | nil => exact .nil
    | cons p l => exact rising_pair p l h
  exact (h1.and nd).imp fun ⟨a, b⟩ => Nat.lt_of_le_of_ne a b
theorem dp_strs {K : PySem.W.Frag} {H : Hp} : ∀ ys : List Str, DpAll K H (ys.map V.str) (ys.map PyData.str)
  | [] => .nil
  | y :: ys => .cons (.str y) (dp_strs ys)
theorem shaped_strs {ys : List Str} (h : ∀ y ∈ ys, (PyData.str y).canLay0 = true) : SeqAt.shaped (.list (ys.map PyData.str)) = true := by
  have key : PyData.canLayAll0 (ys.map PyData.str) = true ∧ PyData.depthAll (ys.map PyData.str) = 0 := by
    induction ys with
    | nil => exact ⟨rfl, rfl⟩
    | cons y ys ih =>
      obtain ⟨a, b⟩ := ih fun m hm => h m (List.mem_cons_of_mem _ hm)
      constructor
      · show ((PyData.str y).canLay0 && PyData.canLayAll0 (ys.map PyData.str)) = true
        rw [h y List.mem_cons_self, a]
        rfl
      · show max 0 (PyData.depthAll (ys.map PyData.str)) = 0
        rw [b]
        rfl
  unfold SeqAt.shaped
  rw [show (PyData.list (ys.map PyData.str)).canLay0 = true from key.1]
  have : (PyData.list (ys.map PyData.str)).depth ≤ 64 := by
    show PyData.depthAll _ + 1 ≤ 64
    rw [key.2]
    decide
  rw [decide_eq_true this]
  rfl
theorem eqv_strs : ∀ xs ys : List Str, PyData.eqv (.list (xs.map PyData.str)) (.list (ys.map PyData.str)) = decide (xs = ys)
  | [], [] => rfl
  | [], _ :: _ => rfl
  | _ :: _, [] => rfl
  | x :: xs, y :: ys => by
    have ih := eqv_strs xs ys
    show (x == y && PyData.eqv (.list (xs.map PyData.str)) (.list (ys.map PyData.str))) = _
    rw [ih]
    rw [Bool.eq_iff_iff]
    simp
theorem all_filter (n : Nat) (q : Nat → Bool) : ((List.range n).map q).all id = ((List.range n).filter fun k => !q k).isEmpty := by
  rw [Bool.eq_iff_iff]
  simp [List.filter_eq_nil_iff]
theorem dp_signs {K : PySem.W.Frag} {H : Hp} (g : Nat → Str) : ∀ js : List Nat, DpAll K H (js.map fun k => V.str (g k)) (js.map fun k => PyData.str (g k))
  | [] => .nil
  | t :: ts => .cons (.str _) (dp_signs g ts)
theorem lay_signs (g : Nat → Str) : ∀ js : List Nat, (∀ k ∈ js, (PyData.str (g k)).canLay0 = true) → PyData.canLayAll0 (js.map fun k => PyData.str (g k)) = true ∧ PyData.depthAll (js.map fun k => PyData.str (g k)) = 0
  | [], _ => ⟨rfl, rfl⟩
  | t :: ts, h => by
    have ih := lay_signs g ts (fun k hk => h k (List.mem_cons_of_mem _ hk))
    constructor
    · show ((PyData.str (g t)).canLay0 && PyData.canLayAll0 (ts.map fun k => PyData.str (g k))) = true
      rw [h t (List.mem_cons_self ..), ih.1]
      rfl
    · show max 0 (PyData.depthAll (ts.map fun k => PyData.str (g k))) = 0
      rw [ih.2]
      rfl
theorem shaped_signs (g : Nat → Str) (js : List Nat) (h : ∀ k ∈ js, (PyData.str (g k)).canLay0 = true) : SeqAt.shaped (.list (js.map fun k => PyData.str (g k))) = true := by
  unfold SeqAt.shaped
  obtain ⟨a, b⟩ := lay_signs g js h
  rw [show (PyData.list (js.map fun k => PyData.str (g k))).canLay0 = true from a]
  have : (PyData.list (js.map fun k => PyData.str (g k))).depth ≤ 64 := by
    show PyData.depthAll _ + 1 ≤ 64
    omega
  rw [decide_eq_true this]
  rfl
theorem sign_ok {c : Nat} (h : c < 1114112) : (PyData.str (S [c])).canLay0 = true := by
  show (#[c] : Array Nat).all (fun d => decide (d < 1114112)) = true
  simp [h]
theorem eqv_nil (g : Nat → Str) (js : List Nat) : PyData.eqv (.list (js.map fun k => PyData.str (g k))) (.list []) = js.isEmpty := by
  cases js <;> rfl
theorem lay_txt {l : List Nat} (h : ∀ c ∈ l, c < 128) : (PyData.str (S l)).canLay0 = true := by
  show (l.toArray : Array Nat).all (fun d => decide (d < 1114112)) = true
  rw [List.all_toArray]
  refine List.all_eq_true.mpr fun c hc => decide_eq_true ?_
  have := h c hc
  omega
def LowL (l : List Nat) : Prop := ∀ c ∈ l, c < 128
theorem few_of {α : Type} [DecidableEq α] : ∀ {l m : List α}, l.Nodup → (∀ x ∈ l, x ∈ m) → l.length ≤ m.length
  | [], _, _, _ => Nat.zero_le _
  | a :: l, m, hn, hs => by
    have h1 := hs a List.mem_cons_self
    have h2 := few_of (l := l) (m := m.erase a) (List.nodup_cons.mp hn).2 fun x hx => by
      refine (List.mem_erase_of_ne ?_).mpr (hs x (List.mem_cons_of_mem _ hx))
      rintro rfl
      exact (List.nodup_cons.mp hn).1 hx
    rw [List.length_erase_of_mem h1] at h2
    have h3 := List.length_pos_of_mem h1
    rw [List.length_cons]
    omega
theorem one_let (sg w : List Nat) : (sg.any fun c => decide (S [c] = S w)) = letB sg w := by
  rw [Bool.eq_iff_iff, List.any_eq_true]
  constructor
  · rintro ⟨c, hc, e⟩
    have e2 := SX.S_inj (of_decide_eq_true e)
    subst e2
    exact decide_eq_true hc
  · intro h
    obtain ⟨c, rfl, hc⟩ := letB_one h
    exact ⟨c, hc, decide_eq_true rfl⟩
theorem inV_let (sg w : List Nat) : inV (.str (S w)) ((S sg).cps.toList.map fun c => V.str ⟨#[c]⟩) = letB sg w := by
  rw [← one_let]
  unfold inV
  show ((sg.toArray.toList.map fun c => V.str ⟨#[c]⟩).any fun y => eqV y (.str (S w))) = _
  rw [List.any_map, List.toList_toArray]
  congr 1
theorem flat_signs (x : Str) : (x.cps.toList.map fun c => V.str ⟨#[c]⟩).all flatV = true := by
  rw [List.all_map, List.all_eq_true]
  intro c _
  rfl
theorem SqL.kp {K : PySem.W.Frag} {H H' : Hp} {p : Addr} {xs : List V} (h : SqL K H p xs) (e : Same H H') : SqL K H' p xs := by
  rcases h with (h | ⟨o, h⟩) | h
  · exact Or.inl (Or.inl (e _ _ h))
  · exact Or.inl (Or.inr ⟨o, e _ _ h⟩)
  · exact Or.inr h
theorem eqv_emp (ds : List PyData) : PyData.eqv (.list ds) (.list []) = ds.isEmpty := by
  cases ds <;> rfl
theorem cutS_eq (l : List Nat) (lo hi : Option Int) : cutS (S l) lo hi = S ((l.drop (HT.sIx l.length 0 lo)).take (HT.sIx l.length l.length hi - HT.sIx l.length 0 lo)) := by
  unfold cutS
  rw [SX.S_len]
theorem cutS_to (l : List Nat) (k : Nat) : cutS (S l) none (some (k : Int)) = S (l.take k) := by
  rw [cutS_eq, HT.sIx_none, HT.sIx_nat, List.drop_zero, Nat.sub_zero]
  congr 1
  by_cases h : k ≤ l.length
  · rw [Nat.min_eq_left h]
  · rw [Nat.min_eq_right (by omega), List.take_of_length_le (Nat.le_refl _), List.take_of_length_le (by omega)]
theorem cutS_from (l : List Nat) (k : Nat) : cutS (S l) (some (k : Int)) none = S (l.drop k) := by
  rw [cutS_eq, HT.sIx_none, HT.sIx_nat]
  congr 1
  by_cases h : k ≤ l.length
  · rw [Nat.min_eq_left h, List.take_of_length_le (by rw [List.length_drop]; exact Nat.le_refl _)]
  · rw [Nat.min_eq_right (by omega), List.drop_of_length_le (Nat.le_refl _), List.drop_of_length_le (by omega), List.take_nil]
theorem shaped_gd {d : PyData} {w n : Nat} (g : Gd w n d) (h : n ≤ 64) : (d.canLay0 && decide (d.depth ≤ 64)) = true := by
  rw [g.cl, decide_eq_true (Nat.le_trans g.de h)]
  rfl
def sumL (ps : List (List Nat)) : Nat := (ps.map fun p => p.length + 1).sum
theorem sumL_app (a b : List (List Nat)) : sumL (a ++ b) = sumL a + sumL b := by
  unfold sumL
  rw [List.map_append, List.sum_append]
theorem sumL_one (p : List Nat) : sumL [p] = p.length + 1 := by
  unfold sumL
  simp
theorem sumL_cut (ps : List (List Nat)) (k : Nat) : sumL (ps.take k) + sumL (ps.drop k) = sumL ps := by
  rw [← sumL_app, List.take_append_drop]
theorem sumL_drop (ps : List (List Nat)) (k : Nat) : sumL (ps.drop (k + 1)) ≤ sumL (ps.drop k) := by
  by_cases h : k < ps.length
  · rw [List.drop_eq_getElem_cons h]
    unfold sumL
    rw [List.map_cons, List.sum_cons]
    omega
  · rw [List.drop_of_length_le (by omega), List.drop_of_length_le (by omega)]
    exact Nat.le_refl _
theorem sumL_set : ∀ (ps : List (List Nat)) (k : Nat) (w : List Nat), sumL (ps.set k w) ≤ sumL ps + (w.length + 1)
  | [], _, _ => Nat.zero_le _
  | p :: ps, 0, w => by
    show (w.length + 1) + sumL ps ≤ ((p.length + 1) + sumL ps) + (w.length + 1)
    omega
  | p :: ps, k + 1, w => by
    have ih := sumL_set ps k w
    show (p.length + 1) + sumL (ps.set k w) ≤ ((p.length + 1) + sumL ps) + (w.length + 1)
    omega
theorem joinL_le (c : Nat) (ps : List (List Nat)) : (TL.joinL [c] ps).length ≤ sumL ps := by
  by_cases h : ps = []
  · subst h
    exact Nat.zero_le _
  · have := join_len c ps h
    show _ ≤ (ps.map fun p => p.length + 1).sum
    omega
def LowLs (ps : List (List Nat)) : Prop := ∀ p ∈ ps, LowL p
theorem joinL_low {c : Nat} (hc : c < 128) {ps : List (List Nat)} (h : LowLs ps) : LowL (TL.joinL [c] ps) := by
  intro d hd
  rcases join_in c hd with rfl | ⟨p, hp, e⟩
  · exact hc
  · exact h p hp d e
theorem LowLs.app {a b : List (List Nat)} (h : LowLs a) (k : LowLs b) : LowLs (a ++ b) := fun p hp => (List.mem_append.mp hp).elim (h p) (k p)
theorem LowLs.take {a : List (List Nat)} (h : LowLs a) (n : Nat) : LowLs (a.take n) := fun p hp => h p (List.mem_of_mem_take hp)
theorem LowLs.drop {a : List (List Nat)} (h : LowLs a) (n : Nat) : LowLs (a.drop n) := fun p hp => h p (List.mem_of_mem_drop hp)
theorem LowLs.one {p : List Nat} (h : LowL p) : LowLs [p] := fun q hq => by rw [List.mem_singleton.mp hq]; exact h
theorem LowLs.set {a : List (List Nat)} {w : List Nat} (h : LowLs a) (k : Nat) (hw : LowL w) : LowLs (a.set k w) := fun p hp => (List.mem_or_eq_of_mem_set hp).elim (h p) fun e => by rw [e]; exact hw
theorem spl_low {c : Nat} {l : List Nat} (h : LowL l) : LowLs (spl c l) := fun p hp d hd => h d (spl_mem hp hd)
theorem join_bound (c : Nat) (ps : List (List Nat)) : ((ps.map S).map (·.length)).sum + (ps.map S).length * (S [c]).length = sumL ps := by
  have h1 : (S [c]).length = 1 := SX.S_len [c]
  rw [h1, List.length_map, Nat.mul_one]
  induction ps with
  | nil => rfl
  | cons p ps ih =>
    rw [List.map_cons, List.map_cons, List.sum_cons, SX.S_len, List.length_cons]
    show _ = (p.length + 1) + sumL ps
    omega
theorem cut_to (xs : List V) (k : Nat) : cutV xs none (some ((k : Nat) : Int)) = xs.take k := by
  unfold cutV
  rw [HT.sIx_none, HT.sIx_nat, List.drop_zero, Nat.sub_zero]
  by_cases h : k ≤ xs.length
  · rw [Nat.min_eq_left h]
  · rw [Nat.min_eq_right (by omega), List.take_of_length_le (Nat.le_refl _), List.take_of_length_le (by omega)]
abbrev txs (ps : List (List Nat)) : List V := ps.map fun l => V.str (S l)
theorem txs_to (ps : List (List Nat)) (k : Nat) : cutV (txs ps) none (some ((k : Nat) : Int)) = txs (ps.take k) := by rw [cut_to]; exact List.map_take.symm
theorem txs_from (ps : List (List Nat)) (k : Nat) : cutV (txs ps) (some ((k : Nat) : Int)) none = txs (ps.drop k) := by rw [cut_from]; exact List.map_drop.symm
theorem txs_at {ps : List (List Nat)} {k : Nat} (h : k < ps.length) : atI (txs ps) ((k : Nat) : Int) = some (.str (S ps[k])) := atI_nat (by rw [List.getElem?_map, List.getElem?_eq_getElem h]; rfl)
theorem joinW_in (sep : List Nat) : ∀ {ps : List (List Nat)} {d : Nat}, d ∈ TL.joinL sep ps → d ∈ sep ∨ ∃ p ∈ ps, d ∈ p
  | [], d, h => by cases h
  | [q], d, h => Or.inr ⟨q, List.mem_cons_self, h⟩
  | q :: q2 :: r, d, h => by
    have h : d ∈ q ++ (sep ++ TL.joinL sep (q2 :: r)) := h
    rcases List.mem_append.mp h with h | h
    · exact Or.inr ⟨q, List.mem_cons_self, h⟩
    rcases List.mem_append.mp h with h | h
    · exact Or.inl h
    · rcases joinW_in sep h with e | ⟨p, hp, e⟩
      · exact Or.inl e
      · exact Or.inr ⟨p, List.mem_cons_of_mem _ hp, e⟩
theorem kind_low {l : List Nat} (h : LowL l) : Builtin.Str.strKind (S l) = 1 := by
  unfold Builtin.Str.strKind
  rw [if_pos]
  rw [show (S l).cps = l.toArray from rfl, List.all_toArray]
  exact List.all_eq_true.mpr fun c hc => decide_eq_true (Nat.lt_trans (h c hc) (by decide))
theorem ixN_at {n j : Nat} (h : j < n) : ixN n (j : Int) = some j := by
  unfold ixN
  rw [if_pos (by omega), if_pos (by omega), Int.toNat_natCast]
theorem sumL_set_eq : ∀ {ps : List (List Nat)} {k : Nat} (h : k < ps.length) (w : List Nat), sumL (ps.set k w) + (ps[k]).length = sumL ps + w.length
  | p :: ps, 0, _, w => by
    show ((w.length + 1) + sumL ps) + p.length = ((p.length + 1) + sumL ps) + w.length
    omega
  | p :: ps, k + 1, h, w => by
    have ih := sumL_set_eq (ps := ps) (k := k) (by simpa using h) w
    show ((p.length + 1) + sumL (ps.set k w)) + (ps[k]'(by simpa using h)).length = ((p.length + 1) + sumL ps) + w.length
    omega
end Lw

namespace Lw
open PySem PySem.Spec PyProof.Rows L2 Mq
open SX (S)
/-! ### books -/
structure Fd where
  x : Nat
  y : Nat
  z : List Nat
def fdV (f : Fd) : List V := [.str (S [f.x]), .str (S [f.y]), .str (S f.z)]
def FdAt (K : PySem.W.Frag) (H : Hp) (v : V) (f : Fd) : Prop := ∃ b, v = .ref b ∧ SqT K H b (fdV f)
def fdOk (sg : List Nat) (f : Fd) : Prop := f.x ∈ sg ∧ f.y ∈ sg ∧ (f.z = [] ∨ ∃ c ∈ sg, f.z = [c])
structure SgOk (sg : List Nat) : Prop where
  pos : 0 < sg.length
  few : sg.length ≤ 10
  low : ∀ c ∈ sg, c < 128
  ok : lettersB sg = true
def spLetter : Sp := fun vs H Q _ => ∃ sg z : List Nat, vs = [.str (S sg), .str (S z)] ∧ z.length ≤ 1000 ∧ ((∃ c, z = [c] ∧ c ∈ sg ∧ Q (.bl true) H) ∨ (z = [] ∧ Q (.bl false) H))
def spFold (K : PySem.W.Frag) : Sp := fun vs H Q _ => ∃ (sg : List Nat) (v : V) (f : Fd), vs = [.str (S sg), v] ∧ FdAt K H v f ∧ fdOk sg f ∧ Q (.bl true) H
section
variable {P : Program} {w : World} {K : PySem.W.Frag} {mg : Str → Option Value} {base : Heap}
theorem ok_is_letter {f : Addr} {fd : FuncData} (F : Fun K "is_letter" "is_letter" s_is_letter f fd) (B : Blt mg) : FnOk P w K mg base CX0 1 f fd ["letters", "thing"] spLetter := by
  refine F.ok sc_is_letter (fun vs H Q E h => ?_) (fun cdv A outer s H vs Q E hr h => ?_)
  · obtain ⟨_, _, rfl, _⟩ := h
    rfl
  · obtain ⟨sg, z, rfl, hz, h⟩ := h
    refine ⟨_, pss_one (ps_ret (pe_and (pe_callB call_isi (by rfl) B.isi (by decide +kernel) (pa_cons (pv 1) (pa_cons (pe_bltn (v := .ty "str") (by rfl) B.str (by decide +kernel) rfl) pa_nil))) (pe_and (pe_cmpR op_eq (pe_callB call_len (by rfl) B.len (by decide +kernel) (pa_cons (pv 1) pa_nil)) pe_int (nomark _)) (pe_one (pe_cmpR op_in_sign (pv 1) (pv 0) rfl))))), ?_⟩
    refine ⟨_, rfl, _, .ty "str", _, _, true, rfl, .ty _, .base (.str _), kit_self, true, rfl, iteT ⟨_, rfl, _, _, rfl, len_S (by omega), rfl, _, rfl, ?_⟩⟩
    rcases h with ⟨c, rfl, hc, q⟩ | ⟨rfl, q⟩
    · refine ifT rfl ⟨_, rfl, _, rfl, c, S sg, rfl, rfl, ?_⟩
      rw [show decide (c ∈ (S sg).cps.toList) = true from decide_eq_true hc]
      exact q
    · exact ifF rfl q
theorem ok_is_fold {f fL : Addr} {fd fdL : FuncData} (F : Fun K "is_fold" "is_fold" s_is_fold f fd) (B : Blt mg)
    (FL : Fun K "is_letter" "is_letter" s_is_letter fL fdL) (gL : mg "is_letter" = some (.ref fL)) (bL : Binds K fdL ["letters", "thing"] []) : FnOk P w K mg base CX0 2 f fd ["letters", "thing"] (spFold K) := by
  have GL : FnOk P w K mg base CX0 1 fL fdL ["letters", "thing"] spLetter := ok_is_letter FL B
  refine F.ok sc_is_fold (fun vs H Q E h => ?_) (fun cdv A outer s H vs Q E hr h => ?_)
  · obtain ⟨_, _, _, rfl, _⟩ := h
    rfl
  · obtain ⟨sg, v, fo, rfl, ⟨b, rfl, hb⟩, ⟨h1, h2, h3⟩, q⟩ := h
    refine ⟨_, (pss_cons (ps_if (PW.pt (pw_or (pt_not (pt_val (pe_callB call_isi (by rfl) B.isi (by decide +kernel) (pa_cons (pv 1) (pa_cons (pe_bltn (v := .ty "tuple") (by rfl) B.tuple (by decide +kernel) rfl) pa_nil))))) (pw_or1 (pt_cmpR op_ne (pe_callB call_len (by rfl) B.len (by decide +kernel) (pa_cons (pv 1) pa_nil)) pe_int (nomark _))))) (pss_one (ps_ret pe_bl)) pss_nil)
      (pss_cons (ps_if (PW.pt (pw_or (pt_not (pt_val (pe_call GL (hr.mono (by decide)) (by rfl) gL FL.kp bL .nil pass0 (pa_cons (pv 0) (pa_cons (pe_ix ix_tup (pv 1) pe_int (fun _ _ => rfl)) pa_nil))))) (pw_or1 (pt_not (pt_val (pe_call GL (hr.mono (by decide)) (by rfl) gL FL.kp bL .nil pass0 (pa_cons (pv 0) (pa_cons (pe_ix ix_tup (pv 1) pe_int (fun _ _ => rfl)) pa_nil)))))))) (pss_one (ps_ret pe_bl)) pss_nil)
      (pss_one (ps_ret (pe_or (pe_call GL (hr.mono (by decide)) (by rfl) gL FL.kp bL .nil pass0 (pa_cons (pv 0) (pa_cons (pe_ix ix_tup (pv 1) pe_int (fun _ _ => rfl)) pa_nil))) (pe_one (pe_and (pe_callB call_isi (by rfl) B.isi (by decide +kernel) (pa_cons (pe_ix ix_tup (pv 1) pe_int (fun _ _ => rfl)) (pa_cons (pe_bltn (v := .ty "str") (by rfl) B.str (by decide +kernel) rfl) pa_nil))) (pe_one (pe_cmpR op_eq (pe_ix ix_tup (pv 1) pe_int (fun _ _ => rfl)) pe_str (nomark _)))))))))), ?_⟩
    have a0 : atI (fdV fo) 0 = some (.str (S [fo.x])) := atI_nat (j := 0) rfl
    have a1 : atI (fdV fo) 1 = some (.str (S [fo.y])) := atI_nat (j := 1) rfl
    have a2 : atI (fdV fo) 2 = some (.str (S fo.z)) := atI_nat (j := 2) rfl
    refine ⟨_, rfl, _, .ty "tuple", _, _, true, rfl, .ty _, ty_tup hb, kit_ty (by decide +kernel), true, rfl, ?_⟩
    refine ifF rfl ⟨_, rfl, _, _, rfl, len_tup hb, rfl, _, rfl, ifF rfl ?_⟩
    refine ⟨_, rfl, _, rfl, b, _, 0, _, rfl, rfl, hb, a0, sg, [fo.x], rfl, (by show 1 ≤ 1000; decide), Or.inl ⟨fo.x, rfl, h1, _, rfl, ?_⟩⟩
    refine ifF rfl ⟨_, rfl, _, rfl, b, _, 1, _, rfl, rfl, hb, a1, sg, [fo.y], rfl, (by show 1 ≤ 1000; decide), Or.inl ⟨fo.y, rfl, h2, _, rfl, ifF rfl ?_⟩⟩
    refine ⟨_, rfl, _, rfl, b, _, 2, _, rfl, rfl, hb, a2, sg, fo.z, rfl, ?_, ?_⟩
    · rcases h3 with h3 | ⟨c, _, h3⟩
      · rw [h3]
        exact Nat.zero_le _
      · rw [h3]
        show 1 ≤ 1000
        decide
    · rcases h3 with h3 | ⟨c, hc, h3⟩
      · refine Or.inr ⟨h3, _, rfl, ifF rfl ?_⟩
        refine ⟨_, rfl, b, _, 2, _, rfl, rfl, hb, a2, _, .ty "str", _, _, true, rfl, .ty _, .base (.str _), kit_self, true, rfl, ifT rfl ⟨_, rfl, b, _, 2, _, rfl, rfl, hb, a2, rfl, ?_⟩⟩
        rw [str_is_nil, decide_eq_true h3]
        exact q
      · exact Or.inl ⟨c, h3, hc, _, rfl, ifT rfl q⟩
end
end Lw

namespace Lw
open PySem PySem.Spec PyProof.Rows L2 Mq
open SX (S)
inductive FdAll (K : PySem.W.Frag) (H : Hp) : List V → List Fd → Prop
  | nil : FdAll K H [] []
  | cons {v : V} {f : Fd} {vs : List V} {fs : List Fd} : FdAt K H v f → FdAll K H vs fs → FdAll K H (v :: vs) (f :: fs)
theorem FdAt.kp {K : PySem.W.Frag} {H H' : Hp} {v : V} {f : Fd} (h : FdAt K H v f) (e : KpT K H H') : FdAt K H' v f := let ⟨a, x, y⟩ := h; ⟨a, x, e _ _ y⟩
theorem FdAll.kp {K : PySem.W.Frag} {H H' : Hp} (e : KpT K H H') : ∀ {vs : List V} {fs : List Fd}, FdAll K H vs fs → FdAll K H' vs fs
  | _, _, .nil => .nil
  | _, _, .cons a b => .cons (a.kp e) (FdAll.kp e b)
theorem FdAll.len {K : PySem.W.Frag} {H : Hp} : ∀ {vs : List V} {fs : List Fd}, FdAll K H vs fs → vs.length = fs.length
  | _, _, .nil => rfl
  | _, _, .cons a b => congrArg (· + 1) b.len
theorem FdAll.at {K : PySem.W.Frag} {H : Hp} : ∀ {vs : List V} {fs : List Fd} {i : Nat} {v : V}, FdAll K H vs fs → vs[i]? = some v → ∃ f, fs[i]? = some f ∧ FdAt K H v f
  | _, _, 0, _, .cons a b, h => ⟨_, rfl, by cases h; exact a⟩
  | _, _, i + 1, _, .cons a b, h => FdAll.at (i := i) b h
def keyF (f : Fd) : Str × Str := (S [f.x], S [f.y])
def tabF (fs : List Fd) : List (List Key × V) := fs.map fun f => ([Sum.inr (S [f.x]), Sum.inr (S [f.y])], V.str (S f.z))
/-- folds, as they have to be -/
structure FsOk (sg : List Nat) (fs : List Fd) : Prop where
  few : fs.length ≤ 200
  ok : ∀ f ∈ fs, fdOk sg f
  asc : ∀ i j, i < j → j < fs.length → ∀ f g, fs[i]? = some f → fs[j]? = some g → ltSS (keyF f) (keyF g) = true
def bkF (sg : List Nat) (fa ta : Addr) : List (Str × V) := [("letters", .str (S sg)), ("folds", .ref fa), ("table", .ref ta)]
def BkAt (H : Hp) (C r : Addr) (sg : List Nat) (fs : List Fd) (fa ta : Addr) : Prop := (∃ dx, H r = some (.ins C dx (bkF sg fa ta))) ∧ H ta = some (.dT (tabF fs))
structure BkC (K : PySem.W.Frag) (C : Addr) : Prop where
  cls : Cls K C
  nL : NoAttr K C "letters"
  nF : NoAttr K C "folds"
  nT : NoAttr K C "table"
def spBook (K : PySem.W.Frag) (C : Addr) : Sp := fun vs H Q _ => ∃ (r dx fa : Addr) (sg : List Nat) (fs : List Fd) (xs : List V), vs = [.ref r, .str (S sg), .ref fa] ∧
  H r = some (.ins C dx []) ∧ SqT K H fa xs ∧ FdAll K H xs fs ∧ FsOk sg fs ∧ SgOk sg ∧
  ∀ H' ta, BkAt H' C r sg fs fa ta → (∀ b o, H b = some o → b ≠ r → H' b = some o) → Q .non H'
theorem tab_snoc (fs : List Fd) (f : Fd) : tabF (fs ++ [f]) = tabF fs ++ [([Sum.inr (S [f.x]), Sum.inr (S [f.y])], V.str (S f.z))] := by
  unfold tabF
  rw [List.map_append]
  rfl
theorem putK_new {κ : Type} [DecidableEq κ] {kvs : List (κ × V)} {k : κ} {v : V} (h : ∀ p ∈ kvs, p.1 ≠ k) : putK kvs k v = kvs ++ [(k, v)] := by
  unfold putK
  rw [if_neg]
  intro z
  obtain ⟨p, hp, e⟩ := List.any_eq_true.mp z
  exact h p hp (of_decide_eq_true e)
theorem walk_enumT {K : PySem.W.Frag} {a : Addr} {xs : List V} : Walk (Iee K a) xs.length (fun H => SqT K H a xs) (YPair (fun i => some (.int (i : Nat))) (fun i => xs[i]?)) := by
  refine ⟨fun i _ hi q => ⟨xs, xs[i], q, by simp [hi]⟩, fun _ q => ⟨xs, q, Nat.le_refl _⟩, fun i H v H' _ q y => ?_⟩
  obtain ⟨T, x, h1, h2, h3, h4⟩ := y
  exact ⟨T, .int (i : Nat), x, h1, h2, h3, rfl, h4 xs q⟩
def aheadF (fs : List Fd) : Nat → Str × Str
  | 0 => ("", "")
  | i + 1 => match fs[i]? with
    | some f => keyF f
    | none => ("", "")
theorem ahead_lt {sg : List Nat} {fs : List Fd} (h : FsOk sg fs) {i : Nat} {f : Fd} (hf : fs[i]? = some f) : ltSS (aheadF fs i) (keyF f) = true := by
  have hi : i < fs.length := by
    rcases Nat.lt_or_ge i fs.length with h | h
    · exact h
    · rw [List.getElem?_eq_none h] at hf
      cases hf
  cases i with
  | zero =>
    have e : ltSS ("", "") (keyF f) = (decide (([] : List Nat) < [f.x]) || (!decide ([f.x] < ([] : List Nat)) && (decide (([] : List Nat) < [f.y]) || (!decide ([f.y] < ([] : List Nat)) && false)))) := rfl
    show ltSS ("", "") (keyF f) = true
    rw [e, decide_eq_true (show ([] : List Nat) < [f.x] from List.nil_lt_cons _ _)]
    rfl
  | succ i =>
    have e : fs[i]? = some fs[i] := List.getElem?_eq_getElem (by omega)
    show ltSS (match fs[i]? with | some f => keyF f | none => ("", "")) _ = true
    rw [e]
    exact h.asc i (i + 1) (by omega) hi _ _ e hf
theorem key_ne {sg : List Nat} {fs : List Fd} (h : FsOk sg fs) {i : Nat} {f : Fd} (hf : fs[i]? = some f) : ∀ p ∈ tabF (fs.take i), p.1 ≠ [Sum.inr (S [f.x]), Sum.inr (S [f.y])] := by
  intro p hp e
  have hi : i < fs.length := by
    rcases Nat.lt_or_ge i fs.length with h | h
    · exact h
    · rw [List.getElem?_eq_none h] at hf
      cases hf
  obtain ⟨g, hg, rfl⟩ := List.mem_map.mp hp
  obtain ⟨j, hj⟩ := List.mem_iff_getElem?.mp hg
  have hji : j < i := by
    rcases Nat.lt_or_ge j i with h | h
    · exact h
    · rw [List.getElem?_eq_none (by rw [List.length_take]; omega)] at hj
      cases hj
  rw [List.getElem?_take, if_pos hji] at hj
  have l := h.asc j i hji hi g f hj hf
  have e1 : keyF g = keyF f := by
    injection e with e1 e2
    injection e2 with e2 _
    have e1' : S [g.x] = S [f.x] := Sum.inr.inj e1
    have e2' : S [g.y] = S [f.y] := Sum.inr.inj e2
    exact Prod.ext e1' e2'
  rw [e1] at l
  have := (PyProof.Rows.listOrd PyProof.Rows.itemOrd).irrefl (txt2 (keyF f))
  have l' : (PyProof.Rows.listOrd PyProof.Rows.itemOrd).blt (txt2 (keyF f)) (txt2 (keyF f)) = true := l
  rw [this] at l'
  cases l'
section
variable {P : Program} {w : World} {K : PySem.W.Frag} {mg : Str → Option Value} {base : Heap} {C : Addr}
theorem ok_book {f fL fF : Addr} {fd fdL fdF : FuncData} (F : Fun K "__init__" "Book.__init__" s_Book___init__ f fd) (B : Blt mg) (R : BkC K C)
    (FL : Fun K "is_letters" "is_letters" s_is_letters fL fdL) (gL : mg "is_letters" = some (.ref fL)) (bL : Binds K fdL ["thing"] []) (GL : FnOk P w K mg base CX0 2 fL fdL ["thing"] (spLetters K))
    (FF : Fun K "is_fold" "is_fold" s_is_fold fF fdF) (gF : mg "is_fold" = some (.ref fF)) (bF : Binds K fdF ["letters", "thing"] []) (GF : FnOk P w K mg base CX0 2 fF fdF ["letters", "thing"] (spFold K)) :
    FnOk P w K mg base CX0 3 f fd ["self", "letters", "folds"] (spBook K C) := by
  refine F.ok sc_Book___init__ (fun vs H Q E h => ?_) (fun cdv A outer s H vs Q E hr h => ?_)
  · obtain ⟨_, _, _, _, _, _, rfl, _⟩ := h
    rfl
  · obtain ⟨r, dx, fa, sg, fs, xs, rfl, hr0, hfa, hall, hfs, hs, q⟩ := h
    have hu : (A.deeper (envOfC "Book.__init__" (defScope s_Book___init__) s.heap.objs.size f cdv)).units + 64 < cLine := by
      have := hr.units
      omega
    have hu0 : (A.deeper (envOfC "Book.__init__" (defScope s_Book___init__) s.heap.objs.size f cdv)).units < cLine := by omega
    have hu1 : (A.deeper (envOfC "Book.__init__" (defScope s_Book___init__) s.heap.objs.size f cdv)).units + 1 < cLine := by omega
    refine ⟨_, (pss_cons (ps_if (pt_not (pt_val (pe_call GL (hr.mono (by decide)) (by rfl) gL FL.kp bL .nil pass0 (pa_cons (pv 1) pa_nil)))) (pss_one ps_dead) pss_nil)
      (pss_cons (ps_if (pt_not (pt_val (pe_callB call_isi (by rfl) B.isi (by decide +kernel) (pa_cons (pv 2) (pa_cons (pe_bltn (v := .ty "tuple") (by rfl) B.tuple (by decide +kernel) rfl) pa_nil))))) (pss_one ps_dead) pss_nil)
      (pss_cons (ps_set (i := 3) sc_Book___init__.nd rfl (Or.inl rfl) pe_dnewT)
      (pss_cons (ps_set (i := 4) sc_Book___init__.nd rfl (Or.inl rfl) (pe_tup (pa_cons pe_str (pa_cons pe_str pa_nil))))
      (pss_cons (ps_for PassesOwn.never rfl (pi_enumT (by rfl) B.enumerate (pa_cons (pv 2) pa_nil)) (pg_tup rfl (pgs_cons (pg_name (i := 5) sc_Book___init__.nd rfl (Or.inl rfl)) (pgs_cons (pg_name (i := 6) sc_Book___init__.nd rfl (Or.inl rfl)) pgs_nil)))
        (pss_cons (ps_if (PW.pt (pw_or (pt_not (pt_val (pe_call GF (hr.mono (by decide)) (by rfl) gF FF.kp bF .nil pass0 (pa_cons (pv 1) (pa_cons (pv 6) pa_nil))))) (pw_or1 (pt_cmpR (op_leSS hu0) (pe_slice sl_tup (pv 6) po_none (po_some pe_int)) (pv 4) (nomark _))))) (pss_one ps_dead) pss_nil)
        (pss_cons (ps_set (i := 4) sc_Book___init__.nd rfl (Or.inl rfl) (pe_slice sl_tup (pv 6) po_none (po_some pe_int)))
        (pss_one (ps_dput hu1 (pv 3) (pv 4) (pe_ix ix_tup (pv 6) pe_int (fun _ _ => rfl)) rfl)))))
      (pss_cons (ps_fld (pv 0) (pv 1) rfl)
      (pss_cons (ps_fld (pv 0) (pv 2) rfl)
      (pss_one (ps_fld (pv 0) (pv 3) rfl))))))))), ?_⟩
    have hl : xs.length = fs.length := hall.len
    refine ⟨_, rfl, _, rfl, Or.inl ⟨sg, rfl, by have := hs.few; omega, fun H1 s1 => ⟨_, rfl, ifF (by rw [hs.ok]; rfl) ?_⟩⟩⟩
    refine ⟨_, rfl, _, .ty "tuple", _, _, true, rfl, .ty _, ty_tup (Same.tup s1 hfa), kit_ty (by decide +kernel), true, rfl, iteF ?_⟩
    refine fun ta hta => ?_
    have s2 : Same H (upd H1 ta (.dT [])) := s1.trans (same_new hta)
    have ht2 : upd H1 ta (.dT []) ta = some (.dT (tabF [])) := upd_same
    have hnta : H ta = none := s1.free hta
    generalize upd H1 ta (.dT []) = H2 at s2 ht2 ⊢
    refine ⟨sz_le (n := 2) (by decide), fun p0 hp0 => ?_⟩
    have s3 : Same H (upd H2 p0 (.tup [V.str "", V.str ""])) := s2.trans (same_new hp0)
    have ht3 := (same_new (o := HO.tup [V.str "", V.str ""]) hp0) _ _ ht2
    have hp3 : upd H2 p0 (.tup [V.str "", V.str ""]) p0 = some (.tup [V.str "", V.str ""]) := upd_same
    generalize upd H2 p0 (.tup [V.str "", V.str ""]) = H3 at s3 ht3 hp3 ⊢
    refine ⟨_, rfl, fa, xs, rfl, Same.tup s3 hfa, ?_⟩
    refine for_it (walk_enumT (K := K) (a := fa) (xs := xs)) (fun i σ H' => Same H H' ∧ H' ta = some (.dT (tabF (fs.take i))) ∧ ∃ pa o5 o6, H' pa = some (.tup [.str (aheadF fs i).1, .str (aheadF fs i).2]) ∧ σ = [some (.ref r), some (.str (S sg)), some (.ref fa), some (.ref ta), some (.ref pa), o5, o6])
      ⟨s3, ht3, p0, _, _, hp3, rfl⟩ (fun i σ H' hi p => Same.tup p.1 hfa) ?_ ?_
    · rintro i x σ H4 H5 hi ⟨s4, ht4, pa, o5, o6, hpa, rfl⟩ ⟨T, y1, y2, rfl, hT, rfl, hy1, hy2⟩
      cases hy1
      obtain ⟨f, hf, hat⟩ := hall.at hy2
      have s5 := same_new (o := HO.tup [V.int (i : Nat), y2]) hT
      have t5 := s4.trans s5
      have ht5 := s5 _ _ ht4
      have hpa5 := s5 _ _ hpa
      refine ⟨T, _, rfl, Or.inl (Or.inl upd_same), rfl, _, _, rfl, _, _, rfl, rfl, ?_⟩
      generalize upd H4 T (.tup [V.int (i : Nat), y2]) = H5 at t5 ht5 hpa5 ⊢
      have hat5 := hat.kp (KpT.same t5)
      refine ⟨_, rfl, _, rfl, sg, y2, f, rfl, hat5, hfs.ok f (List.mem_of_getElem? hf), _, rfl, ifF rfl ?_⟩
      obtain ⟨b, rfl, hb⟩ := hat5
      have ecut : cutV (fdV f) none (some 2) = [V.str (S [f.x]), V.str (S [f.y])] := rfl
      refine ⟨_, rfl, 2, rfl, b, _, rfl, hb, (fun z => absurd z.2 (by show ¬ 2 = 3; decide)), fun p1 hp1 => ?_⟩
      rw [ecut]
      have s6 := same_new (o := HO.tup [V.str (S [f.x]), V.str (S [f.y])]) hp1
      refine ⟨_, rfl, p1, pa, keyF f, aheadF fs i, rfl, rfl, Or.inl (Or.inl upd_same), Or.inl (Or.inl (s6 _ _ hpa5)), _, rfl, ?_⟩
      rw [le_of_lt (ahead_lt hfs hf)]
      refine ifF rfl ?_
      have t6 := t5.trans s6
      have ht6 := s6 _ _ ht5
      have hb6 := Same.tup s6 hb
      generalize upd H5 p1 (.tup [V.str (S [f.x]), V.str (S [f.y])]) = H6 at t6 ht6 hb6 ⊢
      refine ⟨_, rfl, 2, rfl, b, _, rfl, hb6, (fun z => absurd z.2 (by show ¬ 2 = 3; decide)), fun p2 hp2 => ?_⟩
      rw [ecut]
      have s7 := same_new (o := HO.tup [V.str (S [f.x]), V.str (S [f.y])]) hp2
      have t7 := t6.trans s7
      have ht7 := s7 _ _ ht6
      have hb7 := Same.tup s7 hb6
      have hp7 : upd H6 p2 (.tup [V.str (S [f.x]), V.str (S [f.y])]) p2 = some (.tup [V.str (S [f.x]), V.str (S [f.y])]) := upd_same
      generalize upd H6 p2 (.tup [V.str (S [f.x]), V.str (S [f.y])]) = H7 at t7 ht7 hb7 hp7 ⊢
      have hlen : (tabF (fs.take i)).length < sizeLine := by
        unfold tabF
        rw [List.length_map, List.length_take]
        have := hfs.few
        exact sz_lt (by omega)
      have hput : putK (tabF (fs.take i)) [Sum.inr (S [f.x]), Sum.inr (S [f.y])] (V.str (S f.z)) = tabF (fs.take (i + 1)) := by
        rw [putK_new (key_ne hfs hf), List.take_add_one, hf]
        exact (tab_snoc _ f).symm
      refine ⟨_, rfl, b, _, 2, .str (S f.z), rfl, rfl, hb7, atI_nat (j := 2) rfl, _, rfl, _, rfl, ta, upd H7 ta (.dT (tabF (fs.take (i + 1)))), rfl, Or.inr ⟨tabF (fs.take i), [Sum.inr (S [f.x]), Sum.inr (S [f.y])], p2, ht7, rfl, hp7, hlen, by rw [hput]⟩, ?_⟩
      have hne : p2 ≠ ta := by
        rintro rfl
        rw [hp7] at ht7
        cases ht7
      refine ⟨fun b2 o2 e2 => ?_, upd_same, p2, _, _, (upd_ne hne).trans ?_, rfl⟩
      · rw [upd_ne (ne_of_none e2 hnta)]
        exact t7 b2 o2 e2
      · have e3 : aheadF fs (i + 1) = keyF f := by
          show (match fs[i]? with | some f => keyF f | none => ("", "")) = _
          rw [hf]
        rw [e3]
        exact hp7
    · rintro σ H4 ⟨s4, ht4, pa, o5, o6, hpa, rfl⟩
      rw [hl, List.take_length] at ht4
      have h4 := s4 _ _ hr0
      refine ⟨_, rfl, _, rfl, r, C, dx, [], rfl, h4, R.cls, R.nL, (by show 0 < 1000; decide), ?_⟩
      refine ⟨_, rfl, _, rfl, r, C, dx, _, rfl, upd_same, R.cls, R.nF, (by show 1 < 1000; decide), ?_⟩
      refine ⟨_, rfl, _, rfl, r, C, dx, _, rfl, upd_same, R.cls, R.nT, (by show 2 < 1000; decide), ?_⟩
      have hrt : ta ≠ r := by
        rintro rfl
        rw [hr0] at hnta
        cases hnta
      refine q _ ta ⟨⟨dx, upd_same.trans ?_⟩, (upd_ne hrt).trans ((upd_ne hrt).trans ((upd_ne hrt).trans ht4))⟩ (fun b o e hb => ?_)
      · exact congrArg (fun z => some (HO.ins C dx z)) rfl
      · rw [upd_ne hb, upd_ne hb, upd_ne hb]
        exact s4 b o e
end
end Lw

namespace Lw
open PySem PySem.Spec PyProof.Rows L2 Mq
open SX (S)
def WebGood (sg : List Nat) (v : V) (l : List Nat) : Prop := v = .str (S l) ∧ wordOk sg l
def WebBad (K : PySem.W.Frag) (H : Hp) (sg : List Nat) (v : V) : Prop := (∃ l, v = .str (S l) ∧ l.length ≤ 1000 ∧ allB l sg = false) ∨ NoStr K H v
def spCheck (K : PySem.W.Frag) (CW : Addr) : Sp := fun vs H Q E => ∃ (sg : List Nat) (v : V), vs = [.str (S sg), v] ∧
  ((∃ l, WebGood sg v l ∧ ∀ H', Same H H' → Q .non H') ∨ (WebBad K H sg v ∧ ∀ H' d, Same H H' → H' d = none → E (.ref CW) (some d) (upd H' d (.xd [("thing", v)]))))
/-! ### letters laid -/
def leftM (fs : List Fd) (x y : Nat) : Option (List Nat) := (fs.find? fun f => decide (f.x = x) && decide (f.y = y)).map (·.z)
def laidM (fs : List Fd) (w : List Nat) (y : Nat) : List Nat :=
  match w.getLast? with
  | .none => w ++ [y]
  | .some x => match leftM fs x y with
    | .none => w ++ [y]
    | .some z => w.dropLast ++ z
def optZ : Option (List Nat) → V
  | .none => .non
  | .some z => .str (S z)
theorem tab_val (fs : List Fd) (x y : Nat) : (valV (tabF fs) [Sum.inr (S [x]), Sum.inr (S [y])]).getD .non = optZ (leftM fs x y) := by
  unfold valV leftM tabF
  induction fs with
  | nil => rfl
  | cons f fs ih =>
    have e : decide (([Sum.inr (S [f.x]), Sum.inr (S [f.y])] : List Key) = [Sum.inr (S [x]), Sum.inr (S [y])]) = (decide (f.x = x) && decide (f.y = y)) := by
      rw [← Bool.decide_and]
      refine decide_eq_decide.mpr ⟨fun h => ?_, fun h => by rw [h.1, h.2]⟩
      injection h with h1 h2
      injection h2 with h2 _
      exact ⟨S_one.mp (Sum.inr.inj h1), S_one.mp (Sum.inr.inj h2)⟩
    rw [List.map_cons, List.find?_cons, List.find?_cons]
    show (Option.map _ (match decide (([Sum.inr (S [f.x]), Sum.inr (S [f.y])] : List Key) = [Sum.inr (S [x]), Sum.inr (S [y])]) with | true => _ | false => _)).getD V.non = _
    rw [e]
    cases decide (f.x = x) && decide (f.y = y) with
    | true => rfl
    | false => exact ih
def spLeft (C : Addr) : Sp := fun vs H Q _ => ∃ (r fa ta : Addr) (sg : List Nat) (fs : List Fd) (x y : Nat), vs = [.ref r, .str (S [x]), .str (S [y])] ∧ BkAt H C r sg fs fa ta ∧ ∀ H', Same H H' → Q (optZ (leftM fs x y)) H'
def spBehind (C : Addr) : Sp := fun vs H Q _ => ∃ (r fa ta : Addr) (sg w : List Nat) (fs : List Fd) (y : Nat), vs = [.ref r, .str (S w), .str (S [y])] ∧ BkAt H C r sg fs fa ta ∧ FsOk sg fs ∧ w.length ≤ 90000 ∧ ∀ H', Same H H' → Q (.str (S (laidM fs w y))) H'
section
variable {P : Program} {w : World} {K : PySem.W.Frag} {mg : Str → Option Value} {base : Heap} {C CW : Addr}
theorem ok_check_web {f fW fB : Addr} {fd fdW : FuncData} (F : Fun K "check_web" "check_web" s_check_web f fd) (B : Blt mg)
    (FW : Fun K "is_web" "is_web" s_is_web fW fdW) (gW : mg "is_web" = some (.ref fW)) (bW : Binds K fdW ["letters", "thing"] [])
    (GW : FnOk P w K mg base CX0 2 fW fdW ["letters", "thing"] (spWord K)) (T : MqE_thing.Txt K mg "BadWeb" "BadWeb.__init__" CW fB) :
    FnOk P w K mg base (L2.CX P w) 3 f fd ["letters", "thing"] (spCheck K CW) := by
  refine F.okX sc_check_web (fun vs H Q E h => ?_) (fun cdv A outer s H vs Q E hr h => ?_)
  · obtain ⟨_, _, rfl, _⟩ := h
    rfl
  · obtain ⟨sg, v, rfl, h⟩ := h
    refine ⟨_, (pss_one (ps_if (pt_not (pt_val (pe_call GW (hr.mono (by decide)) (by rfl) gW FW.kp bW .nil pass0 (pa_cons (pv 0) (pa_cons (pv 1) pa_nil))))) (pss_one (MqE_thing.ps_raise rfl T hr (takes_of rfl rfl rfl rfl) (pa_cons (pv 1) pa_nil))) pss_nil)), ?_⟩
    refine ⟨_, rfl, _, rfl, sg, v, rfl, ?_⟩
    rcases h with ⟨l, hg, q⟩ | ⟨hb, q⟩
    · refine Or.inl ⟨l, hg.1, by have := hg.2.2; omega, fun H1 s1 => ⟨_, rfl, ?_⟩⟩
      rw [allB_of hg.2.1]
      exact ifF rfl (q H1 s1)
    · have raise : ∀ H1, Same H H1 → (∃ v', [v] = [v'] ∧ ∀ d, H1 d = none → E (.ref CW) (some d) (upd H1 d (.xd [("thing", v')]))) := fun H1 s1 => ⟨v, rfl, fun d hd => q H1 d s1 hd⟩
      rcases hb with ⟨l, hv, hl, ha⟩ | hn
      · refine Or.inl ⟨l, hv, by omega, fun H1 s1 => ⟨_, rfl, ?_⟩⟩
        rw [ha]
        exact ifT rfl ⟨_, rfl, raise H1 s1⟩
      · refine Or.inr ⟨hn, fun H1 s1 => ⟨_, rfl, ifT rfl ⟨_, rfl, raise H1 s1⟩⟩⟩
theorem BkAt.same {H H' : Hp} {r fa ta : Addr} {sg : List Nat} {fs : List Fd} (h : BkAt H C r sg fs fa ta) (e : Same H H') : BkAt H' C r sg fs fa ta := let ⟨⟨d, x⟩, y⟩ := h; ⟨⟨d, e _ _ x⟩, e _ _ y⟩
theorem ok_left {f : Addr} {fd : FuncData} (F : Fun K "left_of" "Book.left_of" s_Book_left_of f fd) (R : BkC K C) : FnOk P w K mg base CX0 1 f fd ["self", "last", "laid"] (spLeft C) := by
  refine F.ok sc_Book_left_of (fun vs H Q E h => ?_) (fun cdv A outer s H vs Q E hr h => ?_)
  · obtain ⟨_, _, _, _, _, _, _, rfl, _⟩ := h
    rfl
  · obtain ⟨r, fa, ta, sg, fs, x, y, rfl, ⟨⟨dx, h1⟩, h2⟩, q⟩ := h
    have hu1 : (A.deeper (envOfC "Book.left_of" (defScope s_Book_left_of) s.heap.objs.size f cdv)).units + 1 < cLine := by
      have := hr.units
      omega
    refine ⟨_, pss_one (ps_ret (pe_dget1 hu1 (pe_fld (pv 0) rfl) (pe_tup (pa_cons (pv 1) (pa_cons (pv 2) pa_nil))) ⟨rfl, rfl, rfl, rfl⟩)), ?_⟩
    refine ⟨_, rfl, r, C, dx, _, _, rfl, h1, R.cls, R.nT, rfl, ta, rfl, ?_, _, rfl, _, rfl, sz_le (n := 2) (by decide), fun p hp => ?_⟩
    · exact Or.inr ⟨_, .inl h2⟩
    have s1 := same_new (o := HO.tup [V.str (S [x]), V.str (S [y])]) hp
    refine ⟨_, DGet.t (k := [Sum.inr (S [x]), Sum.inr (S [y])]) (s1 _ _ h2) upd_same, ?_⟩
    rw [tab_val]
    exact q _ s1
theorem cx0_at {X : Cx} {σ : L2.St} {E : XK} : PassesAt CX0 X σ E := fun _ _ _ _ _ _ z => z.elim
theorem left_len {sg : List Nat} {fs : List Fd} (h : FsOk sg fs) {x y : Nat} {z : List Nat} (e : leftM fs x y = .some z) : z.length ≤ 1 := by
  unfold leftM at e
  cases hf : fs.find? fun f => decide (f.x = x) && decide (f.y = y) with
  | none => rw [hf] at e; cases e
  | some f =>
    rw [hf] at e
    cases e
    rcases (h.ok f (List.mem_of_find?_eq_some hf)).2.2 with h1 | ⟨c, _, h1⟩
    · show f.z.length ≤ 1
      rw [h1]
      decide
    · show f.z.length ≤ 1
      rw [h1]
      exact Nat.le_refl 1
theorem ok_behind {f fL : Addr} {fd fdL : FuncData} (F : Fun K "laid_behind" "laid_behind" s_laid_behind f fd) (R : BkC K C)
    (FL : Fun K "left_of" "Book.left_of" s_Book_left_of fL fdL) (mL : Meth K C "left_of" fL) (bL : Binds K fdL ["self", "last", "laid"] []) : FnOk P w K mg base CX0 2 f fd ["book", "web", "letter"] (spBehind C) := by
  have GL : FnOk P w K mg base CX0 1 fL fdL ["self", "last", "laid"] (spLeft C) := ok_left FL R
  refine F.ok sc_laid_behind (fun vs H Q E h => ?_) (fun cdv A outer s H vs Q E hr h => ?_)
  · obtain ⟨_, _, _, _, _, _, _, rfl, _⟩ := h
    rfl
  · obtain ⟨r, fa, ta, sg, l, fs, y, rfl, hb, hfs, hl, q⟩ := h
    have hr1 : Room 1 (A.deeper (envOfC "laid_behind" (defScope s_laid_behind) s.heap.objs.size f cdv)) := hr
    refine ⟨_, (pss_cons (ps_set (i := 3) sc_laid_behind.nd rfl (Or.inl rfl) (pe_ifExp (pt_truth (pv 1) (by intro _; rfl)) (pe_methT (E := fun _ _ _ _ => False) (pv 0) R.cls mL GL hr1 bL (fun _ => cx0_at) (pa_cons (pe_ix ix_str (pv 1) (pe_un un_neg pe_int) (fun _ _ => rfl)) (pa_cons (pv 2) pa_nil))) pe_non))
      (pss_one (ps_ret (pe_ifExp (pt_cmpR op_isN (pv 3) pe_non (nomark _)) (pe_op op_add_str (pv 1) (pv 2)) (pe_op op_add_str (pe_slice C8.sl_txt (pv 1) po_none (po_some (pe_un un_neg pe_int))) (pv 3)))))), ?_⟩
    obtain ⟨⟨dx, h1⟩, h2⟩ := hb
    have hlz : (S l).length ≤ sizeLine := by
      rw [SX.S_len]
      exact sz_le (by omega)
    have hadd : ∀ H', Same H H' → laidM fs l y = l ++ [y] → (∃ i j : Str, V.str (S l) = .str i ∧ V.str (S [y]) = .str j ∧ i.length + j.length ≤ sizeLine ∧ Q (.str (i ++ j)) H') := by
      intro H' s' e
      refine ⟨S l, S [y], rfl, rfl, ?_, ?_⟩
      · rw [SX.S_len, SX.S_len]
        exact sz_le (by show l.length + 1 ≤ _; omega)
      · rw [SX.S_cat, ← e]
        exact q H' s'
    refine ⟨_, rfl, ((S l).length : Int) != 0, ⟨hlz, rfl⟩, ?_⟩
    rcases List.eq_nil_or_concat l with rfl | ⟨u, x, rfl⟩
    · refine ifF (by decide) ?_
      refine ⟨_, rfl, rfl, _, rfl, ifT rfl ⟨_, rfl, _, rfl, hadd H (Same.refl H) rfl⟩⟩
    · rw [List.concat_eq_append] at *
      have hn : (((S (u ++ [x])).length : Int) != 0) = true := by
        rw [SX.S_len, List.length_append]
        simp
        omega
      have hlast : laidM fs (u ++ [x]) y = (match leftM fs x y with | .none => u ++ [x] ++ [y] | .some z => u ++ z) := by
        unfold laidM
        rw [List.getLast?_concat, List.dropLast_concat]
      refine ifT hn ?_
      refine ⟨_, rfl, r, dx, _, rfl, h1, rfl, _, rfl, _, rfl, ?_⟩
      refine ⟨S (u ++ [x]), -1, x, rfl, rfl, hlz, atI_last u x, _, rfl, r, fa, ta, sg, fs, x, y, rfl, ⟨⟨dx, h1⟩, h2⟩, fun H1 s1 => ?_⟩
      cases e : leftM fs x y with
      | none =>
        rw [e] at hlast
        exact ⟨_, rfl, rfl, _, rfl, ifT rfl ⟨_, rfl, _, rfl, hadd H1 s1 hlast⟩⟩
      | some z =>
        rw [e] at hlast
        have hz := left_len hfs e
        refine ⟨_, rfl, rfl, _, rfl, ifF rfl ⟨_, rfl, _, rfl, _, rfl, S (u ++ [x]), rfl, hlz, ?_⟩⟩
        rw [show Txt.slice (S (u ++ [x])) none (some (-1)) = S u from SX.butlast_snoc u x]
        refine ⟨_, rfl, S u, S z, rfl, rfl, ?_, ?_⟩
        · rw [SX.S_len, SX.S_len]
          rw [List.length_append] at hl
          exact sz_le (by omega)
        · rw [SX.S_cat]
          have q1 := q H1 s1
          rw [hlast] at q1
          exact q1
end
end Lw

namespace Mq
open PySem PySem.Spec PyProof.Rows L2
open SX (S)
/-! ### data in bounds: what is cut, joined, put otherwise stays in bounds -/
mutual
def lowD : PyData → Bool
  | .str x => x.cps.toList.all fun c => decide (c < 128)
  | .list xs => lowAll xs
  | .tuple xs => lowAll xs
  | .dict kvs => kvs.isEmpty
  | _ => true
def lowAll : List PyData → Bool
  | [] => true
  | d :: ds => lowD d && lowAll ds
end
structure OkD (w n : Nat) (d : PyData) : Prop where
  gs : Gs w n d
  lo : lowD d = true
structure LsOk (w n : Nat) (ds : List PyData) : Prop where
  sh : PyData.showableAll ds = true
  de : PyData.depthAll ds ≤ n
  we : PyData.weightAll ds ≤ w
  le : PyData.leavesShortAll 60 ds = true
  lo : lowAll ds = true
theorem OkD.mono {w n w' n' : Nat} {d : PyData} (h : OkD w n d) (hw : w ≤ w') (hn : n ≤ n') : OkD w' n' d := ⟨h.gs.mono hw hn, h.lo⟩
theorem LsOk.mono {w n w' n' : Nat} {d : List PyData} (h : LsOk w n d) (hw : w ≤ w') (hn : n ≤ n') : LsOk w' n' d := ⟨h.sh, Nat.le_trans h.de hn, Nat.le_trans h.we hw, h.le, h.lo⟩
theorem LsOk.tup {w n : Nat} {ds : List PyData} (h : LsOk w n ds) : OkD w (n + 1) (.tuple ds) := ⟨⟨h.sh, Nat.succ_le_succ h.de, h.we, h.le⟩, h.lo⟩
theorem LsOk.lst {w n : Nat} {ds : List PyData} (h : LsOk w n ds) : OkD w (n + 1) (.list ds) := ⟨⟨h.sh, Nat.succ_le_succ h.de, h.we, h.le⟩, h.lo⟩
theorem OkD.tup {w n : Nat} {ds : List PyData} (h : OkD w n (.tuple ds)) : ∃ m, n = m + 1 ∧ LsOk w m ds := by
  have h1 : PyData.depthAll ds + 1 ≤ n := h.gs.de
  exact ⟨n - 1, by omega, ⟨h.gs.sh, by omega, h.gs.we, h.gs.le, h.lo⟩⟩
theorem LsOk.nil {w n : Nat} : LsOk w n [] := ⟨rfl, Nat.zero_le _, Nat.zero_le _, rfl, rfl⟩
theorem LsOk.cons {w v n : Nat} {d : PyData} {ds : List PyData} (h : OkD w n d) (k : LsOk v n ds) : LsOk (w + 1 + v) n (d :: ds) := by
  refine ⟨?_, Nat.max_le.mpr ⟨h.gs.de, k.de⟩, ?_, ?_, ?_⟩
  · show (d.showable && PyData.showableAll ds) = true
    rw [h.gs.sh, k.sh]
    rfl
  · show d.weight + 1 + PyData.weightAll ds ≤ _
    have := h.gs.we
    have := k.we
    omega
  · show (d.leavesShort 60 && PyData.leavesShortAll 60 ds) = true
    rw [h.gs.le, k.le]
    rfl
  · show (lowD d && lowAll ds) = true
    rw [h.lo, k.lo]
    rfl
theorem LsOk.uncons {w n : Nat} {d : PyData} {ds : List PyData} (h : LsOk w n (d :: ds)) : OkD d.weight n d ∧ LsOk (PyData.weightAll ds) n ds ∧ d.weight + 1 + PyData.weightAll ds ≤ w := by
  have h1 : (d.showable && PyData.showableAll ds) = true := h.sh
  have h2 : max d.depth (PyData.depthAll ds) ≤ n := h.de
  have h3 : (d.leavesShort 60 && PyData.leavesShortAll 60 ds) = true := h.le
  have h4 : (lowD d && lowAll ds) = true := h.lo
  have h5 : d.weight + 1 + PyData.weightAll ds ≤ w := h.we
  rw [Bool.and_eq_true] at h1 h3 h4
  exact ⟨⟨⟨h1.1, Nat.le_trans (Nat.le_max_left _ _) h2, Nat.le_refl _, h3.1⟩, h4.1⟩, ⟨h1.2, Nat.le_trans (Nat.le_max_right _ _) h2, Nat.le_refl _, h3.2, h4.2⟩, h5⟩
theorem LsOk.mem {w n : Nat} : ∀ {ds : List PyData} {d : PyData}, LsOk w n ds → d ∈ ds → OkD w n d
  | _ :: _, _, h, hm => by
    obtain ⟨a, b, c⟩ := h.uncons
    rcases List.mem_cons.mp hm with rfl | hm
    · exact a.mono (by omega) (Nat.le_refl _)
    · exact LsOk.mem (b.mono (by omega) (Nat.le_refl _)) hm
theorem LsOk.len {w n : Nat} : ∀ {ds : List PyData}, LsOk w n ds → ds.length ≤ w
  | [], _ => Nat.zero_le _
  | d :: ds, h => by
    obtain ⟨a, b, c⟩ := h.uncons
    have := b.len
    rw [List.length_cons]
    omega
theorem LsOk.app {w v n : Nat} : ∀ {ds es : List PyData}, LsOk w n ds → LsOk v n es → LsOk (w + v) n (ds ++ es)
  | [], es, _, k => k.mono (Nat.le_add_left _ _) (Nat.le_refl _)
  | d :: ds, es, h, k => by
    obtain ⟨a, b, c⟩ := h.uncons
    exact (LsOk.cons a (b.app k)).mono (by omega) (Nat.le_refl _)
theorem weight_app : ∀ ds es : List PyData, PyData.weightAll (ds ++ es) = PyData.weightAll ds + PyData.weightAll es
  | [], es => (Nat.zero_add _).symm
  | d :: ds, es => by
    show d.weight + 1 + PyData.weightAll (ds ++ es) = d.weight + 1 + PyData.weightAll ds + PyData.weightAll es
    rw [weight_app ds es]
    omega
theorem LsOk.sub {n : Nat} : ∀ {ds es : List PyData} {w : Nat}, es.Sublist ds → LsOk w n ds → LsOk w n es
  | _, _, _, .slnil, h => h
  | _, _, _, .cons a s, h => by
    obtain ⟨_, b, c⟩ := h.uncons
    exact LsOk.sub s (b.mono (by omega) (Nat.le_refl _))
  | _, _, _, .cons₂ a s, h => by
    obtain ⟨a, b, c⟩ := h.uncons
    exact (LsOk.cons a (LsOk.sub s b)).mono (by omega) (Nat.le_refl _)
theorem LsOk.rev {n : Nat} : ∀ {ds : List PyData} {w : Nat}, LsOk w n ds → LsOk w n ds.reverse
  | [], _, h => h
  | d :: ds, w, h => by
    obtain ⟨a, b, c⟩ := h.uncons
    rw [List.reverse_cons]
    exact (b.rev.app (LsOk.cons a (LsOk.nil (w := 0)))).mono (by omega) (Nat.le_refl _)
theorem LsOk.exact {w n : Nat} {ds : List PyData} (h : LsOk w n ds) : LsOk (PyData.weightAll ds) n ds := ⟨h.sh, h.de, Nat.le_refl _, h.le, h.lo⟩
theorem OkD.exact {w n : Nat} {d : PyData} (h : OkD w n d) : OkD d.weight n d := ⟨⟨h.gs.sh, h.gs.de, Nat.le_refl _, h.gs.le⟩, h.lo⟩
theorem OkD.text {w n : Nat} {x : Str} (h : OkD w n (.str x)) : x.cps.toList.length ≤ w ∧ ∀ c ∈ x.cps.toList, c < 128 := by
  refine ⟨?_, fun c hc => ?_⟩
  · have : x.cps.size ≤ w := h.gs.we
    simpa using this
  · have h1 : (x.cps.toList.all fun c => decide (c < 128)) = true := h.lo
    exact of_decide_eq_true (List.all_eq_true.mp h1 c hc)
theorem okD_str {l : List Nat} {w : Nat} (h : ∀ c ∈ l, c < 128) (hl : l.length ≤ w) : OkD w 0 (.str (S l)) := ⟨gs_str (fun c hc => Nat.lt_trans (h c hc) (by decide)) hl, List.all_eq_true.mpr fun c hc => decide_eq_true (h c (by simpa using hc))⟩
def okB (w n : Nat) (d : PyData) : Bool := gsB w n d && lowD d
theorem okD_of {w n : Nat} {d : PyData} (h : okB w n d = true) : OkD w n d := by
  obtain ⟨a, b⟩ := Bool.and_eq_true_iff.mp h
  exact ⟨gs_of a, b⟩
theorem S_of (x : Str) : S x.cps.toList = x := by
  cases x
  rfl
theorem OkD.lay {w n : Nat} {x : Str} (h : OkD w n (.str x)) : (PyData.str x).canLay0 = true := by
  show x.cps.all (fun d => decide (d < 1114112)) = true
  rw [← Array.all_toList]
  refine List.all_eq_true.mpr fun c hc => decide_eq_true ?_
  have := h.text.2 c hc
  omega
/-! what may be shown -/
theorem OkD.ok {w n : Nat} {d : PyData} (h : OkD w n d) (hw : w ≤ 200000) (hn : n ≤ 40) : ShowOk d := h.gs.ok hw hn
/-! ### parts of a list of values -/
section
variable {K : PySem.W.Frag} {N : Addr → Prop} {H : Hp}
theorem DvAll.take : ∀ {vs : List V} {ds : List PyData} (n : Nat), DvAll K N H vs ds → DvAll K N H (vs.take n) (ds.take n)
  | _, _, 0, _ => .nil
  | _, _, _ + 1, .nil => .nil
  | _, _, n + 1, .cons a b => .cons a (b.take n)
theorem DvAll.drop : ∀ {vs : List V} {ds : List PyData} (n : Nat), DvAll K N H vs ds → DvAll K N H (vs.drop n) (ds.drop n)
  | _, _, 0, h => h
  | _, _, _ + 1, .nil => .nil
  | _, _, n + 1, .cons a b => b.drop n
theorem DvAll.rev : ∀ {vs : List V} {ds : List PyData}, DvAll K N H vs ds → DvAll K N H vs.reverse ds.reverse
  | _, _, .nil => .nil
  | _, _, .cons a b => by
    rw [List.reverse_cons, List.reverse_cons]
    exact b.rev.app (.cons a .nil)
theorem DvAll.cut {vs : List V} {ds : List PyData} (h : DvAll K N H vs ds) (lo hi : Option Int) : ∃ es, es.Sublist ds ∧ DvAll K N H (cutV vs lo hi) es := by
  unfold cutV
  exact ⟨_, (List.take_sublist _ _).trans (List.drop_sublist _ _), (h.drop _).take _⟩
theorem cut_front (xs : List V) (k : Nat) : cutV xs none (some ((k : Nat) : Int)) = xs.take k := by
  unfold cutV
  rw [HT.sIx_nat, HT.sIx_none]
  by_cases h : k ≤ xs.length
  · rw [Nat.min_eq_left h, Nat.sub_zero, List.drop_zero]
  · rw [Nat.min_eq_right (by omega), Nat.sub_zero, List.drop_zero, List.take_length, List.take_of_length_le (by omega)]
theorem cut_back (xs : List V) (k : Nat) : cutV xs (some ((k : Nat) : Int)) none = xs.drop k := by
  unfold cutV
  rw [HT.sIx_nat, HT.sIx_none]
  by_cases h : k ≤ xs.length
  · rw [Nat.min_eq_left h, List.take_of_length_le (by rw [List.length_drop]; exact Nat.le_refl _)]
  · rw [Nat.min_eq_right (by omega), List.drop_of_length_le (Nat.le_refl _), List.drop_of_length_le (by omega), List.take_nil]
end
/-- a value and its data, in bounds; its lists and dicts stand at places of N -/
def OdD (K : PySem.W.Frag) (N : Addr → Prop) (w n : Nat) (H : Hp) (v : V) : Prop := ∃ d, Dv K N H v d ∧ OkD w n d
section
variable {K : PySem.W.Frag} {N N' : Addr → Prop} {H H' : Hp} {w n w' n' : Nat} {v : V}
theorem OdD.same (h : OdD K N w n H v) (e : Same H H') : OdD K N w n H' v := let ⟨d, a, b⟩ := h; ⟨d, a.same e, b⟩
theorem OdD.mono (h : OdD K N w n H v) (e : ∀ a, N a → N' a) (hw : w ≤ w') (hn : n ≤ n') : OdD K N' w' n' H v := let ⟨d, a, b⟩ := h; ⟨d, a.mono e, b.mono hw hn⟩
end
/-! ### kinds of data -/
def sevenT : List String := ["NoneType", "bool", "int", "str", "list", "tuple", "dict"]
section
variable {K : PySem.W.Frag} {H : Hp} {v : V} {d : PyData}
theorem dg_str (h : Dg K H v d) : (∃ l, v = .str (S l) ∧ d = .str (S l)) ∨ ((∃ a, TyX K H v (.type a) ∧ a ∈ sevenT ∧ a ≠ "str") ∧ ∀ x, d ≠ .str x) := by
  cases h with
  | non => exact Or.inr ⟨⟨_, .base .non, by decide, by decide⟩, fun _ z => nomatch z⟩
  | bl b => exact Or.inr ⟨⟨_, .base (.bl b), by decide, by decide⟩, fun _ z => nomatch z⟩
  | int i => exact Or.inr ⟨⟨_, .base (.int i), by decide, by decide⟩, fun _ z => nomatch z⟩
  | str x => exact Or.inl ⟨x.cps.toList, by rw [S_of], by rw [S_of]⟩
  | lst _ hs _ => exact Or.inr ⟨⟨_, ty_list hs, by decide, by decide⟩, fun _ z => nomatch z⟩
  | tup hs _ => exact Or.inr ⟨⟨_, ty_tup hs, by decide, by decide⟩, fun _ z => nomatch z⟩
  | dct hs _ => exact Or.inr ⟨⟨_, .base (.dK hs), by decide, by decide⟩, fun _ z => nomatch z⟩
theorem dg_tup (h : Dg K H v d) : (∃ a xs ds, v = .ref a ∧ d = .tuple ds ∧ SqT K H a xs ∧ DgAll K H xs ds) ∨ ((∃ a, TyX K H v (.type a) ∧ a ∈ sevenT ∧ a ≠ "tuple") ∧ ∀ ds, d ≠ .tuple ds) := by
  cases h with
  | non => exact Or.inr ⟨⟨_, .base .non, by decide, by decide⟩, fun _ z => nomatch z⟩
  | bl b => exact Or.inr ⟨⟨_, .base (.bl b), by decide, by decide⟩, fun _ z => nomatch z⟩
  | int i => exact Or.inr ⟨⟨_, .base (.int i), by decide, by decide⟩, fun _ z => nomatch z⟩
  | str x => exact Or.inr ⟨⟨_, .base (.str x), by decide, by decide⟩, fun _ z => nomatch z⟩
  | lst _ hs _ => exact Or.inr ⟨⟨_, ty_list hs, by decide, by decide⟩, fun _ z => nomatch z⟩
  | tup hs ha => exact Or.inl ⟨_, _, _, rfl, rfl, hs, ha⟩
  | dct hs _ => exact Or.inr ⟨⟨_, .base (.dK hs), by decide, by decide⟩, fun _ z => nomatch z⟩
theorem DgAll.at : ∀ {vs : List V} {ds : List PyData} {i : Nat} {v : V}, DgAll K H vs ds → vs[i]? = some v → ∃ d, ds[i]? = some d ∧ Dg K H v d
  | _, _, 0, _, .cons a b, h => ⟨_, rfl, by cases h; exact a⟩
  | _, _, i + 1, _, .cons a b, h => DgAll.at (i := i) b h
theorem DgAll.len : ∀ {vs : List V} {ds : List PyData}, DgAll K H vs ds → vs.length = ds.length
  | _, _, .nil => rfl
  | _, _, .cons a b => congrArg (· + 1) b.len
end
end Mq

namespace Mq
open PySem PySem.Spec PySem.W PySem.Calls PySem.HandSPX PyProof.Rows
/-! ### an own error made by keywords -/
section
variable {M : Model} {A : Around} {E : Value → Shared → Prop} {h : Heap} {g : Array GenState} {dr : Drawn} {tk : Nat} {os : OsState}
variable {nm q : Str} {C N : Addr} {bs bm bmB : List Value} {hd : Bool} {sn : List Str} {sub : List Value} {ab : Bool} {col : Option Bool} {dd : Option Addr} {k0 k1 k2 k3 k5 : Option Value} {B newId initId : String}
theorem new_fine (F : ExcBaseFacts B newId initId bmB) (same : ∀ X : String, bm.contains (.type X) = bmB.contains (.type X)) {us : List Value} {kw : List (Str × Value)} {Q : Unit → Shared → Prop}
    (at' : h.get? C = some (excClassObj nm q C N bs bm hd sn sub ab col dd k0 k1 k2 k3 k5 newId)) (done : Q () ⟨h, g, dr, tk, os⟩) : wpAny M A (checkBuiltinCall newId ⟨.ref C :: us, kw⟩) Q E ⟨h, g, dr, tk, os⟩ := by
  have below : (Value.ref C :: bm).contains (.type B) = true := by rw [List.contains_cons, same, F.hasB, Bool.or_true]
  have ns := F.noStar
  simp only [checkBuiltinCall, F.newKind, F.newSplit, F.newRow]
  repeat (first
    | refine wpAny_loadPart_at at' ?_
    | (refine wpAny_isSubtype_exc at' ?_; rw [below])
    | refine wpAny_staticBase_exc at' ?_
    | refine wpAny_madeBy_exc at' ?_
    | simp only [bne_self_eq_false, Bool.false_eq_true, if_false]
    | wp_step)
  exact done
end
section
variable {prog : Program} {w : World} {A : Around} {E : Value → Shared → Prop} {R : Result → Shared → Prop} {h : Heap} {g : Array GenState} {dr : Drawn} {tk : Nat} {os : OsState}
variable {nm q : Str} {C N : Addr} {bs bm bmB : List Value} {hd : Bool} {sn : List Str} {sub : List Value} {ab : Bool} {col : Option Bool} {dd : Option Addr} {k0 k1 k2 k3 k5 : Option Value} {B newId initId : String}
theorem new_kw (F : ExcBaseFacts B newId initId bmB) (same : ∀ X : String, bm.contains (.type X) = bmB.contains (.type X)) {us : List Value} {kw : List (Str × Value)}
    (at' : h.get? C = some (excClassObj nm q C N bs bm hd sn sub ab col dd k0 k1 k2 k3 k5 newId)) (few : us.length ≤ sizeLine)
    (done : R (.ok (.ret (.ref (h.objs.size + 1)))) ⟨(h.push (kdv_tup us)).push (excO C h.objs.size), g, dr, tk, os⟩) :
    codeAny (model prog w) A (.builtin newId ⟨.ref C :: us, kw⟩) R ⟨h, g, dr, tk, os⟩ := by
  have ends := F.ends
  have isB : (Value.ref C :: bm).contains (.type B) = true := by rw [List.contains_cons, same, F.hasB, Bool.or_true]
  have isA : (Value.ref C :: bm).contains (.type "AttributeError") = false := by rw [List.contains_cons, same, F.noAttr]; rfl
  have isN : (Value.ref C :: bm).contains (.type "NameError") = false := by rw [List.contains_cons, same, F.noName]; rfl
  refine codeAny_builtinAt F.entry ?_
  unfold Builtin.«BaseException.__new__»
  refine PySem.wpAt_bind ?_
  show PySem.wpAt _ _ _ (stack >>= _) _ _ _
  refine PySem.wpAt_bind (PySem.wpAt_stack fun p below => PySem.wpAt_of_wpAny ?_)
  wp_walk
  refine PySem.wpAt_of_wpAny ?_
  rw [F.owner]
  repeat (first
    | with_reducible refine wpAny_madeHere_exc F.canon at' ?_
    | with_reducible refine wpAny_loadPart_at at' ?_
    | (with_reducible refine wpAny_isSubtype_exc at' ?_; first | rw [isB] | rw [isA] | rw [isN])
    | wp_step)
  show R _ _
  rw [Heap.size_push]
  exact done
theorem type_kw (F : ExcBaseFacts B newId initId bmB) (same : ∀ X : String, bm.contains (.type X) = bmB.contains (.type X)) {us : List Value} {kw : List (Str × Value)} {fI : Addr} {Q : Fin → Shared → Prop}
    (at' : h.get? C = some (excClassObj nm q C N bs bm hd sn sub ab col dd k0 k1 k2 k3 k5 newId)) (few : us.length ≤ sizeLine)
    (looks : Looks (model prog w) h (typeLookup (.ref C) "__init__") (some (.ref fI))) (binds : ∀ self, Looks (model prog w) h (bindSpecial (.ref fI) self) (.ref fI, [self]))
    (done : codeAny (model prog w) A (.call (.ref fI) ⟨.ref (h.objs.size + 1) :: us, kw⟩)
      (fun r s' => match r with | .ok (.ret v) => v = .none ∧ Q (.done (.ret (.ref (h.objs.size + 1)))) s' | .ok _ => False | .error e => E e s')
      ⟨(h.push (kdv_tup us)).push (excO C h.objs.size), g, dr, tk, os⟩) :
    wpAny (model prog w) A (Builtin.«type.__call__» ⟨.ref C :: us, kw⟩) Q E ⟨h, g, dr, tk, os⟩ := by
  repeat (first
    | with_reducible refine wpAny_loadPart_at at' ?_
    | with_reducible refine wpAny_madeBy_exc at' ?_
    | wp_step)
  refine codeAny_call_builtin_code (Code.quiet_builtin _ F.quiet) (new_fine F same at' ?_)
  refine new_kw F same at' few ?_
  show wpAny _ _ _ _ _ _
  have k : ∀ b o, h.get? b = some o → ((h.push (kdv_tup us)).push (excO C h.objs.size)).get? b = some o := fun b o e => Heap.get?_push_of_some _ (Heap.get?_push_of_some _ e)
  have at1 := k _ _ at'
  have new : ((h.push (kdv_tup us)).push (excO C h.objs.size)).get? (h.objs.size + 1) = some (excO C h.objs.size) := by heap_get
  have own : (Value.ref C :: bm).contains (.ref C) = true := by simp
  have i1 := looks.keeps k
  have b1 := (binds (.ref (h.objs.size + 1))).keeps k
  unfold isInstance
  repeat (first
    | with_reducible refine wpAny_loadPart_at new ?_
    | (with_reducible refine wpAny_isSubtype_exc at1 ?_; rw [own])
    | wp_step)
  show wpAny _ _ (typeLookup (.ref C) _) _ _ _
  refine i1.at ?_
  refine wpAny_holding (wpAny_bind (b1.at ?_))
  refine wpAny_bind (wpAny_call (codeAny_mono done fun r s' z => ?_))
  rcases r with e | (v | _ | _ | _) <;> first | exact z | exact z.elim | skip
  obtain ⟨rfl, z⟩ := z
  first
    | exact wpAny_pure (wpAny_pure z)
    | (wp_walk; exact z)
theorem call_kw (F : ExcBaseFacts B newId initId bmB) (same : ∀ X : String, bm.contains (.type X) = bmB.contains (.type X)) {us : List Value} {kw : List (Str × Value)} {fI : Addr}
    (at' : h.get? C = some (excClassObj nm q C N bs bm hd sn sub ab col dd k0 k1 k2 k3 k5 newId)) (few : us.length ≤ sizeLine)
    (looks : Looks (model prog w) h (typeLookup (.ref C) "__init__") (some (.ref fI))) (binds : ∀ self, Looks (model prog w) h (bindSpecial (.ref fI) self) (.ref fI, [self]))
    (done : codeAny (model prog w) (A.under (.builtin "type.__call__" ⟨.ref C :: us, kw⟩)) (.call (.ref fI) ⟨.ref (h.objs.size + 1) :: us, kw⟩) (InitBack (h.objs.size + 1) R)
      ⟨(h.push (kdv_tup us)).push (excO C h.objs.size), g, dr, tk, os⟩) :
    codeAny (model prog w) A (.call (.ref C) ⟨us, kw⟩) R ⟨h, g, dr, tk, os⟩ := by
  have f1 := tc_lookup
  have f2 := tc_bind (.ref C)
  have isT : (⟨h, g, dr, tk, os⟩ : Shared).TypeIs (.ref C) "type" := ⟨_, at', rfl⟩
  refine codeAny_of_tree ?_
  show wpAny _ _ (callAny (.ref C) _) _ _ _
  repeat (any_goals (first
    | assumption
    | with_reducible refine wpAny_loadPart_at at' ?_
    | wp_step))
  refine ⟨rfl, ?_⟩
  refine codeAny_call_builtin_at (Code.quiet_builtin _ (by decide +kernel)) entry_typeCall (wpAny_check_type_call_sub at' (type_kw F same at' few looks binds ?_))
  refine codeAny_mono done fun r s' z => ?_
  rcases r with e | (v | _ | _ | _) <;> exact z
end
end Mq

namespace Mq
open PySem PySem.Spec PyProof.Rows L2
open PySem.W (Frag)
open PySem.Builtin.ObjectAttr
/-! ### a second field -/
section
variable {prog : Program} {w : World} {A : Around} {E : Value → Shared → Prop} {R : Result → Shared → Prop}
  {hp : Heap} {g : Array GenState} {d : Drawn} {t : Nat} {os : OsState} {K : Frag}
theorem osa_next {name n0 : Str} {tk : Tok} {v v0 : Value} {x C t1 dx : Addr} (X : K.In hp)
    (hx : hp.get? x = some (PySem.W.excObj C t1 (some dx) .none)) (hn : hp.Ns1 dx (fun y => if y = n0 then some v0 else none)) (ho : PySem.W.excOver K C exTail = true)
    (hh : PySem.W.hasDictIn K C = true) (ht : PySem.W.takerIn K C name = some none)
    (hq : ∀ h' tk', (∀ b o, b ≠ dx → hp.get? b = some o → h'.get? b = some o) →
      h'.Ns1 dx (fun y => if y = name then some v else if y = n0 then some v0 else none) → R (.ok (.ret .none)) ⟨h', g, d, tk', os⟩) :
    codeAny (model prog w) A (.call (.builtin "object.__setattr__") ⟨[.ref x, .str name tk, v], []⟩) R ⟨hp, g, d, t, os⟩ := by
  obtain ⟨od, hod, _⟩ := lookIn_ns hn
  refine PySem.W.osa_openX (od := some od) (s := ⟨hp, g, d, t, os⟩) F.store_Exception X ⟨hx, rfl, rfl, hod⟩ ho ht (fun b => ?_)
  obtain ⟨cd, hc, hd'⟩ := PySem.W.any_some hh
  have Lc : PySem.W.Looks (model prog w) hp (classData C) cd := PySem.W.looks_clsIn X hc
  refine wpAny_bind (wpAny_pure (wpAny_bind ?_))
  unfold ownDictForStores
  show wpAny _ _ (instanceDict x true) _ _ _
  unfold instanceDict
  refine wpAny_bind (wpAny_loadPart hx ?_)
  dsimp only
  refine wpAny_bind (Lc.here ?_)
  rw [hd']
  rw [if_neg (by decide)]
  refine wpAny_pure ?_
  show wpAny _ _ (storeInDict dx (.str name tk) name v) _ _ _
  unfold storeInDict newKeyGuard
  refine wpAny_bind (wpAny_pure (wpAny_bind (wpAny_nsSet1 hn fun h' hn' hs => ?_)))
  have hw : PySem.Within (fun y => if y = name then some v else if y = n0 then some v0 else none) [name, n0] := by
    have h1 := PySem.Within.cons name v (PySem.Within.cons n0 v0 PySem.Within.nil)
    exact h1
  obtain ⟨oD, esD, epD, hoD, hdD, hcD⟩ := hn'.count hw
  refine wpAny_bind (wpAny_lookBehind hoD (by rw [hdD]; exact pastItsLine_dict (Nat.le_trans hcD (by rw [sizeLine_eq]; show 2 ≤ 16777216 + 1; decide))) ?_)
  wp_walk
  exact hq h' _ (fun b o hb ho => (hs.2 b hb).trans ho) hn'
end
/-! ### errors as values -/
def ExF (C : Addr) (d : Option Addr) (a : Addr) : HO := .ext fun h => ∃ (oe : Obj) (vs : Array Value), h.get? a = some oe ∧ Zc (.ref C) d oe ∧ oe.data = .fields vs
theorem exF_ok {P : Program} {w : World} {H : Hp} {h : Heap} {a C : Addr} {d : Option Addr} {oe : Obj} {vs : Array Value} (e : h.get? a = some oe) (z : Zc (.ref C) d oe) (f : oe.data = .fields vs) : ObjOk P w H h a (ExF C d a) :=
  ⟨⟨oe, vs, e, z, f⟩, ⟨oe, e⟩, fun _ _ ⟨o, v, q, r⟩ k => ⟨o, v, k o q, r⟩⟩
/-- the error at e, of the class C, its field's dict at d -/
structure ErrAt (H : Hp) (C e d : Addr) (fs : List (Str × V)) : Prop where
  ex : H e = some (ExF C (some d) e)
  fd : H d = some (.xd fs)
theorem ErrAt.same {H H' : Hp} {C e d : Addr} {fs : List (Str × V)} (h : ErrAt H C e d fs) (s : ∀ b o, H b = some o → H' b = some o) : ErrAt H' C e d fs := ⟨s _ _ h.ex, s _ _ h.fd⟩
section
variable {X : Cx} {pins : List (Addr × Obj)} {σ : L2.St} {H : Hp} {s : Shared}
/-- e.n, e an error that is a value -/
def tXv (C : Addr) (n : Str) (te : TE) : TE := fun σ H Q => te σ H fun x H1 => ∃ (a d : Addr) (fs : List (Str × V)) (v : V), x = .ref a ∧ ErrAt H1 C a d fs ∧ fs.lookup n = some v ∧ Q v H1
theorem pe_xv {C : Addr} {e : Expr} {te : TE} {pos : Pos} {n : Str} (T : XfC X.K C) (hno : PySem.W.findIn X.K (.ref C) n = some none)
    (he : PE X e te) (hb : attributeBase e n X.env (eval e X.env) = eval e X.env := by rfl) : PE X (.Attribute e n pos) (tXv C n te) := by
  refine ⟨fun pins s σ H Q I h => ?_⟩
  refine attr_of hb (thn (he.run pins s σ H _ I h) fun u s1 hh => ?_)
  obtain ⟨x, H1, I1, rx, a, dd, fs, v, ex, er, l, q⟩ := hh
  subst ex
  obtain rfl : u = Value.ref a := rx
  obtain ⟨⟨oe, vs, ha, hz, hd⟩, _, _⟩ := (show ObjOk X.prog X.w H1 s1.heap a (ExF C (some dd) a) from I1.hok a _ er.ex)
  obtain ⟨mA, hns, hr⟩ := (show ObjOk X.prog X.w H1 s1.heap dd (.xd fs) from I1.hok dd _ er.fd)
  obtain ⟨od, ho, hl⟩ := lookIn_ns hns
  obtain ⟨u, hu, ru⟩ := RelO.some_of (v := v) (o := mA n) (by rw [← l]; exact hr n)
  have J : PySem.W.InstAt s1.heap a oe C (some od) := by
    refine ⟨ha, hz.1, ?_, ?_⟩
    · unfold PySem.W.notCls
      rw [hd]
    · rw [hz.2]
      exact ho
  exact HandSPX.exc_get I1.kIn J T.ga T.gg T.exC (PySem.W.findObj_own T.hdC hno rfl (by rw [hl, hu])) (handed_of ru) ⟨v, H1, I1.tok _, ru, q⟩
/-- isinstance(e, c), e an error that is a value -/
def rIsE (K : PySem.W.Frag) : List V → Hp → VK → Prop := fun xs H Q => ∃ (a D : Addr) (d : Option Addr) (c : V) (u : Value) (b : Bool), xs = [.ref a, c] ∧ ClsV c u ∧ H a = some (ExF D d a) ∧
  (∀ x, d = some x → ∃ fs, H x = some (.xd fs)) ∧ HeldC K D ∧ PySem.W.kitOne K (.ref D) u = some b ∧ Q (.bl b) H
theorem call_isE : CallR X (.builtin "isinstance") (rIsE X.K) := by
  intro pins s σ H xs us Q I r h
  obtain ⟨a, D, d, c, u, b, rfl, k, ha, hdx, C, e, q⟩ := h
  obtain ⟨u1, u2, rfl, r1, r2⟩ := vals2 r
  have e2 := k.eq r2
  subst e2
  cases r1
  obtain ⟨⟨oe, vs, hget, hz, hv⟩, _, _⟩ := (show ObjOk X.prog X.w H s.heap a (ExF D d a) from I.hok a _ ha)
  obtain ⟨od, J⟩ : ∃ od, PySem.W.InstAt s.heap a oe D od := by
    cases d with
    | none =>
      refine ⟨none, hget, hz.1, ?_, ?_⟩
      · unfold PySem.W.notCls
        rw [hv]
      · rw [hz.2]
        trivial
    | some dd =>
      obtain ⟨fs, hf⟩ := hdx dd rfl
      obtain ⟨mA, ⟨od, es, ep, ho, _⟩, _⟩ := (show ObjOk X.prog X.w H s.heap dd (.xd fs) from I.hok dd _ hf)
      refine ⟨some od, hget, hz.1, ?_, ?_⟩
      · unfold PySem.W.notCls
        rw [hv]
      · rw [hz.2]
        exact ho
  refine PySem.W.kia_one (PySem.W.kitx_exc C.cl C.ga C.gg C.sb C.ca C.sp C.tk C.mo) I.kIn J e (fun z => by cases z) (fun tk => ?_)
  exact ⟨.bl b, H, I.kept (t' := tk) (fun _ _ z => z), rfl, q⟩
/-- C(), a bare one -/
theorem pe_exB {C : Addr} {bmB : List Value} {B newId initId : String} {x : Str} {p pos : Pos} (F : ExcBaseFacts B newId initId bmB) (q : PySem.W.excIn X.K C bmB newId = true) (gC : X.mg x = some (.ref C)) (kC : PySem.W.keepIn X.K (.ref C) = true) (hg : Gl X x)
    (hdb : (x == ("__debug__" : Str)) = false := by decide) :
    PE X (.Call (.Name x p) [] [] pos) (fun _ H Q => ∀ a, H a = none → Q (.ref a) (upd H a (ExF C none a))) := by
  refine ⟨fun pins s σ H Q I h => ?_⟩
  refine wpAny_Call_Name_kw (ld_glob I hg gC ?_ hdb)
  refine PySem.W.callWith_K0 I.kIn kC ?_
  obtain ⟨bm, N, nm, qn, bs, hdct, sn, sub, ab, col, dd, k0, k1, k2, k3, k5, mN, hC, hN, hni, T⟩ := exc_obj I.kIn q
  refine wpAny_call_exc_subT F T hC hN hni (fun h' a hm => ?_) (by show 0 ≤ sizeLine; exact Nat.zero_le _)
  have hn : H a = none := I.hok.gone hm.new
  obtain ⟨t, ht, _, _⟩ := hm.there
  exact ⟨.ref a, upd H a (ExF C none a), I.laidN hm.keeps hm.new hn (exF_ok ht ⟨rfl, rfl⟩ rfl), rfl, h a hn⟩
end
end Mq

namespace Mq
open PySem PySem.Spec PyProof.Rows L2
open PySem.W (Frag)
/-! ### the call of an error's class as a value -/
/-- a made error, its fields by m -/
structure MadeM (h h' : Heap) (e C d : Addr) (m : Str → Option Value) : Prop where
  keep : ∀ b o, h.get? b = some o → h'.get? b = some o
  new : h.objs.size ≤ e
  obj : ∃ oe vs, h'.get? e = some oe ∧ oe.cls = .ref C ∧ oe.dict = some d ∧ oe.data = .fields vs ∧ vs[1]? = some .none
  big : h.objs.size ≤ d
  ne : d ≠ e
  ns : h'.Ns1 d m
/-- what the written part says of an error's class -/
structure ErrC (K : Frag) (mg : Str → Option Value) (x : Str) (C fI : Addr) : Prop where
  gC : mg x = some (.ref C)
  kC : PySem.W.keepIn K (.ref C) = true
  ex : PySem.W.excInitIn K C exTail "Exception.__new__" = true
  ov : PySem.W.excOver K C exTail = true
  hdC : PySem.W.hasDictIn K C = true
  sa : PySem.W.findIn K (.ref C) "__setattr__" = some (some (.builtin "object.__setattr__"))
  iC : PySem.W.findIn K (.ref C) "__init__" = some (some (.ref fI))
  tC : PySem.W.typeIn K (.ref fI) = some (.type "function")
  exC : PySem.W.subIn K (.ref C) (.type "BaseException") = some true
  tyC : PySem.W.typeIn K (.ref C) = some (.type "type")
/-- calls of C with these arguments make an error with fields by m -/
def Makes (K : Frag) (C : Addr) (us : List Value) (kw : List (Str × Value)) (m : Str → Option Value) : Prop :=
  ∀ (prog : Program) (w : World) (A : Around) (R : Result → Shared → Prop) (s : Shared), K.In s.heap → s.heap.NoLimit → A.depth + 1 < recursionLimit →
    (∀ h' tk e d, MadeM s.heap h' e C d m → R (.ok (.ret (.ref e))) { s with heap := h', toks := tk }) → codeAny (model prog w) A (.call (.ref C) ⟨us, kw⟩) R s
theorem zip_rel : ∀ {ks : List Str} {vs : List V} {us : List Value}, Vals vs us → ∀ f : Str, RelO ((ks.zip vs).lookup f) ((ks.zip us).lookup f)
  | [], _, _, _, f => by simp [RelO]
  | _ :: _, _, _, .nil, f => by simp [RelO]
  | k :: ks, _, _, .cons r t, f => by
    rw [List.zip_cons_cons, List.zip_cons_cons, List.lookup_cons, List.lookup_cons]
    cases f == k with
    | true => exact r
    | false => exact zip_rel t f
section
variable {X : Cx} {pins : List (Addr × Obj)} {σ : L2.St} {H : Hp}
theorem laid_exc {hp h' : Heap} {g : Array GenState} {dr : Drawn} {tk tk' : Nat} {os : OsState} {e C d : Addr} {m : Str → Option Value} {fs : List (Str × V)}
    (I : L2.Inv X pins σ H ⟨hp, g, dr, tk, os⟩) (M : MadeM hp h' e C d m) (hr : ∀ f, RelO (fs.lookup f) (m f)) :
    H d = none ∧ H e = none ∧ L2.Inv X pins σ (upd (upd H d (.xd fs)) e (ExF C (some d) e)) ⟨h', g, dr, tk', os⟩ := by
  obtain ⟨oe, fv, hoe, hc, hd, hdat, h1⟩ := M.obj
  have hns := M.ns
  obtain ⟨G', g1, g2⟩ := restrict h' fun b => decide (b ≠ e)
  have gk : ∀ b, b ≠ e → G'.get? b = h'.get? b := fun b hb => g1 b (decide_eq_true hb)
  have ge : G'.get? e = none := g2 e (by simp)
  have old : ∀ b o, hp.get? b = some o → G'.get? b = some o := fun b o q => (gk b (Nat.ne_of_lt (Nat.lt_of_lt_of_le (Heap.lt_size q) M.new))).trans (M.keep b o q)
  have ob : ObjOk X.prog X.w (upd H d (.xd fs)) G' d (.xd fs) := ⟨m, hns.at (fun o q => (gk d M.ne).trans q), hr⟩
  have J : L2.Inv X pins σ (upd H d (.xd fs)) ⟨G', g, dr, tk', os⟩ := I.laid (t' := tk') old M.big ob
  have ne : upd H d (.xd fs) e = none := by
    rw [upd_ne (Ne.symm M.ne)]
    exact I.hok.fresh M.new
  have up : ∀ b o, G'.get? b = some o → h'.get? b = some o := fun b o q => by
    by_cases hb : b = e
    · rw [hb, ge] at q
      cases q
    · exact (gk b hb).symm.trans q
  exact ⟨I.hok.fresh M.big, I.hok.fresh M.new, J.laidN (s := ⟨G', g, dr, tk', os⟩) (t' := tk') up ge ne (exF_ok hoe ⟨hc, hd⟩ hdat)⟩
end
section
variable {X : Cx} {C fI : Addr} {x : Str} {k : Nat} {p pos : Pos} {e : Expr} {es : List Expr} {kws : List Keyword} {t tk : TA} {ks kks : List Str}
/-- C(e, ..) -/
def tMkP (C : Addr) (ks : List Str) (t : TA) : TE := fun σ H Q => t σ H fun vs H1 => vs.length = ks.length ∧ ∀ e d, H1 d = none → H1 e = none → d ≠ e → Q (.ref e) (upd (upd H1 d (.xd (ks.zip vs))) e (ExF C (some d) e))
theorem pe_mkP (T : ErrC X.K X.mg x C fI) (hr : Room k X.A) (M : ∀ us : List Value, us.length = ks.length → Makes X.K C us [] fun y => (ks.zip us).lookup y) (ha : PA X (e :: es) t) (hg : Gl X x := by rfl)
    (hdb : (x == ("__debug__" : Str)) = false := by decide) (he : starEach (e :: es) X.env = (false, eval e X.env) :: starEach es X.env := by rfl) (hpl : (backTo pos (starEach es X.env)).any (·.1) = false := by rfl) :
    PE X (.Call (.Name x p) (e :: es) [] pos) (tMkP C ks t) := by
  refine ⟨fun pins s σ H Q I h => ?_⟩
  refine wpAny_Call_Name_kw (ld_glob I hg T.gC ?_ hdb)
  refine PySem.W.callWith_K (h₀ := X.base) I.ok.mod.kin T.kC (thn (ha.run pos pins s σ H _ I h) fun us s1 hh => ?_) he hpl
  obtain ⟨vs, H1, I1, r1, hl, q1⟩ := hh
  refine ⟨I1.kIn, ?_⟩
  have hlim := I1.nolimit
  obtain ⟨hp, g, dr, tk, os⟩ := s1
  have hus : us.length = ks.length := r1.length.symm.trans hl
  show wpAny _ _ (call (.ref C) us) _ _ _
  refine wpAny_call (M us hus X.prog X.w _ _ _ I1.kIn hlim (by have := hr.dp; omega) (fun h' tk' e d MM => ?_))
  obtain ⟨n1, n2, J⟩ := laid_exc (tk' := tk') I1 MM (zip_rel r1)
  exact ⟨.ref e, _, J, rfl, q1 e d n1 n2 MM.ne⟩
/-- C(k = e, ..): the fields' values by g -/
def tMkK (C : Addr) (ks : List Str) (n : Nat) (g : {α : Type} → List α → List α) (tk : TA) : TE := fun σ H Q => tk σ H fun zs H1 => zs.length = n ∧ ∀ e d, H1 d = none → H1 e = none → d ≠ e → Q (.ref e) (upd (upd H1 d (.xd (ks.zip (g zs)))) e (ExF C (some d) e))
theorem pe_mkK {g : {α : Type} → List α → List α} (T : ErrC X.K X.mg x C fI) (hr : Room k X.A) (hg2 : ∀ {vs : List V} {us : List Value}, Vals vs us → Vals (g vs) (g us))
    (M : ∀ ws : List Value, ws.length = kks.length → Makes X.K C [] (kks.zip ws) fun y => (ks.zip (g ws)).lookup y) (hkw : PK X kws tk) (hg : Gl X x := by rfl)
    (hall : (backToKw pos (keywordEach kws X.env)).all (·.1.isSome) = true := by rfl) (hks : (backToKw pos (keywordEach kws X.env)).filterMap (·.1) = kks := by rfl)
    (hdb : (x == ("__debug__" : Str)) = false := by decide)
    (hpl : ((backTo pos (starEach [] X.env)).any (·.1) || (backToKw pos (keywordEach kws X.env)).any (·.1.isNone)) = false := by rfl) :
    PE X (.Call (.Name x p) [] kws pos) (tMkK C ks kks.length g tk) := by
  refine ⟨fun pins s σ H Q I h => ?_⟩
  refine wpAny_Call_Name_kw (ld_glob I hg T.gC ?_ hdb)
  refine PySem.W.callWith_KW0 (h₀ := X.base) I.ok.mod.kin T.kC hall ?_ hpl
  refine thn (hkw.run pos pins s σ H _ I h) fun ws s2 ⟨zs, H2, I2, rz, hl, q2⟩ => ⟨I2.kIn, ?_⟩
  rw [hks]
  have hlim := I2.nolimit
  have hws : ws.length = kks.length := rz.length.symm.trans hl
  obtain ⟨hp, gg, dr, tk, os⟩ := s2
  refine wpAny_call (M ws hws X.prog X.w _ _ _ I2.kIn hlim (by have := hr.dp; omega) (fun h' tk' e d MM => ?_))
  obtain ⟨n1, n2, J⟩ := laid_exc (tk' := tk') I2 MM (zip_rel (hg2 rz))
  exact ⟨.ref e, _, J, rfl, q2 e d n1 n2 MM.ne⟩
end
end Mq

namespace Mq
open PySem PySem.Spec PyProof.Rows L2
/-! ### such a call behind raise -/
section
variable {X : Cx} {pins : List (Addr × Obj)} {σ : L2.St} {H : Hp}
theorem flown {hp h' : Heap} {g : Array GenState} {dr : Drawn} {tk tk' : Nat} {os : OsState} {e C d : Addr} {m : Str → Option Value} {fs : List (Str × V)} {Q : XK}
    (I : L2.Inv X pins σ H ⟨hp, g, dr, tk, os⟩) (M : MadeM hp h' e C d m) (hr : ∀ f, RelO (fs.lookup f) (m f)) (rs : Raises X (.ref C)) (q : Q (.ref C) (some d) (upd H d (.xd fs))) (hd : H d = none) :
    MkP X pins σ Q (.ref e) ⟨h', g, dr, tk', os⟩ := by
  obtain ⟨oe, fv, hoe, hc, hd', hdat, h1⟩ := M.obj
  have hns := M.ns
  obtain ⟨G', g1, g2⟩ := restrict h' fun b => decide (b ≠ e)
  have gk : ∀ b, b ≠ e → G'.get? b = h'.get? b := fun b hb => g1 b (decide_eq_true hb)
  have ge : G'.get? e = none := g2 e (by simp)
  have old : ∀ b o, hp.get? b = some o → G'.get? b = some o := fun b o q => (gk b (Nat.ne_of_lt (Nat.lt_of_lt_of_le (Heap.lt_size q) M.new))).trans (M.keep b o q)
  have ob : ObjOk X.prog X.w (upd H d (.xd fs)) G' d (.xd fs) := ⟨m, hns.at (fun o q => (gk d M.ne).trans q), hr⟩
  have J : L2.Inv X pins σ (upd H d (.xd fs)) ⟨G', g, dr, tk', os⟩ := I.laid (t' := tk') old M.big ob
  refine ⟨e, oe, fv, ⟨G', g, dr, tk', os⟩, _, .ref C, some d, rfl, J, (fun b o q => ?_), ge, hoe, ⟨hc, hd'⟩, hdat, h1, ?_, rfl, I.bare, rs, q⟩
  · by_cases hb : b = e
    · have q' : G'.get? b = some o := q
      rw [hb, ge] at q'
      cases q'
    · exact (gk b hb).symm.trans q
  · rw [upd_ne (Ne.symm M.ne)]
    exact I.hok.fresh M.new
end
section
variable {X : Cx} {C fI : Addr} {x : Str} {k : Nat} {p pos : Pos} {e : Expr} {es : List Expr} {kws : List Keyword} {t tk : TA} {ks kks : List Str}
def tFlP (C : Addr) (ks : List Str) (t : TA) : L2.St → Hp → XK → Prop := fun σ H Q => t σ H fun vs H1 => vs.length = ks.length ∧ ∀ d, H1 d = none → Q (.ref C) (some d) (upd H1 d (.xd (ks.zip vs)))
theorem pmkP (T : ErrC X.K X.mg x C fI) (hr : Room k X.A) (M : ∀ us : List Value, us.length = ks.length → Makes X.K C us [] fun y => (ks.zip us).lookup y) (ha : PA X (e :: es) t) (hg : Gl X x := by rfl)
    (hdb : (x == ("__debug__" : Str)) = false := by decide) (he : starEach (e :: es) X.env = (false, eval e X.env) :: starEach es X.env := by rfl) (hpl : (backTo pos (starEach es X.env)).any (·.1) = false := by rfl) :
    PMk X (.Call (.Name x p) (e :: es) [] pos) (tFlP C ks t) := by
  intro pins s σ H Q I h
  refine wpAny_Call_Name_kw (ld_glob I hg T.gC ?_ hdb)
  refine PySem.W.callWith_K (h₀ := X.base) I.ok.mod.kin T.kC (thn (ha.run pos pins s σ H _ I h) fun us s1 hh => ?_) he hpl
  obtain ⟨vs, H1, I1, r1, hl, q1⟩ := hh
  refine ⟨I1.kIn, ?_⟩
  have hlim := I1.nolimit
  obtain ⟨hp, g, dr, tk, os⟩ := s1
  have hus : us.length = ks.length := r1.length.symm.trans hl
  show wpAny _ _ (call (.ref C) us) _ _ _
  refine wpAny_call (M us hus X.prog X.w _ _ _ I1.kIn hlim (by have := hr.dp; omega) (fun h' tk' e d MM => ?_))
  exact flown I1 MM (zip_rel r1) (raises_own T.exC T.tyC) (q1 d (I1.hok.fresh MM.big)) (I1.hok.fresh MM.big)
def tFlK (C : Addr) (ks : List Str) (n : Nat) (g : {α : Type} → List α → List α) (tk : TA) : L2.St → Hp → XK → Prop := fun σ H Q => tk σ H fun zs H1 => zs.length = n ∧ ∀ d, H1 d = none → Q (.ref C) (some d) (upd H1 d (.xd (ks.zip (g zs))))
theorem pmkK {g : {α : Type} → List α → List α} (T : ErrC X.K X.mg x C fI) (hr : Room k X.A) (hg2 : ∀ {vs : List V} {us : List Value}, Vals vs us → Vals (g vs) (g us))
    (M : ∀ ws : List Value, ws.length = kks.length → Makes X.K C [] (kks.zip ws) fun y => (ks.zip (g ws)).lookup y) (hkw : PK X kws tk) (hg : Gl X x := by rfl)
    (hall : (backToKw pos (keywordEach kws X.env)).all (·.1.isSome) = true := by rfl) (hks : (backToKw pos (keywordEach kws X.env)).filterMap (·.1) = kks := by rfl)
    (hdb : (x == ("__debug__" : Str)) = false := by decide)
    (hpl : ((backTo pos (starEach [] X.env)).any (·.1) || (backToKw pos (keywordEach kws X.env)).any (·.1.isNone)) = false := by rfl) :
    PMk X (.Call (.Name x p) [] kws pos) (tFlK C ks kks.length g tk) := by
  intro pins s σ H Q I h
  refine wpAny_Call_Name_kw (ld_glob I hg T.gC ?_ hdb)
  refine PySem.W.callWith_KW0 (h₀ := X.base) I.ok.mod.kin T.kC hall ?_ hpl
  refine thn (hkw.run pos pins s σ H _ I h) fun ws s2 ⟨zs, H2, I2, rz, hl, q2⟩ => ⟨I2.kIn, ?_⟩
  rw [hks]
  have hlim := I2.nolimit
  have hws : ws.length = kks.length := rz.length.symm.trans hl
  obtain ⟨hp, gg, dr, tk, os⟩ := s2
  refine wpAny_call (M ws hws X.prog X.w _ _ _ I2.kIn hlim (by have := hr.dp; omega) (fun h' tk' e d MM => ?_))
  exact flown I2 MM (zip_rel (hg2 rz)) (raises_own T.exC T.tyC) (q2 d (I2.hok.fresh MM.big)) (I2.hok.fresh MM.big)
end
end Mq

namespace Mq
open PySem PySem.Spec PyProof.Rows L2
section
variable {X : Cx} {pins : List (Addr × Obj)} {σ : L2.St} {H : Hp} {s : Shared}
/-- repr where an error is held: only the room below counts -/
theorem call_repU' (hu : X.A.units + 200 < cLine) (gA : Still X.A) : CallR X (.builtin "repr") (rRep X.K) := by
  intro pins s σ H xs us Q I r h
  obtain ⟨v, d, rfl, hd, hs, hz, hl, q⟩ := h
  cases r with
  | cons rx rr =>
    cases rr
    obtain ⟨as, rd, hn⟩ := Dg.rd I hd rx
    have leaf : ∀ {d : PyData} {t : Tok}, Q (.str d.shown) H → EP X pins σ Q (.str d.shown t) { s with toks := s.toks + 1 } :=
      fun {d t} q => ⟨.str d.shown, H, I.tok _, ⟨_, rfl⟩, q⟩
    cases hd with
    | non =>
      cases rx
      exact PySem.P.repr_of_none (leaf (d := .none) q)
    | bl b =>
      cases rx
      exact PySem.P.repr_of_bool (leaf (d := .bool b) q)
    | int i =>
      obtain ⟨t, rfl⟩ := rx
      exact PySem.P.repr_of_int (by simpa [PyData.showable] using hs) (leaf (d := .int i) q)
    | str x =>
      obtain ⟨t, rfl⟩ := rx
      refine PySem.P.repr_of_str (leaf (d := .str x) q) ?_
      simpa only [PyData.shown] using hl
    | lst ne h1 h2 =>
      cases rx
      exact repr_of_reads' rd hs (fun _ => hn) gA (by omega) (fun _ _ e => e) (fun h' u tk k => ⟨.str _, H, I.kept k, ⟨_, rfl⟩, q⟩) hl
    | tup h1 h2 =>
      cases rx
      exact repr_of_reads' rd hs (fun _ => hn) gA (by omega) (fun _ _ e => e) (fun h' u tk k => ⟨.str _, H, I.kept k, ⟨_, rfl⟩, q⟩) hl
    | dct h1 h2 =>
      cases rx
      exact repr_of_reads' rd hs (fun _ => hn) gA (by omega) (fun _ _ e => e) (fun h' u tk k => ⟨.str _, H, I.kept k, ⟨_, rfl⟩, q⟩) hl
/-- the same, the written part named -/
theorem call_repU {K0 : PySem.W.Frag} (hK : X.K = K0) (hu : X.A.units + 200 < cLine) (gA : Still X.A) : CallR X (.builtin "repr") (rRep K0) := hK ▸ call_repU' hu gA
theorem pe_bmK {K0 : PySem.W.Frag} {e : Expr} {T : String} {r : V → List V → Hp → VK → Prop} {to : TE} {t : TA} (hK : X.K = K0) (h : PE X e (tBM X.K T r to t)) : PE X e (tBM K0 T r to t) := hK ▸ h
end
end Mq

namespace Mq
open PySem PySem.Spec PyProof.Rows L2
/-! ### own objects: a field as a target among others; len and == by methods of their own -/
def gFld (K : PySem.W.Frag) (ta : TE) (f : Str) : TG := fun v σ H Q => ta σ H fun x H1 => ∃ a C dx fs, x = .ref a ∧ H1 a = some (.ins C dx fs) ∧ Cls K C ∧ NoAttr K C f ∧ fs.length < 1000 ∧ Q σ (upd H1 a (.ins C dx (putF f v fs)))
theorem pg_fld {X : Cx} {o : Expr} {f : Str} {pos : Pos} {ta : TE} (ho : PE X o ta) : PG X (.Attribute o f pos) (gFld X.K ta f) := by
  refine ⟨fun pins s σ H v u Q I r h => PySem.W.kas_attr (thn (ho.run pins s σ H _ I h) ?_)⟩
  rintro ov s1 ⟨x, H1, I1, rx, a, C, dx, fs, rfl, ea, c, n, hl, q⟩
  cases rx
  exact setattr_ok I1 ea c n hl r fun s' I2 => ⟨σ, _, I2, q⟩
section
variable {X : Cx} {pins : List (Addr × Obj)} {σ : L2.St} {H : Hp} {s : Shared} {a C dx : Addr} {fs : List (Str × V)}
theorem inst_of (I : L2.Inv X pins σ H s) (ea : H a = some (.ins C dx fs)) : ∃ o, PySem.W.InstAt s.heap a (PySem.W.instObj C dx) C (some o) := by
  have o := I.hok a _ ea
  unfold ObjOk at o
  obtain ⟨_, _, _, hget, mA, ⟨od, es, ep, ho, _⟩, _⟩ := o
  exact ⟨od, hget, rfl, rfl, ho⟩
end
/-- len(o) by the class's own def -/
def rLenO (C : Addr) (sp : Sp) (E : XK) : List V → Hp → VK → Prop := fun xs H Q => ∃ a dx fs, xs = [.ref a] ∧ H a = some (.ins C dx fs) ∧ sp [.ref a] H (fun v H' => ∃ n : Nat, v = .int (n : Nat) ∧ n ≤ 1000000 ∧ Q (.int (n : Nat)) H') E
theorem call_lenO {X : Cx} {CX : CXT} {k : Nat} {f C : Addr} {fd : FuncData} {ps : List Str} {sp : Sp} {E : XK} (hm : Meth X.K C "__len__" f)
    (F : FnOk X.prog X.w X.K X.mg X.base CX k f fd ps sp) (hr : Room (k + 1) X.A) (hb : Binds X.K fd ps []) (hx : Passes CX X E) : CallR X (.builtin "len") (rLenO C sp E) := by
  intro pins s σ H xs us Q I r h
  obtain ⟨a, dx, fs, rfl, ea, q⟩ := h
  cases r with
  | cons rx rr =>
    cases rr
    cases rx
    obtain ⟨o, J⟩ := inst_of I ea
    obtain ⟨m, fr⟩ := I.fr
    refine PySem.W.len_K fr I.ok.mod.kin J hm.at_ hm.fn ?_
    have rv : Vals [V.ref a] [Value.ref a] := .cons rfl .nil
    have hl : [Value.ref a].length = ps.length := F.len _ _ _ _ q
    have b := hb s [.ref a] I.kIn (by rw [List.append_nil]; exact hl)
    rw [List.append_nil] at b
    refine wpAny_call (codeAny_mono (F.run X.A.in1 X.stack s H ⟨[.ref a], []⟩ [.ref a] [.ref a] _ E hr.in1 I.env0.in1 b rv q) (fun r s' hq => ?_))
    match r, hq with
    | .error er, hq => exact hx pins σ H s er s' I hq
    | .ok (.ret u), hq =>
      obtain ⟨v, H', I', rv', n, rfl, hn, q'⟩ := I.after hq
      obtain ⟨t, rfl⟩ := rv'
      refine ⟨⟨by omega, by omega⟩, .int (n : Nat), H', ?_, ⟨_, rfl⟩, q'⟩
      exact I'.kept (h' := s'.heap) (t' := s'.toks + 1) (fun _ _ z => z)
    | .ok .next, hq => exact hq.elim
    | .ok .brk, hq => exact hq.elim
    | .ok .cont, hq => exact hq.elim
/-- o == p, both of one class, by the class's own def -/
def rEqO (K : PySem.W.Frag) (C : Addr) (sp : Sp) (E : XK) : R2 := fun x y H Q => ∃ a b dx dy fs gs, x = .ref a ∧ y = .ref b ∧ H a = some (.ins C dx fs) ∧ H b = some (.ins C dy gs) ∧ sp [.ref a, .ref b] H (fun v H' => ∃ r : Bool, v = .bl r ∧ Q (.bl r) H') E
theorem op_eqO {X : Cx} {CX : CXT} {k : Nat} {f C : Addr} {fd : FuncData} {ps : List Str} {sp : Sp} {E : XK} (hm : Meth X.K C "__eq__" f)
    (F : FnOk X.prog X.w X.K X.mg X.base CX k f fd ps sp) (hr : Room k X.A) (hb : Binds X.K fd ps []) (hx : Passes CX X E) : OpR X (compareOp .Eq) (rEqO X.K C sp E) := by
  intro pins s σ H x y v u Q I rx ry h
  obtain ⟨a, b, dx, dy, fs, gs, rfl, rfl, ea, eb, q⟩ := h
  cases rx
  cases ry
  obtain ⟨o, J⟩ := inst_of I ea
  obtain ⟨o2, J2⟩ := inst_of I eb
  obtain ⟨m, fr⟩ := I.fr
  refine PySem.W.cmp_ofEq (PySem.W.cmp_K (tb := .ref C) (by have := hr.un; omega) fr I.ok.mod.kin J ?_ ?_ hm.at_ hm.fn ?_)
  · exact J2.type
  · show (_ || _) = true
    rw [show ((Value.ref C == Value.ref C) = true) by simp]
    rfl
  · have rv : Vals [V.ref a, V.ref b] [Value.ref a, Value.ref b] := .cons rfl (.cons rfl .nil)
    have hl : [Value.ref a, Value.ref b].length = ps.length := F.len _ _ _ _ q
    have bd := hb s [.ref a, .ref b] I.kIn (by rw [List.append_nil]; exact hl)
    rw [List.append_nil] at bd
    refine wpAny_call (codeAny_mono (F.run X.A X.stack s H ⟨[.ref a, .ref b], []⟩ [.ref a, .ref b] [.ref a, .ref b] _ E hr I.env0 bd rv q) (fun r s' hq => ?_))
    match r, hq with
    | .error er, hq => exact hx pins σ H s er s' I hq
    | .ok (.ret u), hq =>
      obtain ⟨v, H', I', rv', r, rfl, q'⟩ := I.after hq
      cases rv'
      exact ⟨.bl r, H', I', rfl, q'⟩
    | .ok .next, hq => exact hq.elim
    | .ok .brk, hq => exact hq.elim
    | .ok .cont, hq => exact hq.elim
end Mq

namespace Mq
open PySem PySem.Spec PyProof.Rows L2
/-! ### str(o) by the class's own def -/
def rStrO (C : Addr) (sp : Sp) (E : XK) : List V → Hp → VK → Prop := fun xs H Q => ∃ a dx fs, xs = [.ref a] ∧ H a = some (.ins C dx fs) ∧ sp [.ref a] H (fun v H' => ∃ y : Str, v = .str y ∧ Q (.str y) H') E
theorem call_strO {X : Cx} {CX : CXT} {k : Nat} {f C : Addr} {fd : FuncData} {ps : List Str} {sp : Sp} {E : XK} (hm : Meth X.K C "__str__" f)
    (F : FnOk X.prog X.w X.K X.mg X.base CX k f fd ps sp) (hr : Room (k + 2) X.A) (hb : Binds X.K fd ps []) (hx : Passes CX X E) : CallR X (.type "str") (rStrO C sp E) := by
  intro pins s σ H xs us Q I r h
  obtain ⟨a, dx, fs, rfl, ea, q⟩ := h
  cases r with
  | cons rx rr =>
    cases rr
    cases rx
    obtain ⟨o, J⟩ := inst_of I ea
    have hu : X.A.in1.in1.units < cLine := by
      have := hr.in1.in1.units
      omega
    refine PySem.W.kso_call hu I.kIn J hm.at_ hm.fn ?_
    have rv : Vals [V.ref a] [Value.ref a] := .cons rfl .nil
    have hl : [Value.ref a].length = ps.length := F.len _ _ _ _ q
    have b := hb s [.ref a] I.kIn (by rw [List.append_nil]; exact hl)
    rw [List.append_nil] at b
    refine wpAny_call (codeAny_mono (F.run X.A.in1.in1 X.stack s H ⟨[.ref a], []⟩ [.ref a] [.ref a] _ E hr.in1.in1 I.env0.in1.in1 b rv q) (fun r s' hq => ?_))
    match r, hq with
    | .error er, hq => exact hx pins σ H s er s' I hq
    | .ok (.ret u), hq =>
      obtain ⟨v, H', I', rv', y, rfl, q'⟩ := I.after hq
      obtain ⟨t, rfl⟩ := rv'
      exact ⟨.str y, H', I', ⟨_, rfl⟩, q'⟩
    | .ok .next, hq => exact hq.elim
    | .ok .brk, hq => exact hq.elim
    | .ok .cont, hq => exact hq.elim
end Mq

namespace Mq
open PySem PySem.Spec PyProof.Rows L2
/-! ### an own object made within a try -/
section
variable {X : Cx} {CX : CXT} {k n : Nat} {f C : Addr} {fd : FuncData} {ps ks : List Str} {sp : Sp} {E : XK} {ES : L2.St → XK}
  {g : List Value → List Value → List Value} {gV : List V → List V → List V} {pins : List (Addr × Obj)} {σ : L2.St} {H : Hp} {s : Shared} {Q : VK} {us ws : List Value} {vs zs : List V}
  {x : Str} {p pos : Pos} {kws : List Keyword} {tk t : TA} {e : Expr} {es : List Expr}
theorem run_makeS (M : Mk X.K C f) (F : FnOk X.prog X.w X.K X.mg X.base CX k f fd ps sp) (hr : Room (k + 1) X.A) (hb : KBn X.K fd ps (n + 1) ks g gV) (hx : PassesAt CX X σ E)
    (I : Inv X pins σ H s) (ru : Vals vs us) (rz : Vals zs ws) (hn : vs.length = n) (hm : zs.length = ks.length)
    (h : ∀ x dx, H x = none → H dx = none → dx ≠ x → sp (gV (.ref x :: vs) zs) (upd (upd H dx (.own x)) x (.ins C dx [])) (fun v H2 => v = .non ∧ Q (.ref x) H2) E) :
    wpAny (model X.prog X.w) X.A (call (.ref C) us (ks.zip ws)) (EP X pins σ Q) X.xe s := by
  have I1 := I.made (C := C)
  have lt : ∀ {b : Addr} {o : HO}, H b = some o → b < s.heap.objs.size := fun {b o} e => I.hok.lt e
  have n0 : H s.heap.objs.size = none := by
    cases e : H s.heap.objs.size with
    | none => rfl
    | some o => exact absurd (lt e) (Nat.lt_irrefl _)
  have n1 : H (s.heap.objs.size + 1) = none := by
    cases e : H (s.heap.objs.size + 1) with
    | none => rfl
    | some o => exact absurd (Nat.lt_trans (Nat.lt_succ_self _) (lt e)) (Nat.lt_irrefl _)
  refine wpAny_call (Att.make_obj I.kIn M.makes M.init M.fn ?_)
  refine codeAny_mono (F.run _ X.stack _ _ ⟨.ref (s.heap.objs.size + 1) :: us, ks.zip ws⟩ (g (.ref (s.heap.objs.size + 1) :: us) ws) (gV (.ref (s.heap.objs.size + 1) :: vs) zs) _ E (hr.make _ _ _) (I1.env0.make _ _ _)
    (hb.to _ (.ref (s.heap.objs.size + 1) :: us) ws I1.kIn (by rw [List.length_cons, ← ru.length, hn]) (rz.length.symm.trans hm)) (hb.rel (.cons rfl ru) rz) (h _ _ n1 n0 (Nat.ne_of_lt (Nat.lt_succ_self _)))) (fun r s' hq => ?_)
  match r, hq with
  | .error er, hq => exact hx pins _ _ er s' I1 hq
  | .ok (.ret u), hq =>
    obtain ⟨v, H', I', rv', rfl, q'⟩ := I1.after hq
    cases rv'
    exact ⟨rfl, .ref _, H', I', rfl, q'⟩
  | .ok .next, hq => exact hq.elim
  | .ok .brk, hq => exact hq.elim
  | .ok .cont, hq => exact hq.elim
def tMakeS (C : Addr) (m : Nat) (sp : Sp) (gV : List V → List V → List V) (ES : L2.St → XK) (tk : TA) : TE := fun σ H Q => tk σ H fun zs H2 => zs.length = m ∧ ∀ x dx, H2 x = none → H2 dx = none → dx ≠ x → sp (gV [.ref x] zs) (upd (upd H2 dx (.own x)) x (.ins C dx [])) (fun v H3 => v = .non ∧ Q (.ref x) H3) (ES σ)
/-- x(k = v, ..), what is raised being wished for at the slots as they stand -/
theorem pe_makeKS (M : Mk X.K C f) (F : FnOk X.prog X.w X.K X.mg X.base CX k f fd ps sp) (hr : Room (k + 1) X.A) (hg : Gl X x) (hm : X.mg x = some (.ref C)) (hb : KBn X.K fd ps 1 ks g gV)
    (hx : ∀ σ, PassesAt CX X σ (ES σ)) (hkw : PK X kws tk)
    (hall : (backToKw pos (keywordEach kws X.env)).all (·.1.isSome) = true := by rfl)
    (hks : (backToKw pos (keywordEach kws X.env)).filterMap (·.1) = ks := by rfl)
    (hdb : (x == ("__debug__" : Str)) = false := by decide)
    (hpl : ((backTo pos (starEach [] X.env)).any (·.1) || (backToKw pos (keywordEach kws X.env)).any (·.1.isNone)) = false := by rfl) :
    PE X (.Call (.Name x p) [] kws pos) (tMakeS C ks.length sp gV ES tk) := by
  refine ⟨fun pins s σ H Q I h => ?_⟩
  refine wpAny_Call_Name_kw (ld_glob I hg hm ?_ hdb)
  refine PySem.W.callWith_KW0 (h₀ := X.base) I.ok.mod.kin M.kp hall ?_ hpl
  refine thn (hkw.run pos pins s σ H _ I h) fun ws s2 ⟨zs, H2, I2, rz, hl, q2⟩ => ⟨I2.kIn, ?_⟩
  rw [hks]
  exact run_makeS (n := 0) (vs := []) (us := []) M F hr hb (hx σ) I2 .nil rz rfl hl q2
def tMakeP (C : Addr) (m : Nat) (sp : Sp) (ES : L2.St → XK) (t : TA) : TE := fun σ H Q => t σ H fun vs H2 => vs.length = m ∧ ∀ x dx, H2 x = none → H2 dx = none → dx ≠ x → sp (.ref x :: vs) (upd (upd H2 dx (.own x)) x (.ins C dx [])) (fun v H3 => v = .non ∧ Q (.ref x) H3) (ES σ)
/-- x(e, ..), so too -/
theorem pe_makeS {m : Nat} (M : Mk X.K C f) (F : FnOk X.prog X.w X.K X.mg X.base CX k f fd ps sp) (hr : Room (k + 1) X.A) (hg : Gl X x) (hm : X.mg x = some (.ref C)) (hb : Binds X.K fd ps []) (hps : ps.length = m + 1)
    (hx : ∀ σ, PassesAt CX X σ (ES σ)) (ha : PA X (e :: es) t) (hdb : (x == ("__debug__" : Str)) = false := by decide)
    (he : starEach (e :: es) X.env = (false, eval e X.env) :: starEach es X.env := by rfl) (hpl : (backTo pos (starEach es X.env)).any (·.1) = false := by rfl) :
    PE X (.Call (.Name x p) (e :: es) [] pos) (tMakeP C m sp ES t) := by
  refine ⟨fun pins s σ H Q I h => ?_⟩
  refine wpAny_Call_Name_kw (ld_glob I hg hm ?_ hdb)
  refine PySem.W.callWith_K (h₀ := X.base) I.ok.mod.kin M.kp (thn (ha.run pos pins s σ H _ I h) fun us s1 ⟨vs, H1, I1, r, hl, q⟩ => ⟨I1.kIn, ?_⟩) he hpl
  have kb : KBn X.K fd ps (m + 1) [] (fun us _ => us) (fun vs _ => vs) := by
    refine ⟨fun s us ws kin h1 h2 => ?_, fun a _ => a⟩
    have b := hb s us kin (by rw [List.append_nil, hps, h1])
    rw [List.append_nil] at b
    exact b
  exact run_makeS (n := m) (zs := []) (ws := []) (ks := []) M F hr kb (hx σ) I1 r .nil hl rfl q
end
end Mq

namespace Mq
open PySem PySem.Spec PyProof.Rows L2
/-! ### data that stays is what it is -/
mutual
theorem eqv_td {K : PySem.W.Frag} {H : Hp} : ∀ {v : V} {d : PyData}, Td K H v d → PyData.eqv d d = true
  | _, _, .int i => by simp [PyData.eqv]
  | _, _, .str x => by simp [PyData.eqv]
  | _, _, .tup _ a => by
    simp only [PyData.eqv]
    exact eqv_tds a
theorem eqv_tds {K : PySem.W.Frag} {H : Hp} : ∀ {vs : List V} {ds : List PyData}, TdAll K H vs ds → PyData.eqvAll ds ds = true
  | _, _, .nil => by simp [PyData.eqvAll]
  | _, _, .cons a b => by
    simp only [PyData.eqvAll]
    rw [eqv_td a, eqv_tds b]
    rfl
end
theorem shaped_gd {w n : Nat} {d : PyData} (h : Gd w n d) (hn : n ≤ 64) : SeqAt.shaped d = true := by
  unfold SeqAt.shaped
  rw [h.cl, decide_eq_true (Nat.le_trans h.de hn)]
  rfl
end Mq

namespace Mq
open PySem PySem.Spec PyProof.Rows L2
/-! ### a dict beside a whole number -/
theorem dsa_eq (a : Addr) (b : Int) (u : Tok) : Builtin.Dict.dictSlotArgs "__eq__" ⟨[.ref a, .int b u], []⟩ = pure (.ref a, .int b u) := by rfl
theorem isa_eq (a : Addr) (b : Int) (u : Tok) : slotArgs "__eq__" 1 ⟨[.int b u, .ref a], []⟩ = pure (.int b u, [.ref a]) := by rfl
theorem sub_id : isSubtype (Value.type "int") (Value.type "dict") = pure false := by rfl
theorem dict_not_int (a : Addr) (b : Int) (u : Tok) : Meets (Builtin.«dict.__eq__» ⟨[.ref a, .int b u], []⟩) (fun _ R s => R (.ok (.ret .notImplemented)) s) := by
  intro prog w A R s hr
  unfold Builtin.«dict.__eq__»
  refine wpAny_bind ?_
  rw [dsa_eq]
  refine wpAny_pure ?_
  refine wpAny_bind ?_
  show wpAny _ _ (isSubtype (Value.type "int") (Value.type "dict")) _ _ _
  rw [sub_id]
  refine wpAny_pure ?_
  refine wpAny_bind (wpAny_rule ?_)
  exact wpAny_pure hr
theorem int_not_dict (a : Addr) (b : Int) (u : Tok) : Meets (Builtin.«int.__eq__» ⟨[.int b u, .ref a], []⟩) (fun _ R s => (∃ o es ep, s.heap.get? a = some o ∧ o.data = .dict es ep) ∧ R (.ok (.ret .notImplemented)) s) := by
  rintro prog w A R s ⟨⟨o, es, ep, ho, hd⟩, hr⟩
  unfold Builtin.«int.__eq__»
  refine wpAny_bind ?_
  rw [isa_eq]
  refine wpAny_pure ?_
  refine wpAny_bind (Q := _) ?_
  show wpAny _ _ (Builtin.Int.intOfSelf (.int b u)) _ _ _
  unfold Builtin.Int.intOfSelf
  refine wpAny_bind (wpAny_pure (wpAny_pure ?_))
  refine wpAny_bind ?_
  show wpAny _ _ (asInt? (.ref a)) _ _ _
  unfold asInt?
  refine wpAny_bind (wpAny_load ho ?_)
  rw [hd]
  refine wpAny_pure ?_
  refine wpAny_bind (wpAny_rule ?_)
  exact wpAny_pure hr
theorem op_eqDI {X : Cx} (hu : X.A.units < cLine) : OpR X (compareOp .Eq) (fun x y H Q => ∃ a kvs i, x = .ref a ∧ y = .int i ∧ H a = some (.dK kvs) ∧ Q (.bl false) H) := by
  intro pins s σ H x y v u Q I rx ry h
  obtain ⟨a, kvs, i, rfl, rfl, ha, q⟩ := h
  cases rx
  obtain ⟨t, rfl⟩ := ry
  have ok := I.hok a _ ha
  unfold ObjOk at ok
  obtain ⟨_, _, vs, _, dk⟩ := ok
  obtain ⟨o, es, ep, ho, hd, hcl⟩ : ∃ o es ep, s.heap.get? a = some o ∧ o.data = .dict es ep ∧ o.cls = .type "dict" := by
    obtain ⟨o, es, ep, h1, h2, h3, _⟩ := dk
    exact ⟨o, es, ep, h1, h3, h2.1⟩
  refine PySem.W.cmp_ofEq (SeqAt.rc_eq_decline_or (k := false) (Ta := "dict") (Tb := "int") ⟨o, ho, hcl⟩ (rfl : typeOf (.int i t) = _) (by decide) sub_id PySem.F.slot_dict_eq PySem.F.slot_int_eq_refl (fun Q' hq => ?_) (fun Q' hq => ?_) (fun Q' hq => ?_) (Or.inr hu) ⟨.bl false, H, I, rfl, q⟩)
  · exact call_meets PySem.F.slot_dict_eq ⟨o, ho, hcl⟩ PySem.F.entry_dict_eq (PySem.F.args_dict_eq_2 _ _) (dict_not_int a i t) hq
  · exact call_meets PySem.F.slot_int_eq_refl (rfl : typeOf (.int i t) = _) PySem.F.entry_int_eq (PySem.F.args_int_eq_2 _ _) (int_not_dict a i t) ⟨⟨o, es, ep, ho, hd⟩, hq⟩
  · exact wpAny_pure hq
theorem op_or {X : Cx} {f : Value → Value → Sem Value} {r1 r2 : R2} (h1 : OpR X f r1) (h2 : OpR X f r2) : OpR X f (fun x y H Q => r1 x y H Q ∨ r2 x y H Q) := by
  intro pins s σ H x y v u Q I rx ry h
  rcases h with h | h
  · exact h1 pins s σ H x y v u Q I rx ry h
  · exact h2 pins s σ H x y v u Q I rx ry h
end Mq

namespace Mq
open PySem PySem.Spec PyProof.Rows L2
/-! ### own objects with an `__eq__` of their own beside values of other kinds -/
section
variable {prog : Program} {w : World} {A : Around} {E : Value → Shared → Prop} {s : Shared} {K : PySem.W.Frag} {x C f : Addr} {ox : Obj} {od : Option Obj} {b tb : Value}
theorem try_own {op : Str} {Q : Value → Shared → Prop} (X : K.In s.heap) (I : PySem.W.InstAt s.heap x ox C od) (hs : PySem.W.findIn K (.ref C) op = some (some (.ref f))) (hf : PySem.W.isFn K (.ref f) = true)
    (h : wpAny (model prog w) A (call (.ref f) [.ref x, b]) (PySem.W.CmpBack Q) E s) : wpAny (model prog w) A (tryCompare (.ref x) op b) (fun r s' => ∃ v, r = some v ∧ Q v s') E s := by
  unfold tryCompare
  refine wpAny_bind (PySem.W.ifBound_K X I hs hf (wpAny_mono h (fun v s' hv => ?_) fun _ _ e => e))
  cases v <;> first | exact hv.elim | exact wpAny_pure ⟨_, rfl, hv⟩
/-- o == v, v of another kind -/
theorem rc_eqOV {T : String} {Q : Value → Shared → Prop} (hu : A.units < cLine) (X : K.In s.heap) (I : PySem.W.InstAt s.heap x ox C od) (hT : s.TypeIs b T) (hsub : PySem.W.subIn K (.type T) (.ref C) = some false)
    (hs : PySem.W.findIn K (.ref C) "__eq__" = some (some (.ref f))) (hf : PySem.W.isFn K (.ref f) = true)
    (h : wpAny (model prog w) A (call (.ref f) [.ref x, b]) (PySem.W.CmpBack Q) E s) : wpAny (model prog w) A (richCompare .Eq (.ref x) b) Q E s := by
  have one := try_own X I hs hf h
  simp only [richCompare, cmpInfo_Eq, oneThing_ref]
  refine wpAny_holding (wpAny_bind (wpAny_cRoomFor hu ?_))
  refine wpAny_bind (I.type.here ?_)
  refine wpAny_bind (wpAny_typeOf hT ?_)
  split
  · refine wpAny_bind ((PySem.W.looks_subIn X hsub).here ?_)
    simp only [Bool.false_eq_true, if_false, Bool.not_false, if_true]
    refine wpAny_bind (wpAny_mono one (fun r s' z => ?_) fun _ _ e => e)
    obtain ⟨v, rfl, hq⟩ := z
    exact wpAny_pure hq
  · rename_i q
    exact absurd (by simp) q
/-- v == o, v of another kind, whose own == declines -/
theorem rc_eqVO {T id : String} {Q : Value → Shared → Prop} (hu : A.units < cLine) (X : K.In s.heap) (I : PySem.W.InstAt s.heap x ox C od) (hT : s.TypeIs b T) (hsub : PySem.W.subIn K (.ref C) (.type T) = some false)
    (sl : Slot T "__eq__" id) (hc : ∀ Q' : Value → Shared → Prop, Q' .notImplemented s → wpAny (model prog w) A (call (.builtin id) [b, .ref x]) Q' E s)
    (hs : PySem.W.findIn K (.ref C) "__eq__" = some (some (.ref f))) (hf : PySem.W.isFn K (.ref f) = true)
    (h : wpAny (model prog w) A (call (.ref f) [.ref x, b]) (PySem.W.CmpBack Q) E s) : wpAny (model prog w) A (richCompare .Eq b (.ref x)) Q E s := by
  have one := try_own X I hs hf h
  have two : wpAny (model prog w) A (tryCompare b "__eq__" (.ref x)) (fun r s' => r = none ∧ s' = s) E s := wpAny_tryCompare_declines hT sl (hc _ ⟨rfl, rfl, rfl⟩)
  simp only [richCompare, cmpInfo_Eq, hT.oneThing_none]
  refine wpAny_holding (wpAny_bind (wpAny_cRoomFor hu ?_))
  refine wpAny_bind (wpAny_typeOf hT ?_)
  refine wpAny_bind (I.type.here ?_)
  split
  · refine wpAny_bind ((PySem.W.looks_subIn X hsub).here ?_)
    simp only [Bool.false_eq_true, if_false, Bool.not_false, if_true]
    refine wpAny_bind (m := tryCompare b _ (.ref x)) (wpAny_mono two (fun r s1 z => ?_) fun _ _ e => e)
    obtain ⟨z1, z2⟩ := z
    subst z1
    subst z2
    refine wpAny_bind (m := tryCompare (.ref x) _ b) (wpAny_mono one (fun r s' z => ?_) fun _ _ e => e)
    obtain ⟨v, rfl, hq⟩ := z
    exact wpAny_pure hq
  · rename_i q
    exact absurd (by simp) q
/-! != by the class's own == -/
theorem entry_neO {Q : Fin → Shared → Prop} (hu : A.units < cLine) (X : K.In s.heap) (I : PySem.W.InstAt s.heap x ox C od) (hs : PySem.W.findIn K (.ref C) "__eq__" = some (some (.ref f))) (hf : PySem.W.isFn K (.ref f) = true)
    (h : wpAny (model prog w) A (call (.ref f) [.ref x, b]) (fun v s' => ∃ r : Bool, v = .bool r ∧ Q (.done (.ret (.bool (!r)))) s') E s) :
    wpAny (model prog w) A (Builtin.«object.__ne__» ⟨[.ref x, b], []⟩) Q E s := by
  unfold Builtin.«object.__ne__»
  refine wpAny_bind ?_
  rw [show slotArgs "__ne__" 1 ⟨[.ref x, b], []⟩ = pure (.ref x, [b]) by rfl]
  refine wpAny_pure ?_
  refine wpAny_bind (wpAny_cRoomFor hu ?_)
  refine wpAny_bind (PySem.W.ifBound_K X I hs hf (wpAny_mono h (fun v s' hv => ?_) fun _ _ e => e))
  obtain ⟨r, rfl, q⟩ := hv
  exact wpAny_bind (wpAny_truthy_bool (wpAny_pure q))
theorem ifBound_objNe {M : Model} {args : List Value} {Q : Option Value → Shared → Prop} (X : K.In s.heap) (I : PySem.W.InstAt s.heap x ox C od) (hs : PySem.W.findIn K (.ref C) "__ne__" = some (some (.builtin "object.__ne__")))
    (h : wpAny M A (call (.builtin "object.__ne__") (.ref x :: args)) (fun v => Q (some v)) E s) : wpAny M A (callSpecialIfBound? (.ref x) "__ne__" args) Q E s := by
  simp only [callSpecialIfBound?, bindSpecialIfBound?]
  refine wpAny_holding (wpAny_bind (wpAny_bind (wpAny_bind (I.type.here ((PySem.W.looks_findIn X hs).here ?_)))))
  refine wpAny_bind (wpAny_askSetting (wpAny_ite ?_))
  have fin : wpAny M A (call (.builtin "object.__ne__") ([.ref x] ++ args) >>= fun v => pure (some v)) Q E s := wpAny_bind (wpAny_mono h (fun v s' h' => wpAny_pure h') fun _ _ h' => h')
  split
  · exact wpAny_bind (wpAny_of_eq (F.cmp_object.ne.bind _) (wpAny_pure (by exact fin)))
  · exact wpAny_tryCatch (wpAny_bind (wpAny_of_eq (F.cmp_object.ne.bind _) (wpAny_pure (by exact fin))))
/-- o != v -/
theorem rc_neO {Q : Value → Shared → Prop} (hu : A.units + 1 < cLine) (X : K.In s.heap) (I : PySem.W.InstAt s.heap x ox C od) (ht : ∀ Q : Value → Shared → Prop, Q tb s → wpAny (model prog w) A (typeOf b) Q E s)
    (hn : tb = .ref C ∨ PySem.W.subIn K tb (.ref C) = some false) (hm : PySem.W.mroIn K C (.type "object") = some true) (hne : PySem.W.findIn K (.ref C) "__ne__" = some (some (.builtin "object.__ne__")))
    (hs : PySem.W.findIn K (.ref C) "__eq__" = some (some (.ref f))) (hf : PySem.W.isFn K (.ref f) = true)
    (h : wpAny (model prog w) A.in1 (call (.ref f) [.ref x, b]) (fun v s' => ∃ r : Bool, v = .bool r ∧ Q (.bool (!r)) s') E s) : wpAny (model prog w) A (richCompare .NotEq (.ref x) b) Q E s := by
  have hu0 : A.units < cLine := Nat.lt_of_succ_lt hu
  have one : wpAny (model prog w) A (tryCompare (.ref x) "__ne__" b) (fun r s' => ∃ v, r = some v ∧ Q v s') E s := by
    unfold tryCompare
    refine wpAny_bind (ifBound_objNe X I hne (wpAny_call (codeAny_call_builtin F.cmp_object.ne.plain F.cmpEntry_ne (PySem.W.check_slot F.cmpKind_ne F.cmpSplit_ne (I.type.andThen (PySem.W.looks_mroIn X hm)) (F.cmpArgs_ne _ _)
      (entry_neO (A := A.in1) hu X I hs hf (wpAny_mono h (fun v s' hv => ?_) fun _ _ e => e))))))
    obtain ⟨r, rfl, q⟩ := hv
    exact ⟨r, rfl, wpAny_pure ⟨_, rfl, q⟩⟩
  simp only [richCompare, cmpInfo_NotEq, oneThing_ref]
  refine wpAny_holding (wpAny_bind (wpAny_cRoomFor hu0 ?_))
  refine wpAny_bind (I.type.here (wpAny_bind (ht _ ?_)))
  split
  · rename_i q
    have e : PySem.W.subIn K tb (.ref C) = some false := by
      rcases hn with e | e
      · rw [e] at q
        simp at q
      · exact e
    refine wpAny_bind ((PySem.W.looks_subIn X e).here ?_)
    simp only [Bool.false_eq_true, if_false]
    refine wpAny_bind (wpAny_mono one (fun r s' z => ?_) fun _ _ e => e)
    obtain ⟨v, rfl, hq⟩ := z
    exact wpAny_pure hq
  · refine wpAny_bind (wpAny_pure ?_)
    simp only [Bool.false_eq_true, if_false]
    refine wpAny_bind (wpAny_mono one (fun r s' z => ?_) fun _ _ e => e)
    obtain ⟨v, rfl, hq⟩ := z
    exact wpAny_pure hq
/-! the other kinds decline -/
theorem sub_of (X : K.In s.heap) (I : PySem.W.InstAt s.heap x ox C od) {T : String} (hsub : PySem.W.subIn K (.ref C) (.type T) = some false) {Q : Bool → Shared → Prop} (q : Q false s) : wpAny (model prog w) A (isInstance (.ref x) (.type T)) Q E s := by
  unfold isInstance
  exact wpAny_bind (I.type.here ((PySem.W.looks_subIn X hsub).here q))
theorem int_no (i : Int) (u : Tok) (I : PySem.W.InstAt s.heap x ox C od) (hd : ∀ p, ox.data ≠ .prim p) {R : Fin → Shared → Prop} (q : R (.done (.ret .notImplemented)) s) :
    wpAny (model prog w) A (Builtin.«int.__eq__» ⟨[.int i u, .ref x], []⟩) R E s := by
  unfold Builtin.«int.__eq__»
  refine wpAny_bind ?_
  rw [show slotArgs "__eq__" 1 ⟨[.int i u, .ref x], []⟩ = pure (.int i u, [.ref x]) by rfl]
  refine wpAny_pure ?_
  refine wpAny_bind (Q := _) ?_
  show wpAny _ _ (Builtin.Int.intOfSelf (.int i u)) _ _ _
  unfold Builtin.Int.intOfSelf
  refine wpAny_bind (wpAny_pure (wpAny_pure ?_))
  refine wpAny_bind ?_
  show wpAny _ _ (asInt? (.ref x)) _ _ _
  unfold asInt?
  refine wpAny_bind (wpAny_load I.at_ ?_)
  split
  · rename_i h
    exact (hd _ h).elim
  · refine wpAny_pure ?_
    refine wpAny_bind (wpAny_rule ?_)
    exact wpAny_pure q
theorem str_no (y : Str) (u : Tok) (I : PySem.W.InstAt s.heap x ox C od) (hd : ∀ p, ox.data ≠ .prim p) {R : Fin → Shared → Prop} (q : R (.done (.ret .notImplemented)) s) :
    wpAny (model prog w) A (Builtin.«str.__eq__» ⟨[.str y u, .ref x], []⟩) R E s := by
  unfold Builtin.«str.__eq__» Builtin.Str.strCompare
  refine wpAny_bind ?_
  rw [show Builtin.Str.strSlot "__eq__" 1 ⟨[.str y u, .ref x], []⟩ = pure (.str y u, y, [.ref x]) by rfl]
  refine wpAny_pure ?_
  refine wpAny_bind ?_
  show wpAny _ _ (asStr? (.ref x)) _ _ _
  unfold asStr?
  refine wpAny_bind (wpAny_load I.at_ ?_)
  split
  · rename_i h
    exact (hd _ h).elim
  · refine wpAny_pure ?_
    refine wpAny_bind (wpAny_rule ?_)
    exact wpAny_pure q
theorem tup_no (a : Addr) (X : K.In s.heap) (I : PySem.W.InstAt s.heap x ox C od) (hsub : PySem.W.subIn K (.ref C) (.type "tuple") = some false) {R : Fin → Shared → Prop} (q : R (.done (.ret .notImplemented)) s) :
    wpAny (model prog w) A (Builtin.«tuple.__eq__» ⟨[.ref a, .ref x], []⟩) R E s := by
  unfold Builtin.«tuple.__eq__»
  refine wpAny_bind ?_
  rw [show slotArgs "__eq__" 1 ⟨[.ref a, .ref x], []⟩ = pure (.ref a, [.ref x]) by rfl]
  refine wpAny_pure ?_
  refine wpAny_bind (sub_of X I hsub ?_)
  exact wpAny_pure q
theorem lst_no (a : Addr) (X : K.In s.heap) (I : PySem.W.InstAt s.heap x ox C od) (hsub : PySem.W.subIn K (.ref C) (.type "list") = some false) {R : Fin → Shared → Prop} (q : R (.done (.ret .notImplemented)) s) :
    wpAny (model prog w) A (Builtin.«list.__eq__» ⟨[.ref a, .ref x], []⟩) R E s := by
  unfold Builtin.«list.__eq__»
  refine wpAny_bind ?_
  rw [show slotArgs "__eq__" 1 ⟨[.ref a, .ref x], []⟩ = pure (.ref a, [.ref x]) by rfl]
  refine wpAny_pure ?_
  refine wpAny_bind (sub_of X I hsub ?_)
  exact wpAny_pure q
theorem dct_no (a : Addr) (X : K.In s.heap) (I : PySem.W.InstAt s.heap x ox C od) (hsub : PySem.W.subIn K (.ref C) (.type "dict") = some false) {R : Fin → Shared → Prop} (q : R (.done (.ret .notImplemented)) s) :
    wpAny (model prog w) A (Builtin.«dict.__eq__» ⟨[.ref a, .ref x], []⟩) R E s := by
  unfold Builtin.«dict.__eq__»
  refine wpAny_bind ?_
  rw [show Builtin.Dict.dictSlotArgs "__eq__" ⟨[.ref a, .ref x], []⟩ = pure (.ref a, .ref x) by rfl]
  refine wpAny_pure ?_
  refine wpAny_bind (sub_of X I hsub ?_)
  refine wpAny_bind (wpAny_rule ?_)
  exact wpAny_pure q
end
/-- a builtin's body, called by its slot -/
theorem call_slot {prog : Program} {w : World} {A : Around} {E : Value → Shared → Prop} {s : Shared} {T : String} {name : Str} {id : String} {B : Builtin} {self : Value} {rest : List Value} {Q : Value → Shared → Prop} (slot : Slot T name id) (hT : s.TypeIs self T)
    (entry : entryFor table id = some B) (args : argsOk id ⟨self :: rest, []⟩)
    (h : wpAny (model prog w) A.in1 (B ⟨self :: rest, []⟩) (GQ.FinOf prog w A (wants Q E)) (fun e s' => wants Q E (.error e) s') s) :
    wpAny (model prog w) A (call (.builtin id) (self :: rest)) Q E s := GQ.call_here slot hT entry args h
/-! ### the rules -/
/-- kinds that own objects are held beside -/
inductive KindV (K : PySem.W.Frag) (H : Hp) : V → String → Prop
  | non : KindV K H .non "NoneType"
  | int (i : Int) : KindV K H (.int i) "int"
  | str (y : Str) : KindV K H (.str y) "str"
  | lst {a : Addr} {xs : List V} : SqL K H a xs → KindV K H (.ref a) "list"
  | tup {a : Addr} {xs : List V} : SqT K H a xs → KindV K H (.ref a) "tuple"
  | dct {a : Addr} {kvs : List (Key × V)} : H a = some (.dK kvs) → KindV K H (.ref a) "dict"
def kinds6 : List String := ["NoneType", "int", "str", "list", "tuple", "dict"]
def isTy : Value → Bool
  | .type _ => true
  | _ => false
def tysOnly (T : String) : Bool := (fastBuiltinMro T).any fun l => l.all isTy
theorem sub_kind {K : PySem.W.Frag} {C : Addr} : ∀ T ∈ kinds6, PySem.W.subIn K (.type T) (.ref C) = some false := by
  intro T hT
  have h : kinds6.all tysOnly = true := by decide +kernel
  have h2 := List.all_eq_true.mp h T hT
  unfold tysOnly at h2
  show (fastBuiltinMro T).map (·.contains (.ref C)) = some false
  cases e : fastBuiltinMro T with
  | none =>
    rw [e] at h2
    cases h2
  | some l =>
    rw [e] at h2
    have h3 : l.all isTy = true := h2
    show some (l.contains (.ref C)) = some false
    congr 1
    rw [Bool.eq_false_iff]
    intro hc
    have hm : Value.ref C ∈ l := by simpa using hc
    have := List.all_eq_true.mp h3 _ hm
    cases this
theorem KindV.mem {K : PySem.W.Frag} {H : Hp} {y : V} {T : String} (h : KindV K H y T) : T ∈ kinds6 := by
  unfold kinds6
  cases h <;> simp
section
variable {X : Cx} {pins : List (Addr × Obj)} {σ : L2.St} {H : Hp} {s : Shared}
theorem KindV.ty (I : L2.Inv X pins σ H s) {y : V} {u : Value} {T : String} (h : KindV X.K H y T) (r : RelV y u) : s.TypeIs u T := by
  cases h with
  | non => cases r; exact (rfl : typeOf Value.none = pure (.type "NoneType"))
  | int i => obtain ⟨t, rfl⟩ := r; exact typeIs_int s i t
  | str z => obtain ⟨t, rfl⟩ := r; exact typeIs_str s z t
  | lst hs =>
    cases r
    obtain ⟨its, rv, ⟨o, n, ho, hc, _, hd⟩, _⟩ := I.list hs
    exact ⟨o, ho, hc⟩
  | tup hs =>
    cases r
    obtain ⟨its, rv, ⟨o, ho, hc, n, hd⟩, _⟩ := I.tuple hs
    exact ⟨o, ho, hc⟩
  | dct hs =>
    cases r
    obtain ⟨_, _, vs, _, o, es, ep, h1, h2, _⟩ := (show ObjOk X.prog X.w H s.heap _ (.dK _) from I.hok _ _ hs)
    exact ⟨o, h1, h2.1⟩
end
/-- what the class says -/
structure OwnEq (K : PySem.W.Frag) (C : Addr) : Prop where
  sub : ∀ T ∈ kinds6, PySem.W.subIn K (.ref C) (.type T) = some false
  ne : PySem.W.findIn K (.ref C) "__ne__" = some (some (.builtin "object.__ne__"))
  mo : PySem.W.mroIn K C (.type "object") = some true
def rOV (K : PySem.W.Frag) (C : Addr) (sp : Sp) (E : XK) : R2 := fun x y H Q => ∃ a dx fs T, x = .ref a ∧ H a = some (.ins C dx fs) ∧ KindV K H y T ∧ sp [.ref a, y] H (fun v H' => ∃ r : Bool, v = .bl r ∧ Q (.bl r) H') E
def rOO (C : Addr) (sp : Sp) (E : XK) : R2 := fun x y H Q => ∃ a b dx dy fs gs, x = .ref a ∧ y = .ref b ∧ H a = some (.ins C dx fs) ∧ H b = some (.ins C dy gs) ∧ sp [.ref a, .ref b] H (fun v H' => ∃ r : Bool, v = .bl r ∧ Q (.bl (!r)) H') E
section
variable {X : Cx} {CX : CXT} {k : Nat} {f C : Addr} {fd : FuncData} {ps : List Str} {sp : Sp} {E : XK}
theorem run_eq {A : Around} {pins : List (Addr × Obj)} {σ : L2.St} {H : Hp} {s : Shared} {v u : Value} {x y : V} {Q : Value → Shared → Prop} {P : Bool → Hp → Prop}
    (F : FnOk X.prog X.w X.K X.mg X.base CX k f fd ps sp) (hr : Room k A) (e0 : Env0 X.prog X.w X.K X.mg X.base A X.stack s H) (hb : Binds X.K fd ps []) (hx : Passes CX X E) (I : L2.Inv X pins σ H s) (rx : RelV x v) (ry : RelV y u)
    (q : sp [x, y] H (fun v H' => ∃ r : Bool, v = .bl r ∧ P r H') E) (hq : ∀ (r : Bool) s' H', L2.Inv X pins σ H' s' → P r H' → Q (.bool r) s') :
    wpAny (model X.prog X.w) A (call (.ref f) [v, u]) Q X.xe s := by
  have rv : Vals [x, y] [v, u] := .cons rx (.cons ry .nil)
  have hl : [v, u].length = ps.length := F.len _ _ _ _ q
  have bd := hb s [v, u] I.kIn (by rw [List.append_nil]; exact hl)
  rw [List.append_nil] at bd
  refine wpAny_call (codeAny_mono (F.run A X.stack s H ⟨[v, u], []⟩ [v, u] [x, y] _ E hr e0 bd rv q) (fun r s' hr' => ?_))
  match r, hr' with
  | .error er, hr' => exact hx pins σ H s er s' I hr'
  | .ok (.ret z), hr' =>
    obtain ⟨v', H', I', rv', r, rfl, q'⟩ := I.after hr'
    cases rv'
    exact hq r s' H' I' q'
  | .ok .next, hr' => exact hr'.elim
  | .ok .brk, hr' => exact hr'.elim
  | .ok .cont, hr' => exact hr'.elim
/-- o == v -/
theorem op_eqOV (hm : Meth X.K C "__eq__" f) (F : FnOk X.prog X.w X.K X.mg X.base CX k f fd ps sp) (hr : Room k X.A) (hb : Binds X.K fd ps []) (hx : Passes CX X E) : OpR X (compareOp .Eq) (rOV X.K C sp E) := by
  intro pins s σ H x y v u Q I rx ry h
  obtain ⟨a, dx, fs, T, rfl, ea, kd, q⟩ := h
  cases rx
  obtain ⟨o, J⟩ := inst_of I ea
  refine PySem.W.cmp_ofEq (rc_eqOV (by have := hr.un; omega) I.kIn J (kd.ty I ry) (sub_kind _ kd.mem) hm.at_ hm.fn ?_)
  exact run_eq (x := .ref a) (v := .ref a) F hr I.env0 hb hx I rfl ry q fun r s' H' I' q' => ⟨.bl r, H', I', rfl, q'⟩
/-- v == o -/
theorem op_eqVO (W : OwnEq X.K C) (hm : Meth X.K C "__eq__" f) (F : FnOk X.prog X.w X.K X.mg X.base CX k f fd ps sp) (hr : Room k X.A) (hb : Binds X.K fd ps []) (hx : Passes CX X E) : OpR X (compareOp .Eq) (fun y x H Q => rOV X.K C sp E x y H Q) := by
  intro pins s σ H y x u v Q I ry rx h
  obtain ⟨a, dx, fs, T, rfl, ea, kd, q⟩ := h
  cases rx
  obtain ⟨o, J⟩ := inst_of I ea
  have hd : ∀ p, (PySem.W.instObj C dx).data ≠ .prim p := fun p z => by cases z
  have fin := run_eq (x := .ref a) (v := .ref a) (Q := PySem.W.CmpBack (EP X pins σ Q)) F hr I.env0 hb hx I rfl ry q fun r s' H' I' q' => ⟨.bl r, H', I', rfl, q'⟩
  have hu : X.A.units < cLine := by have := hr.un; omega
  have hT := kd.ty I ry
  have hsub := W.sub _ kd.mem
  refine PySem.W.cmp_ofEq ?_
  cases kd with
  | non =>
    cases ry
    exact rc_eqVO hu I.kIn J hT hsub PySem.F.slot_NoneType_eq (fun Q' q => call_gives PySem.F.slot_NoneType_eq rfl PySem.F.entry_NoneType_eq (PySem.F.args_NoneType_eq_2 _ _) (SeqAt.NoneType___eq___none_ref_0 a) q) hm.at_ hm.fn fin
  | int i =>
    obtain ⟨t, rfl⟩ := ry
    exact rc_eqVO hu I.kIn J hT hsub PySem.F.slot_int_eq (fun Q' q => call_slot PySem.F.slot_int_eq hT PySem.F.entry_int_eq (PySem.F.args_int_eq_2 _ _) (int_no i t J hd q)) hm.at_ hm.fn fin
  | str z =>
    obtain ⟨t, rfl⟩ := ry
    exact rc_eqVO hu I.kIn J hT hsub PySem.F.slot_str_eq (fun Q' q => call_slot PySem.F.slot_str_eq hT PySem.F.entry_str_eq (PySem.F.args_str_eq_2 _ _) (str_no z t J hd q)) hm.at_ hm.fn fin
  | lst hs =>
    cases ry
    exact rc_eqVO hu I.kIn J hT hsub PySem.F.slot_list_eq (fun Q' q => call_slot PySem.F.slot_list_eq hT PySem.F.entry_list_eq (PySem.F.args_list_eq_2 _ _) (lst_no _ I.kIn J hsub q)) hm.at_ hm.fn fin
  | tup hs =>
    cases ry
    exact rc_eqVO hu I.kIn J hT hsub PySem.F.slot_tuple_eq (fun Q' q => call_slot PySem.F.slot_tuple_eq hT PySem.F.entry_tuple_eq (PySem.F.args_tuple_eq_2 _ _) (tup_no _ I.kIn J hsub q)) hm.at_ hm.fn fin
  | dct hs =>
    cases ry
    exact rc_eqVO hu I.kIn J hT hsub PySem.F.slot_dict_eq (fun Q' q => call_slot PySem.F.slot_dict_eq hT PySem.F.entry_dict_eq (PySem.F.args_dict_eq_2 _ _) (dct_no _ I.kIn J hsub q)) hm.at_ hm.fn fin
/-- o != v -/
def rOVn (K : PySem.W.Frag) (C : Addr) (sp : Sp) (E : XK) : R2 := fun x y H Q => ∃ a dx fs T, x = .ref a ∧ H a = some (.ins C dx fs) ∧ KindV K H y T ∧ sp [.ref a, y] H (fun v H' => ∃ r : Bool, v = .bl r ∧ Q (.bl (!r)) H') E
theorem op_neOV (W : OwnEq X.K C) (hm : Meth X.K C "__eq__" f) (F : FnOk X.prog X.w X.K X.mg X.base CX k f fd ps sp) (hr : Room (k + 1) X.A) (hb : Binds X.K fd ps []) (hx : Passes CX X E) : OpR X (compareOp .NotEq) (rOVn X.K C sp E) := by
  intro pins s σ H x y v u Q I rx ry h
  obtain ⟨a, dx, fs, T, rfl, ea, kd, q⟩ := h
  cases rx
  obtain ⟨o, J⟩ := inst_of I ea
  have hT := kd.ty I ry
  refine PySem.W.cmp_ofNotEq (rc_neO (by have := hr.un; omega) I.kIn J (fun Q q => wpAny_typeOf hT q) (Or.inr (sub_kind _ kd.mem)) W.mo W.ne hm.at_ hm.fn ?_)
  exact run_eq (x := .ref a) (v := .ref a) F hr.in1 I.env0.in1 hb hx I rfl ry q fun r s' H' I' q' => ⟨r, rfl, .bl (!r), H', I', rfl, q'⟩
/-- o != p, both of one class -/
theorem op_neOO (W : OwnEq X.K C) (hm : Meth X.K C "__eq__" f) (F : FnOk X.prog X.w X.K X.mg X.base CX k f fd ps sp) (hr : Room (k + 1) X.A) (hb : Binds X.K fd ps []) (hx : Passes CX X E) : OpR X (compareOp .NotEq) (rOO C sp E) := by
  intro pins s σ H x y v u Q I rx ry h
  obtain ⟨a, b, dx, dy, fs, gs, rfl, rfl, ea, eb, q⟩ := h
  cases rx
  cases ry
  obtain ⟨o, J⟩ := inst_of I ea
  obtain ⟨o2, J2⟩ := inst_of I eb
  refine PySem.W.cmp_ofNotEq (rc_neO (tb := .ref C) (by have := hr.un; omega) I.kIn J (fun Q q => J2.type.here q) (Or.inl rfl) W.mo W.ne hm.at_ hm.fn ?_)
  exact run_eq (x := .ref a) (v := .ref a) (y := .ref b) F hr.in1 I.env0.in1 hb hx I rfl rfl q fun r s' H' I' q' => ⟨r, rfl, .bl (!r), H', I', rfl, q'⟩
end
end Mq

namespace Mq
open PySem PySem.Spec PyProof.Rows L2
/-! ### a list of any things beside a list without things; two lists of unlike lengths -/
section
variable {X : Cx}
theorem op_neNil (hu : X.A.units < cLine) : OpR X (compareOp .NotEq) (fun x y H Q => ∃ a b xs, x = .ref a ∧ y = .ref b ∧ SqL X.K H a xs ∧ SqL X.K H b [] ∧ Q (.bl (!xs.isEmpty)) H) := by
  intro pins s σ H x y v u Q I rx ry h
  obtain ⟨a, b, xs, rfl, rfl, ha, hb, q⟩ := h
  cases rx
  cases ry
  obtain ⟨us, r1, p1, _⟩ := I.list ha
  obtain ⟨ws, r2, p2, _⟩ := I.list hb
  have hl := r1.length
  cases r2
  refine PySem.W.cmp_ofNotEq ?_
  cases xs with
  | nil =>
    cases r1
    refine SeqAt.RcNeAt.lists (e := fun _ => true) p1.isList p2.isList rfl hu (fun j h1 _ => absurd h1 (by simp)) X.prog X.w _ _ ?_
    exact ⟨.bl false, H, I, rfl, q⟩
  | cons x xs =>
    refine SeqAt.RcNeAt.lists_lengths p1.isList p2.isList ?_ hu X.prog X.w _ _ ⟨.bl true, H, I, rfl, q⟩
    rw [List.size_toArray, ← hl]
    simp
theorem op_eqNil (hu : X.A.units < cLine) : OpR X (compareOp .Eq) (fun x y H Q => ∃ a b xs, x = .ref a ∧ y = .ref b ∧ SqL X.K H a xs ∧ SqL X.K H b [] ∧ Q (.bl xs.isEmpty) H) := by
  intro pins s σ H x y v u Q I rx ry h
  obtain ⟨a, b, xs, rfl, rfl, ha, hb, q⟩ := h
  cases rx
  cases ry
  obtain ⟨us, r1, p1, _⟩ := I.list ha
  obtain ⟨ws, r2, p2, _⟩ := I.list hb
  have hl := r1.length
  cases r2
  refine PySem.W.cmp_ofEq ?_
  cases xs with
  | nil =>
    cases r1
    refine SeqAt.RcAt.lists (e := fun _ => true) p1.isList p2.isList rfl hu (fun j h1 _ => absurd h1 (by simp)) X.prog X.w _ _ ?_
    exact ⟨.bl true, H, I, rfl, q⟩
  | cons x xs =>
    refine SeqAt.RcAt.lists_lengths p1.isList p2.isList ?_ hu X.prog X.w _ _ ⟨.bl false, H, I, rfl, q⟩
    rw [List.size_toArray, ← hl]
    simp
end
end Mq

namespace Mq
open PySem PySem.Spec PyProof.Rows L2
open SX (S)
/-! ### a tuple of any things beside the empty tuple -/
section
variable {X : Cx}
theorem op_eqTup0 (hu : X.A.units < cLine) : OpR X (compareOp .Eq) (fun x y H Q => ∃ a b xs, x = .ref a ∧ y = .ref b ∧ SqT X.K H a xs ∧ SqT X.K H b [] ∧ Q (.bl xs.isEmpty) H) := by
  intro pins s σ H x y v u Q I rx ry h
  obtain ⟨a, b, xs, rfl, rfl, ha, hb, q⟩ := h
  cases rx
  cases ry
  obtain ⟨us, r1, p1, _⟩ := I.tuple ha
  obtain ⟨ws, r2, p2, _⟩ := I.tuple hb
  have hl := r1.length
  cases r2
  refine PySem.W.cmp_ofEq ?_
  refine SeqAt.RcAt.tuples (e := fun _ => true) p1 p2 hu (fun j _ h2 => absurd h2 (by simp)) X.prog X.w _ _ ?_
  refine ⟨.bl xs.isEmpty, H, I, ?_, q⟩
  have e : ((List.range (min us.toArray.size ([] : List Value).toArray.size)).all (fun _ => true) && us.toArray.size == ([] : List Value).toArray.size) = xs.isEmpty := by
    rw [List.size_toArray, List.size_toArray, ← hl]
    cases xs <;> simp
  rw [e]
  rfl
end
/-! ### data of tuples, texts, numbers and None: where tuples stay, it stays -/
mutual
inductive Tn (K : PySem.W.Frag) (H : Hp) : V → PyData → Prop
  | non : Tn K H .non .none
  | int (k : Nat) : k ≤ 1000 → Tn K H (.int (k : Nat)) (.int (k : Nat))
  | str (x : Str) : Tn K H (.str x) (.str x)
  | tup {a : Addr} {xs : List V} {ds : List PyData} : SqT K H a xs → TnAll K H xs ds → Tn K H (.ref a) (.tuple ds)
inductive TnAll (K : PySem.W.Frag) (H : Hp) : List V → List PyData → Prop
  | nil : TnAll K H [] []
  | cons {v : V} {vs : List V} {d : PyData} {ds : List PyData} : Tn K H v d → TnAll K H vs ds → TnAll K H (v :: vs) (d :: ds)
end
section
variable {K : PySem.W.Frag} {H H' : Hp}
mutual
theorem Tn.kp (e : ∀ a xs, SqT K H a xs → SqT K H' a xs) : ∀ {v : V} {d : PyData}, Tn K H v d → Tn K H' v d
  | _, _, .non => .non
  | _, _, .int i hi => .int i hi
  | _, _, .str x => .str x
  | _, _, .tup h a => .tup (e _ _ h) (TnAll.kp e a)
theorem TnAll.kp (e : ∀ a xs, SqT K H a xs → SqT K H' a xs) : ∀ {v : List V} {d : List PyData}, TnAll K H v d → TnAll K H' v d
  | _, _, .nil => .nil
  | _, _, .cons a b => .cons (Tn.kp e a) (TnAll.kp e b)
end
theorem Tn.same (e : Same H H') {v : V} {d : PyData} (h : Tn K H v d) : Tn K H' v d := h.kp fun _ _ z => Same.tup e z
theorem TnAll.same (e : Same H H') {v : List V} {d : List PyData} (h : TnAll K H v d) : TnAll K H' v d := h.kp fun _ _ z => Same.tup e z
mutual
theorem Tn.dg : ∀ {v : V} {d : PyData}, Tn K H v d → Dg K H v d
  | _, _, .non => .non
  | _, _, .int i _ => .int _
  | _, _, .str x => .str x
  | _, _, .tup h a => .tup h (TnAll.dg a)
theorem TnAll.dg : ∀ {v : List V} {d : List PyData}, TnAll K H v d → DgAll K H v d
  | _, _, .nil => .nil
  | _, _, .cons a b => .cons (Tn.dg a) (TnAll.dg b)
end
mutual
theorem Tn.dp : ∀ {v : V} {d : PyData}, Tn K H v d → Dp K H v d
  | _, _, .non => .non
  | _, _, .int i _ => .int _
  | _, _, .str x => .str x
  | _, _, .tup h a => .tup h (TnAll.dp a)
theorem TnAll.dp : ∀ {v : List V} {d : List PyData}, TnAll K H v d → DpAll K H v d
  | _, _, .nil => .nil
  | _, _, .cons a b => .cons (Tn.dp a) (TnAll.dp b)
end
mutual
theorem Tn.dv {N : Addr → Prop} : ∀ {v : V} {d : PyData}, Tn K H v d → Dv K N H v d
  | _, _, .non => .non
  | _, _, .int i _ => .int _
  | _, _, .str x => .str x
  | _, _, .tup h a => .tup h (TnAll.dv a)
theorem TnAll.dv {N : Addr → Prop} : ∀ {v : List V} {d : List PyData}, TnAll K H v d → DvAll K N H v d
  | _, _, .nil => .nil
  | _, _, .cons a b => .cons (Tn.dv a) (TnAll.dv b)
end
theorem TnAll.len : ∀ {vs : List V} {ds : List PyData}, TnAll K H vs ds → vs.length = ds.length
  | _, _, .nil => rfl
  | _, _, .cons a b => congrArg (· + 1) b.len
theorem TnAll.snoc : ∀ {vs : List V} {ds : List PyData} {v : V} {d : PyData}, TnAll K H vs ds → Tn K H v d → TnAll K H (vs ++ [v]) (ds ++ [d])
  | _, _, _, _, .nil, h => .cons h .nil
  | _, _, _, _, .cons a b, h => .cons a (b.snoc h)
theorem TnAll.at : ∀ {vs : List V} {ds : List PyData} {i : Nat} {v : V}, TnAll K H vs ds → vs[i]? = some v → ∃ d, ds[i]? = some d ∧ Tn K H v d
  | _, _, 0, _, .cons a b, h => ⟨_, rfl, by cases h; exact a⟩
  | _, _, i + 1, _, .cons a b, h => TnAll.at (i := i) b h
theorem Tn.two' {a : Addr} {x y : V} {d e : PyData} (h : SqT K H a [x, y]) (h1 : Tn K H x d) (h2 : Tn K H y e) : Tn K H (.ref a) (.tuple [d, e]) := .tup h (.cons h1 (.cons h2 .nil))
mutual
theorem tn_lay : ∀ {v : V} {d : PyData}, Tn K H v d → lowD d = true → d.canLay0 = true
  | _, _, .non, _ => rfl
  | _, _, .int i _, _ => rfl
  | _, _, .str x, h => by
    show x.cps.all (fun d => decide (d < 1114112)) = true
    rw [← Array.all_toList]
    refine List.all_eq_true.mpr fun c hc => decide_eq_true ?_
    have h1 : (x.cps.toList.all fun c => decide (c < 128)) = true := h
    have := of_decide_eq_true (List.all_eq_true.mp h1 c hc)
    omega
  | _, _, .tup _ ha, h => tnAll_lay ha h
theorem tnAll_lay : ∀ {vs : List V} {ds : List PyData}, TnAll K H vs ds → lowAll ds = true → PyData.canLayAll0 ds = true
  | _, _, .nil, _ => rfl
  | _, _, .cons (d := d) (ds := ds) a b, h => by
    have h' : (lowD d && lowAll ds) = true := h
    obtain ⟨h1, h2⟩ := Bool.and_eq_true_iff.mp h'
    show (d.canLay0 && PyData.canLayAll0 ds) = true
    rw [tn_lay a h1, tnAll_lay b h2]
    rfl
end
theorem tn_shaped {v : V} {d : PyData} {w n : Nat} (h : Tn K H v d) (k : OkD w n d) (hn : n ≤ 64) : SeqAt.shaped d = true := by
  unfold SeqAt.shaped
  rw [tn_lay h k.lo, decide_eq_true (Nat.le_trans k.gs.de hn)]
  rfl
end
end Mq

namespace Lw
open PySem PySem.Spec PyProof.Rows L2 Mq
open SX (S)
/-! ### data that are, or are not, nodes -/
def webD (sg : List Nat) : PyData → Bool
  | .str x => allB x.cps.toList sg
  | _ => false
def belowD (m : Nat) : PyData → Bool
  | .int i => decide (0 ≤ i) && decide (i < (m : Int))
  | _ => false
def noneD : PyData → Bool
  | .none => true
  | _ => false
def headD : List PyData → Option Str
  | .str x :: _ => some x
  | _ => none
def belowAllB (m : Nat) (ds : List PyData) : Bool := ((List.range (ds.length - 2)).map fun k => belowD m (ds.getD (k + 2) .none)).all id
def readB (sg : List Nat) (m : Nat) (ds : List PyData) : Bool := decide (ds.length = sg.length + 2) && (decide (headD ds = some ("reads" : Str)) && belowAllB m ds)
def nodeB (sg : List Nat) (m : Nat) (ds : List PyData) : Bool :=
  match headD ds with
  | none => false
  | some x => if decide (x = "stops") = true then decide (ds.length = 2) && webD sg (ds.getD 1 .none) else if decide (x = "none") = true then decide (ds.length = 1)
    else readB sg m ds && (noneD (ds.getD 1 .none) || webD sg (ds.getD 1 .none))
def nodeD (sg : List Nat) (m : Nat) : PyData → Bool
  | .tuple ds => nodeB sg m ds
  | _ => false
theorem webD_no {sg : List Nat} {d : PyData} (h : ∀ x, d ≠ .str x) : webD sg d = false := by
  cases d with
  | str x => exact (h x rfl).elim
  | _ => rfl
theorem nodeD_no {sg : List Nat} {m : Nat} {d : PyData} (h : ∀ x, d ≠ .tuple x) : nodeD sg m d = false := by
  cases d with
  | tuple x => exact (h x rfl).elim
  | _ => rfl
theorem kit_noT {K : PySem.W.Frag} {a : String} (m : a ∈ sevenT) (n : a ≠ "tuple") : PySem.W.kitOne K (.type a) (.type "tuple") = some false :=
  kit_ty (by rw [kit_known a "tuple" m (by simp), decide_eq_false n])
theorem dg_int {K : PySem.W.Frag} {H : Hp} {v : V} {d : PyData} (h : Dg K H v d) : (∃ i, v = .int i ∧ d = .int i) ∨ (∃ b, v = .bl b ∧ d = .bool b) ∨ ((∃ a, TyX K H v (.type a) ∧ PySem.W.kitOne K (.type a) (.type "int") = some false) ∧ ∀ m, belowD m d = false) := by
  cases h with
  | non => exact Or.inr (Or.inr ⟨⟨_, .base .non, kit_ty (by decide +kernel)⟩, fun _ => rfl⟩)
  | bl b => exact Or.inr (Or.inl ⟨b, rfl, rfl⟩)
  | int i => exact Or.inl ⟨i, rfl, rfl⟩
  | str x => exact Or.inr (Or.inr ⟨⟨_, .base (.str x), kit_ty (by decide +kernel)⟩, fun _ => rfl⟩)
  | lst _ hs _ => exact Or.inr (Or.inr ⟨⟨_, ty_list hs, kit_ty (by decide +kernel)⟩, fun _ => rfl⟩)
  | tup hs _ => exact Or.inr (Or.inr ⟨⟨_, ty_tup hs, kit_ty (by decide +kernel)⟩, fun _ => rfl⟩)
  | dct hs _ => exact Or.inr (Or.inr ⟨⟨_, .base (.dK hs), kit_ty (by decide +kernel)⟩, fun _ => rfl⟩)
theorem dg_none {K : PySem.W.Frag} {H : Hp} {v : V} {d : PyData} (h : Dg K H v d) : decide (v = .non) = noneD d := by
  cases h with
  | non => rfl
  | bl b => exact decide_eq_false fun z => nomatch z
  | int i => exact decide_eq_false fun z => nomatch z
  | str x => exact decide_eq_false fun z => nomatch z
  | lst _ hs _ => exact decide_eq_false fun z => nomatch z
  | tup hs _ => exact decide_eq_false fun z => nomatch z
  | dct hs _ => exact decide_eq_false fun z => nomatch z
def isNumB : PyData → Bool
  | .int _ => true
  | _ => false
def spNumA (K : PySem.W.Frag) : Sp := fun vs H Q _ => ∃ (v : V) (d : PyData), vs = [v] ∧ Dg K H v d ∧ Q (.bl (isNumB d)) H
def spBelowA (K : PySem.W.Frag) : Sp := fun vs H Q _ => ∃ (v : V) (d : PyData) (m : Nat), vs = [v, .int (m : Nat)] ∧ Dg K H v d ∧ Q (.bl (belowD m d)) H
def spHeadA (K : PySem.W.Frag) : Sp := fun vs H Q _ => ∃ (v : V) (d : PyData), vs = [v] ∧ Dg K H v d ∧ Q (.bl (match d with | .tuple ds => (headD ds).isSome | _ => false)) H
def spReadingA (K : PySem.W.Frag) : Sp := fun vs H Q _ => ∃ (sg : List Nat) (a : Addr) (xs : List V) (ds : List PyData) (m : Nat), vs = [.str (S sg), .ref a, .int (m : Nat)] ∧
  SqT K H a xs ∧ DgAll K H xs ds ∧ (headD ds).isSome = true ∧ xs.length ≤ 90000 ∧ sg.length ≤ 90000 ∧ ∀ H', Same H H' → Q (.bl (readB sg m ds)) H'
section
variable {P : Program} {w : World} {K : PySem.W.Frag} {mg : Str → Option Value} {base : Heap}
theorem ok_is_numberA {f : Addr} {fd : FuncData} (F : Fun K "is_number" "is_number" s_is_number f fd) (B : Blt mg) : FnOk P w K mg base CX0 1 f fd ["thing"] (spNumA K) := by
  refine F.ok sc_is_number (fun vs H Q E h => ?_) (fun cdv A outer s H vs Q E hr h => ?_)
  · obtain ⟨v, _, rfl, _⟩ := h
    rfl
  · obtain ⟨v, d, rfl, hd, q⟩ := h
    refine ⟨_, pss_one (ps_ret (pe_and (pe_callB call_isi (by rfl) B.isi (by decide +kernel) (pa_cons (pv 0) (pa_cons (pe_bltn (v := .ty "int") (by rfl) B.int (by decide +kernel) rfl) pa_nil))) (pe_one (pe_not (pe_callB call_isi (by rfl) B.isi (by decide +kernel) (pa_cons (pv 0) (pa_cons (pe_bltn (v := .ty "bool") (by rfl) B.bool (by decide +kernel) rfl) pa_nil))))))), ?_⟩
    rcases dg_int hd with ⟨i, rfl, rfl⟩ | ⟨b, rfl, rfl⟩ | ⟨⟨a, t, k⟩, nx⟩
    · exact ⟨.int i, rfl, .int i, .ty "int", _, _, true, rfl, .ty _, .base (.int _), kit_ty (by decide +kernel), true, rfl, iteT ⟨.int i, rfl, .int i, .ty "bool", _, _, false, rfl, .ty _, .base (.int _), kit_ty (by decide +kernel), false, rfl, q⟩⟩
    · exact ⟨.bl b, rfl, .bl b, .ty "int", _, _, true, rfl, .ty _, .base (.bl _), kit_ty (by decide +kernel), true, rfl, iteT ⟨.bl b, rfl, .bl b, .ty "bool", _, _, true, rfl, .ty _, .base (.bl _), kit_ty (by decide +kernel), true, rfl, q⟩⟩
    · refine ⟨_, rfl, _, .ty "int", _, _, false, rfl, .ty _, t, k, false, rfl, iteF ?_⟩
      have e : isNumB d = false := by
        cases d with
        | int i =>
          have := nx (i.toNat + 1)
          cases hd
          cases t with
          | base t => cases t; exact absurd k (by rw [kit_ty (a := "int") (b := "int") (r := true) (by decide +kernel)]; simp)
        | _ => rfl
      rw [e] at q
      exact q
end
end Lw

namespace Lw
open PySem PySem.Spec PyProof.Rows L2 Mq
open SX (S)
theorem head_some {ds : List PyData} {x : Str} (h : headD ds = some x) : ∃ es, ds = .str x :: es := by
  unfold headD at h
  split at h
  · cases h
    exact ⟨_, rfl⟩
  · cases h
/-- the head of what is a tuple with a text ahead -/
theorem head_at {K : PySem.W.Frag} {H : Hp} {xs : List V} {ds : List PyData} {x : Str} (h : headD ds = some x) (ha : DgAll K H xs ds) : ∃ ys, xs = .str x :: ys := by
  obtain ⟨es, rfl⟩ := head_some h
  cases ha with
  | cons a b =>
    cases a
    exact ⟨_, rfl⟩
theorem dgall_at {K : PySem.W.Frag} {H : Hp} {xs : List V} {ds : List PyData} {i : Nat} (ha : DgAll K H xs ds) (hi : i < xs.length) : Dg K H xs[i] (ds.getD i .none) := by
  obtain ⟨d, hd, hg⟩ := ha.at (List.getElem?_eq_getElem hi)
  rw [List.getD_eq_getElem?_getD, hd]
  exact hg
section
variable {P : Program} {w : World} {K : PySem.W.Frag} {mg : Str → Option Value} {base : Heap}
theorem ok_is_belowA {f fN : Addr} {fd fdN : FuncData} (F : Fun K "is_below" "is_below" s_is_below f fd) (B : Blt mg)
    (FN : Fun K "is_number" "is_number" s_is_number fN fdN) (gN : mg "is_number" = some (.ref fN)) (bN : Binds K fdN ["thing"] []) : FnOk P w K mg base CX0 2 f fd ["thing", "many"] (spBelowA K) := by
  have GN : FnOk P w K mg base CX0 1 fN fdN ["thing"] (spNumA K) := ok_is_numberA FN B
  refine F.ok sc_is_below (fun vs H Q E h => ?_) (fun cdv A outer s H vs Q E hr h => ?_)
  · obtain ⟨v, d, m, rfl, _⟩ := h
    rfl
  · obtain ⟨v, d, m, rfl, hd, q⟩ := h
    refine ⟨_, pss_one (ps_ret (pe_and (pe_call GN (hr.mono (by decide)) (by rfl) gN FN.kp bN .nil pass0 (pa_cons (pv 0) pa_nil)) (pe_one (pe_chain op_le op_lt pe_int (pv 0) (pv 1))))), ?_⟩
    cases e : isNumB d with
    | false =>
      refine ⟨_, rfl, v, d, rfl, hd, ?_⟩
      rw [e]
      refine ⟨false, rfl, iteF ?_⟩
      have e2 : belowD m d = false := by
        cases d with
        | int i => cases e
        | _ => rfl
      rw [e2] at q
      exact q
    | true =>
      cases d with
      | int i =>
        cases hd
        refine ⟨_, rfl, _, _, rfl, .int i, true, rfl, iteT ⟨_, rfl, 0, i, rfl, rfl, _, rfl, ?_⟩⟩
        have q : Q (.bl (decide (0 ≤ i) && decide (i < (m : Int)))) H := q
        cases e0 : decide (0 ≤ i) with
        | false =>
          rw [e0] at q
          exact iteF q
        | true =>
          rw [e0] at q
          exact iteT ⟨_, rfl, i, _, rfl, rfl, q⟩
      | _ => cases e
end
end Lw

namespace Lw
open PySem PySem.Spec PyProof.Rows L2 Mq
open SX (S)
/-! ### data that are, or are not, items and wefts -/
def letD (sg : List Nat) : PyData → Bool
  | .str x => letB sg x.cps.toList
  | _ => false
theorem letD_one {sg : List Nat} {d : PyData} (h : letD sg d = true) : ∃ c ∈ sg, d = .str (S [c]) := by
  cases d with
  | str x =>
    obtain ⟨c, e, hc⟩ := letB_one (show letB sg x.cps.toList = true from h)
    exact ⟨c, hc, by rw [← e, S_of]⟩
  | _ => cases h
theorem letD_no {sg : List Nat} {d : PyData} (h : ∀ x, d ≠ .str x) : letD sg d = false := by
  cases d with
  | str x => exact (h x rfl).elim
  | _ => rfl
theorem weight_mem : ∀ {ds : List PyData} {d : PyData}, d ∈ ds → d.weight ≤ PyData.weightAll ds
  | e :: ds, d, h => by
    show d.weight ≤ e.weight + 1 + PyData.weightAll ds
    rcases List.mem_cons.mp h with rfl | h
    · omega
    · have := weight_mem h
      omega
theorem weight_len : ∀ ds : List PyData, ds.length ≤ PyData.weightAll ds
  | [] => Nat.zero_le _
  | e :: ds => by
    show ds.length + 1 ≤ e.weight + 1 + PyData.weightAll ds
    have := weight_len ds
    omega
theorem weight_at {ds : List PyData} {i : Nat} : (ds.getD i .none).weight ≤ PyData.weightAll ds + 10 := by
  rw [List.getD_eq_getElem?_getD]
  cases h : ds[i]? with
  | none =>
    show PyData.weight .none ≤ _
    have : PyData.weight .none ≤ 10 := by decide +kernel
    omega
  | some d =>
    have := weight_mem (List.mem_of_getElem? h)
    show d.weight ≤ _
    omega
/-- a tuple of two things, as it stands -/
theorem dg_two {K : PySem.W.Frag} {H : Hp} {v : V} {d e : PyData} (h : Dg K H v (.tuple [d, e])) : ∃ a x y, v = .ref a ∧ SqT K H a [x, y] ∧ Dg K H x d ∧ Dg K H y e := by
  cases h with
  | tup h a =>
    cases a with
    | cons a b =>
      cases b with
      | cons b c =>
        cases c
        exact ⟨_, _, _, rfl, h, a, b⟩
theorem dg_txt {K : PySem.W.Frag} {H : Hp} {v : V} {x : Str} (h : Dg K H v (.str x)) : v = .str x := by
  cases h
  rfl
theorem dg_num {K : PySem.W.Frag} {H : Hp} {v : V} {i : Int} (h : Dg K H v (.int i)) : v = .int i := by
  cases h
  rfl
def itemB (sg w : List Nat) : Bool := letB sg w || (decide (w = [63, 45]) || (decide (w.take 1 = [63]) && letB sg (w.drop 1)))
def itemD (sg : List Nat) : PyData → Bool
  | .str x => itemB sg x.cps.toList
  | _ => false
theorem itemD_no {sg : List Nat} {d : PyData} (h : ∀ x, d ≠ .str x) : itemD sg d = false := by
  cases d with
  | str x => exact (h x rfl).elim
  | _ => rfl
/-- all of the data are so: as the comprehension tells it -/
def allI (p : PyData → Bool) (es : List PyData) : Bool := ((List.range es.length).map fun k => p (es.getD k .none)).all id
theorem allI_eq (p : PyData → Bool) (es : List PyData) : allI p es = es.all p := by
  unfold allI
  rw [Bool.eq_iff_iff, List.all_map, List.all_eq_true, List.all_eq_true]
  constructor
  · intro h x hx
    obtain ⟨i, hi, rfl⟩ := List.mem_iff_getElem.mp hx
    have := h i (List.mem_range.mpr hi)
    rw [Function.comp, List.getD_eq_getElem?_getD, List.getElem?_eq_getElem hi] at this
    exact this
  · intro h i hi
    have hi := List.mem_range.mp hi
    rw [Function.comp, List.getD_eq_getElem?_getD, List.getElem?_eq_getElem hi]
    exact h _ (List.getElem_mem hi)
def weftD (sg : List Nat) : PyData → Bool
  | .tuple es => allI (itemD sg) es
  | _ => false
theorem weftD_no {sg : List Nat} {d : PyData} (h : ∀ x, d ≠ .tuple x) : weftD sg d = false := by
  cases d with
  | tuple x => exact (h x rfl).elim
  | _ => rfl
def spLetterA (K : PySem.W.Frag) : Sp := fun vs H Q _ => ∃ (sg : List Nat) (v : V) (d : PyData), vs = [.str (S sg), v] ∧ Dg K H v d ∧ d.weight ≤ 100000 ∧ Q (.bl (letD sg d)) H
def spItemA (K : PySem.W.Frag) : Sp := fun vs H Q _ => ∃ (sg : List Nat) (v : V) (d : PyData), vs = [.str (S sg), v] ∧ Dg K H v d ∧ d.weight ≤ 100000 ∧ Q (.bl (itemD sg d)) H
def spWeftA (K : PySem.W.Frag) : Sp := fun vs H Q _ => ∃ (sg : List Nat) (v : V) (d : PyData), vs = [.str (S sg), v] ∧ Dg K H v d ∧ d.weight ≤ 100000 ∧ ∀ H', Same H H' → Q (.bl (weftD sg d)) H'
section
variable {P : Program} {w : World} {K : PySem.W.Frag} {mg : Str → Option Value} {base : Heap}
theorem ok_letterA {f : Addr} {fd : FuncData} (F : Fun K "is_letter" "is_letter" s_is_letter f fd) (B : Blt mg) : FnOk P w K mg base CX0 1 f fd ["letters", "thing"] (spLetterA K) := by
  refine F.ok sc_is_letter (fun vs H Q E h => ?_) (fun cdv A outer s H vs Q E hr h => ?_)
  · obtain ⟨_, _, _, rfl, _⟩ := h
    rfl
  · obtain ⟨sg, v, d, rfl, hd, hw, q⟩ := h
    refine ⟨_, pss_one (ps_ret (pe_and (pe_callB call_isi (by rfl) B.isi (by decide +kernel) (pa_cons (pv 1) (pa_cons (pe_bltn (v := .ty "str") (by rfl) B.str (by decide +kernel) rfl) pa_nil))) (pe_and (pe_cmpR op_eq (pe_callB call_len (by rfl) B.len (by decide +kernel) (pa_cons (pv 1) pa_nil)) pe_int (nomark _)) (pe_one (pe_cmpR op_in_sign (pv 1) (pv 0) rfl))))), ?_⟩
    rcases dg_str hd with ⟨z, rfl, rfl⟩ | ⟨⟨a, t, m, n⟩, nx⟩
    · have hz : z.length ≤ 100000 := hw
      have q : Q (.bl (letB sg z)) H := q
      refine ⟨_, rfl, _, .ty "str", _, _, true, rfl, .ty _, .base (.str _), kit_self, true, rfl, iteT ⟨_, rfl, _, _, rfl, len_S hz, rfl, _, rfl, ?_⟩⟩
      clear hd hw
      match z, q with
      | [], q => exact ifF rfl q
      | [c], q =>
        refine ifT rfl ⟨_, rfl, _, rfl, c, S sg, rfl, rfl, ?_⟩
        exact q
      | a :: b :: r, q =>
        refine ifF (decide_eq_false fun e => ?_) q
        have e1 := V.int.inj e
        have e2 : ((a :: b :: r).length : Int) = 1 := e1
        rw [List.length_cons, List.length_cons] at e2
        omega
    · rw [letD_no nx] at q
      exact ⟨_, rfl, _, .ty "str", _, _, false, rfl, .ty _, t, kit_no m n, false, rfl, iteF q⟩
theorem ix_tupK {X : Cx} {K : PySem.W.Frag} (h : X.K = K) : IxR X (rIxT K) := h ▸ ix_tup
theorem ix_listK {X : Cx} {K : PySem.W.Frag} (h : X.K = K) : IxR X (rIxL K) := h ▸ ix_list
theorem ok_itemA {f fL : Addr} {fd fdL : FuncData} (F : Fun K "is_item" "is_item" s_is_item f fd) (B : Blt mg)
    (FL : Fun K "is_letter" "is_letter" s_is_letter fL fdL) (gL : mg "is_letter" = some (.ref fL)) (bL : Binds K fdL ["letters", "thing"] []) : FnOk P w K mg base CX0 2 f fd ["letters", "thing"] (spItemA K) := by
  have GL : FnOk P w K mg base CX0 1 fL fdL ["letters", "thing"] (spLetterA K) := ok_letterA FL B
  refine F.ok sc_is_item (fun vs H Q E h => ?_) (fun cdv A outer s H vs Q E hr h => ?_)
  · obtain ⟨_, _, _, rfl, _⟩ := h
    rfl
  · obtain ⟨sg, v, d, rfl, hd, hw, q⟩ := h
    refine ⟨_, (pss_cons (ps_if (pt_not (pt_val (pe_callB call_isi (by rfl) B.isi (by decide +kernel) (pa_cons (pv 1) (pa_cons (pe_bltn (v := .ty "str") (by rfl) B.str (by decide +kernel) rfl) pa_nil))))) (pss_one (ps_ret pe_bl)) pss_nil)
      (pss_one (ps_ret (pe_or (pe_call GL (hr.mono (by decide)) (by rfl) gL FL.kp bL .nil pass0 (pa_cons (pv 0) (pa_cons (pv 1) pa_nil))) (pe_or (pe_cmpR op_eq (pv 1) pe_str (nomark _)) (pe_one (pe_and (pe_cmpR op_eq (pe_slice sl_str (pv 1) po_none (po_some pe_int)) pe_str (nomark _)) (pe_one (pe_call GL (hr.mono (by decide)) (by rfl) gL FL.kp bL .nil pass0 (pa_cons (pv 0) (pa_cons (pe_slice sl_str (pv 1) (po_some pe_int) po_none) pa_nil))))))))))), ?_⟩
    rcases dg_str hd with ⟨u, rfl, rfl⟩ | ⟨⟨a, t, m, n⟩, nx⟩
    rotate_left
    · rw [itemD_no nx] at q
      exact ⟨_, rfl, _, .ty "str", _, _, false, rfl, .ty _, t, kit_no m n, false, rfl, ifT rfl q⟩
    have hz : u.length ≤ 100000 := hw
    have hl : (S u).length ≤ sizeLine := sz_le (by rw [SX.S_len]; omega)
    have q : Q (.bl (itemB sg u)) H := q
    refine ⟨_, rfl, _, .ty "str", _, _, true, rfl, .ty _, .base (.str _), kit_self, true, rfl, ifF rfl ?_⟩
    unfold itemB at q
    refine ⟨_, rfl, _, rfl, sg, .str (S u), .str (S u), rfl, .str _, hw, ?_⟩
    rw [show letD sg (.str (S u)) = letB sg u from rfl]
    refine ⟨_, rfl, ?_⟩
    cases e1 : letB sg u with
    | true =>
      rw [e1] at q
      exact ifT rfl q
    | false =>
      rw [e1] at q
      refine ifF rfl ⟨_, rfl, rfl, _, rfl, ?_⟩
      rw [show decide (V.str (S u) = V.str "?-") = decide (u = [63, 45]) from S_dec u [63, 45]]
      cases e2 : decide (u = [63, 45]) with
      | true =>
        rw [e2] at q
        exact ifT rfl q
      | false =>
        rw [e2] at q
        refine ifF rfl ⟨_, rfl, 1, rfl, S u, rfl, hl, ?_⟩
        rw [show cutS (S u) none (some 1) = S (u.take 1) from cutS_to u 1]
        refine ⟨rfl, _, rfl, ?_⟩
        rw [show decide (V.str (S (u.take 1)) = V.str "?") = decide (u.take 1 = [63]) from S_dec (u.take 1) [63]]
        cases e3 : decide (u.take 1 = [63]) with
        | false =>
          rw [e3] at q
          exact ifF rfl q
        | true =>
          rw [e3] at q
          refine ifT rfl ⟨_, rfl, _, rfl, 1, rfl, S u, rfl, hl, ?_⟩
          rw [show cutS (S u) (some 1) none = S (u.drop 1) from cutS_from u 1]
          exact ⟨sg, .str (S (u.drop 1)), .str (S (u.drop 1)), rfl, .str _, (show (u.drop 1).length ≤ 100000 by rw [List.length_drop]; omega), q⟩
theorem ok_weftA {f fI : Addr} {fd fdI : FuncData} (F : Fun K "is_weft" "is_weft" s_is_weft f fd) (B : Blt mg)
    (FI : Fun K "is_item" "is_item" s_is_item fI fdI) (gI : mg "is_item" = some (.ref fI)) (bI : Binds K fdI ["letters", "thing"] []) (GI : FnOk P w K mg base CX0 2 fI fdI ["letters", "thing"] (spItemA K)) :
    FnOk P w K mg base CX0 3 f fd ["letters", "thing"] (spWeftA K) := by
  refine F.ok sc_is_weft (fun vs H Q E h => ?_) (fun cdv A outer s H vs Q E hr h => ?_)
  · obtain ⟨_, _, _, rfl, _⟩ := h
    rfl
  · obtain ⟨sg, v, d, rfl, hd, hw, q⟩ := h
    refine ⟨_, (pss_one (ps_ret (pe_and (pe_callB call_isi (by rfl) B.isi (by decide +kernel) (pa_cons (pv 1) (pa_cons (pe_bltn (v := .ty "tuple") (by rfl) B.tuple (by decide +kernel) rfl) pa_nil))) (pe_one (pe_callB (cr_all rfl) (by rfl) B.all (by decide +kernel) (pa_cons (pe_lc (own := [("item", 2)]) (g := gName 2) (tt := tYes) rfl sc_is_weft.nd (pi_tup (pv 1)) (blkOk_by (own := [("item", 2)]) (N := ["letters", "thing", "item"]) (sc := defScope s_is_weft) (by decide +kernel)) (fun _ _ _ _ _ => pg_name (i := 2) sc_is_weft.nd rfl (Or.inl rfl)) (fun _ _ _ _ _ => pts_nil) (fun _ _ _ _ _ => (pe_call GI (hr.mono (by decide)) (by rfl) gI FI.kp bI .nil pass0 (pa_cons (pv 0) (pa_cons (pv 2) pa_nil))))) pa_nil)))))), ?_⟩
    rcases dg_tup hd with ⟨p, xs, es, rfl, rfl, hp, ha⟩ | ⟨⟨a, t, m', n'⟩, nx⟩
    rotate_left
    · rw [weftD_no nx] at q
      exact ⟨_, rfl, _, .ty "tuple", _, _, false, rfl, .ty _, t, kit_noT m' n', false, rfl, iteF (q H (Same.refl H))⟩
    have hl := ha.len
    have q : ∀ H', Same H H' → Q (.bl (allI (itemD sg) es)) H' := q
    have hwd : PyData.weightAll es ≤ 100000 := hw
    have hle : es.length ≤ 100000 := Nat.le_trans (weight_len es) hwd
    refine ⟨_, rfl, _, .ty "tuple", _, _, true, rfl, .ty _, ty_tup hp, kit_ty (by decide +kernel), true, rfl, iteT ?_⟩
    unfold tCB tCons
    dsimp only
    refine lc_mapJ (n := es.length) (Y := YAt xs) (fun k => .bl (itemD sg (es.getD k .none))) (by omega) (fun R k => ?_) ?_ ?_
    · refine ⟨.ref p, rfl, ?_⟩
      have hwk := walk_tup (K := K) (a := p) (xs := xs)
      rw [hl] at hwk
      exact ⟨p, rfl, ⟨_, hp⟩, k _ _ _ hwk (fun H' g e => Same.tup e g) (Same.refl H) hp⟩
    · rintro i x H' H'' R hi sm ⟨rfl, hx⟩ k
      have hi2 : i < xs.length := by omega
      have hx' : x = xs[i] := by
        have h1 : xs[i]? = some x := hx
        rw [List.getElem?_eq_getElem hi2] at h1
        exact (Option.some.inj h1).symm
      have hg : Dg K H'' x (es.getD i .none) := by
        rw [hx']
        exact (dgall_at ha hi2).same sm
      have wi2 : (es.getD i .none).weight ≤ 100000 := by
        rw [List.getD_eq_getElem?_getD, List.getElem?_eq_getElem (by omega : i < es.length)]
        exact Nat.le_trans (weight_mem (List.getElem_mem _)) hwd
      exact ⟨rfl, _, rfl, _, rfl, sg, x, _, rfl, hg, wi2, k _ (Same.refl _)⟩
    · intro D H' hD sm hl'
      refine ⟨D, (List.range es.length).map fun k => itemD sg (es.getD k .none), rfl, SqL.of ?_, q _ sm⟩
      rw [List.map_map]
      exact hl'
end
end Lw

namespace Mq
open PySem PySem.Spec PyProof.Rows L2
/-! ### a display of one pair whose key is a tuple -/
def tDispT (tk tv : TE) : TE := fun σ H Q => ∀ p, H p = none → tk σ (upd H p (.dT [])) fun x H1 => tv σ H1 fun y H2 => H2 p = some (.dT []) ∧ ∃ (b : Addr) (k : List Key), x = .ref b ∧ H2 b = some (.tup (k.map kV)) ∧ Q (.ref p) (upd H2 p (.dT [(k, y)]))
theorem pe_dispT {X : Cx} {pos : Pos} {k v : Expr} {tk tv : TE} (hu : X.A.units < cLine) (hk : PE X k tk) (hv : PE X v tv) : PE X (.Dict [some k] [v] pos) (tDispT tk tv) := by
  refine ⟨fun pins s σ H Q I q => ?_⟩
  have hn := I.hok.fresh (Nat.le_refl s.heap.objs.size)
  have I1 := I.laid (a := s.heap.objs.size) (o := .dT []) (h' := s.heap.push { cls := .type "dict", data := .dict #[] }) (t' := s.toks) (fun _ _ q => Heap.get?_push_of_some _ q) (Nat.le_refl _) (dt_empty s.heap I.big)
  refine wpAny_Dict_any rfl rfl (List.cons_ne_nil _ _) (by show 1 ≤ 15; decide) (thn ((pps_cons hk hv pps_nil).run pins _ σ _ (fun ps H2 => match ps with
    | [(x, y)] => H2 s.heap.objs.size = some (.dT []) ∧ ∃ (b : Addr) (k : List Key), x = .ref b ∧ H2 b = some (.tup (k.map kV)) ∧ Q (.ref s.heap.objs.size) (upd H2 s.heap.objs.size (.dT [(k, y)]))
    | _ => False) I1 (q _ hn)) fun ws s2 ⟨ps, H2, I2, rel, q2⟩ => ?_)
  match ps, rel, q2 with
  | [(x, y)], .cons ⟨rx, ry⟩ .nil, q2 =>
    obtain ⟨e, b, kk, ex, eb, q3⟩ := q2
    subst ex
    rename_i qv ru
    obtain ⟨u, r⟩ := qv
    cases (show u = Value.ref b from rx)
    obtain ⟨z, hd, xs, rel0, dd⟩ := dt_of I2.hok e
    cases rel0
    unfold storeAll
    rw [List.forIn_cons]
    refine wpAny_bind (wpAny_bind (wpAny_dictSet_heap (knd := tupleKind (mixKind X.prog X.w)) hu (key_of I2.hok eb) dd (fun h' dd' hs => ?_)))
    refine wpAny_pure ?_
    show wpAny _ _ (forIn [] _ _) _ _ _
    rw [List.forIn_nil]
    refine wpAny_pure ⟨.ref s.heap.objs.size, _, ?_, rfl, q3⟩
    obtain ⟨q, es, ep, hq, h2, h3, h4, _, h5⟩ := dd'
    refine d_write I2 (by rw [e]; exact True.intro) hs ⟨q, hq⟩ ⟨by show 1 ≤ sizeLine; decide, hd, _, (KT.put .nil kk eb ry).keeps fun c ys ec => ?_, q, es, ep, hq, h2, h3, h4, h5⟩
    rw [upd_ne (ne_of ec e (fun z => nomatch z))]
    exact ec
end Mq

namespace Mq
open PySem PySem.Spec PyProof.Rows L2
/-! ### tuples that were laid, joined -/
def rCatF : R2 := fun x y H Q => ∃ a b xs ys, x = .ref a ∧ y = .ref b ∧ H a = some (.tup xs) ∧ H b = some (.tup ys) ∧ xs.length + ys.length ≤ sizeLine ∧ ∀ p H', Same H H' → H' p = some (.tup (xs ++ ys)) → Q (.ref p) H'
theorem op_catF {X : Cx} : OpR X (binaryOp .Add) rCatF := by
  intro pins s σ H x y v u Q I rx ry h
  obtain ⟨a, b, xs, ys, ex, ey, hx, hy, hz, q⟩ := h
  refine op_catA pins s σ H x y v u Q I rx ry ⟨a, b, xs, ys, ex, ey, Or.inl (Or.inl hx), Or.inl (Or.inl hy), hz, fun e => q b H (Same.refl H) ?_, fun _ e => q a H (Same.refl H) ?_, fun _ _ p hp => q p _ (same_new hp) upd_same⟩
  · subst e
    exact hy
  · subst e
    rw [List.append_nil]
    exact hx
end Mq

namespace Mq
open PySem PySem.Spec PyProof.Rows L2
open SX (S)
/-! ### tests that may come out either way -/
def AnyB (σ : L2.St) (H : Hp) (t : TT) : Prop := ∀ Q : Bool → Hp → Prop, (∀ b, Q b H) → t σ H Q
def IsV (σ : L2.St) (H : Hp) (t : TE) (x : V) : Prop := ∀ Q : VK, Q x H → t σ H Q
section
variable {σ : L2.St} {H : Hp}
theorem IsV.var {i : Nat} {x : V} (h : σ[i]? = some (some x)) : IsV σ H (tVar i) x := fun Q q => ⟨x, h, q⟩
theorem IsV.c {x : V} : IsV σ H (tC x) x := fun Q q => q
theorem AnyB.and {t u : TT} (h : AnyB σ H t) (k : AnyB σ H u) : AnyB σ H (tAnd t u) := fun Q q => h _ fun b => by
  cases b with
  | false => rw [if_neg (by decide)]; exact q false
  | true => rw [if_pos rfl]; exact k Q q
theorem AnyB.or {t u : TT} (h : AnyB σ H t) (k : AnyB σ H u) : AnyB σ H (tOr t u) := fun Q q => h _ fun b => by
  cases b with
  | false => rw [if_neg (by decide)]; exact k Q q
  | true => rw [if_pos rfl]; exact q true
theorem AnyB.eq {a b : TE} {x y : V} (ha : IsV σ H a x) (hb : IsV σ H b y) (hs : scal x y = true) : AnyB σ H (tTest (tOp rEq a b)) := fun Q q => ha _ (hb _ ⟨hs, _, rfl, q _⟩)
theorem AnyB.ne {a b : TE} {x y : V} (ha : IsV σ H a x) (hb : IsV σ H b y) (hs : scal x y = true) : AnyB σ H (tTest (tOp rNe a b)) := fun Q q => ha _ (hb _ ⟨hs, _, rfl, q _⟩)
theorem AnyB.chainNE {a b c : TE} {x y z : V} (ha : IsV σ H a x) (hb : IsV σ H b y) (hc : IsV σ H c z) (hs : scal x y = true) (ht : scal y z = true) : AnyB σ H (tTest (tChain rNe rEq a b c)) := fun Q q => ha _ (hb _ ⟨hs, _, rfl, by
  cases (!decide (x = y)) with
  | false => rw [if_neg (by decide)]; exact ⟨_, rfl, q _⟩
  | true => rw [if_pos rfl]; exact hc _ ⟨ht, _, rfl, q _⟩⟩)
theorem AnyB.chainEE {a b c : TE} {x y z : V} (ha : IsV σ H a x) (hb : IsV σ H b y) (hc : IsV σ H c z) (hs : scal x y = true) (ht : scal y z = true) : AnyB σ H (tTest (tChain rEq rEq a b c)) := fun Q q => ha _ (hb _ ⟨hs, _, rfl, by
  cases (decide (x = y)) with
  | false => rw [if_neg (by decide)]; exact ⟨_, rfl, q _⟩
  | true => rw [if_pos rfl]; exact hc _ ⟨ht, _, rfl, q _⟩⟩)
theorem IsV.last {i : Nat} {sg : List Nat} {c : Nat} (h : σ[i]? = some (some (.str (S (sg ++ [c]))))) (hz : sg.length + 1 ≤ sizeLine) : IsV σ H (tOp rIxS (tVar i) (tUn (rU fun i => V.int (-i)) (tC (V.int 1)))) (.str (S [c])) := fun Q q =>
  ⟨_, h, _, rfl, S (sg ++ [c]), -1, c, rfl, rfl, by rw [SX.S_len, List.length_append]; exact hz, atI_last sg c, q⟩
end
end Mq

namespace Lw
open PySem PySem.Spec PyProof.Rows L2 Mq
open SX (S)
/-! ### folds of a drawn book -/
def keyN (g : Fd) : Nat × Nat := (g.x, g.y)
def Apart (gs : List Fd) : Prop := gs.Pairwise fun a b => keyN a ≠ keyN b
structure GsOk (sg : List Nat) (gs : List Fd) : Prop where
  few : gs.length ≤ 200
  ok : ∀ f ∈ gs, fdOk sg f
  nd : Apart gs
theorem nd_inj {l : List Nat} (h : l.Nodup) {a b : Nat} (ha : a < l.length) (hb : b < l.length) (e : l.getD a 0 = l.getD b 0) : a = b := by
  rw [List.getD_eq_getElem?_getD, List.getD_eq_getElem?_getD, List.getElem?_eq_getElem ha, List.getElem?_eq_getElem hb] at e
  refine (List.getElem?_inj ha h).mp ?_
  rw [List.getElem?_eq_getElem ha, List.getElem?_eq_getElem hb]
  exact congrArg some e
/-- what is drawn ahead of row i, column j -/
structure Part (sg : List Nat) (i j : Nat) (gs : List Fd) : Prop where
  len : gs.length ≤ 3 * i + j
  ok : ∀ f ∈ gs, fdOk sg f
  nd : Apart gs
  low : ∀ g ∈ gs, ∃ a b, a < sg.length ∧ b < sg.length ∧ g.x = sg.getD a 0 ∧ g.y = sg.getD b 0 ∧ (a < i ∨ (a = i ∧ b < j))
theorem Part.start (sg : List Nat) : Part sg 0 0 [] := ⟨Nat.zero_le _, (fun _ h => by cases h), .nil, fun _ h => by cases h⟩
theorem Part.skip {sg : List Nat} {i j : Nat} {gs : List Fd} (p : Part sg i j gs) : Part sg i (j + 1) gs :=
  ⟨by have := p.len; omega, p.ok, p.nd, fun g hg => by
    obtain ⟨a, b, h1, h2, h3, h4, h5⟩ := p.low g hg
    exact ⟨a, b, h1, h2, h3, h4, by omega⟩⟩
theorem Part.row {sg : List Nat} {i : Nat} {gs : List Fd} (p : Part sg i sg.length gs) (h3 : sg.length ≤ 3) : Part sg (i + 1) 0 gs :=
  ⟨by have := p.len; omega, p.ok, p.nd, fun g hg => by
    obtain ⟨a, b, h1, h2, h3, h4, h5⟩ := p.low g hg
    exact ⟨a, b, h1, h2, h3, h4, by omega⟩⟩
theorem Part.other {sg : List Nat} {i j : Nat} {gs : List Fd} (p : Part sg i j gs) (hn : sg.Nodup) (hi : i < sg.length) (hj : j < sg.length) : ∀ g ∈ gs, keyN g ≠ (sg.getD i 0, sg.getD j 0) := by
  intro g hg e
  obtain ⟨a, b, h1, h2, h3, h4, h5⟩ := p.low g hg
  injection e with e1 e2
  have := nd_inj hn h1 hi (h3.symm.trans e1)
  have := nd_inj hn h2 hj (h4.symm.trans e2)
  omega
theorem Part.put {sg z : List Nat} {i j : Nat} {gs : List Fd} (p : Part sg i j gs) (hn : sg.Nodup) (hi : i < sg.length) (hj : j < sg.length) (hz : z = [] ∨ ∃ c ∈ sg, z = [c]) :
    Part sg i (j + 1) (gs ++ [⟨sg.getD i 0, sg.getD j 0, z⟩]) := by
  refine ⟨by have := p.len; rw [List.length_append]; show gs.length + 1 ≤ _; omega, fun f hf => ?_, ?_, fun g hg => ?_⟩
  · rcases List.mem_append.mp hf with hf | hf
    · exact p.ok f hf
    · rw [List.mem_singleton.mp hf]
      exact ⟨getD_mem hi, getD_mem hj, hz⟩
  · refine List.pairwise_append.mpr ⟨p.nd, List.pairwise_singleton _ _, fun a ha b hb => ?_⟩
    rw [List.mem_singleton.mp hb]
    exact p.other hn hi hj a ha
  · rcases List.mem_append.mp hg with hg | hg
    · exact p.skip.low g hg
    · rw [List.mem_singleton.mp hg]
      exact ⟨i, j, hi, hj, rfl, rfl, Or.inr ⟨rfl, Nat.lt_succ_self j⟩⟩
theorem tab_new {gs : List Fd} {x y : Nat} (h : ∀ g ∈ gs, keyN g ≠ (x, y)) : ∀ p ∈ tabF gs, p.1 ≠ [Sum.inr (S [x]), Sum.inr (S [y])] := by
  intro p hp e
  obtain ⟨g, hg, rfl⟩ := List.mem_map.mp hp
  injection e with e1 e2
  injection e2 with e2 _
  exact h g hg (Prod.ext (S_one.mp (Sum.inr.inj e1)) (S_one.mp (Sum.inr.inj e2)))
def zOk (gs : List Fd) : Prop := ∀ g ∈ gs, g.z.length ≤ 1
theorem leftz {gs : List Fd} (h : zOk gs) {x y : Nat} {z : List Nat} (e : leftM gs x y = .some z) : z.length ≤ 1 := by
  unfold leftM at e
  cases hf : gs.find? fun f => decide (f.x = x) && decide (f.y = y) with
  | none => rw [hf] at e; cases e
  | some f =>
    rw [hf] at e
    cases e
    exact h f (List.mem_of_find?_eq_some hf)
theorem left_from {sg : List Nat} {gs : List Fd} (h : ∀ f ∈ gs, fdOk sg f) {x y : Nat} {z : List Nat} (e : leftM gs x y = .some z) : ∀ c ∈ z, c ∈ sg := by
  unfold leftM at e
  cases hf : gs.find? fun f => decide (f.x = x) && decide (f.y = y) with
  | none => rw [hf] at e; cases e
  | some f =>
    rw [hf] at e
    cases e
    rcases (h f (List.mem_of_find?_eq_some hf)).2.2 with e | ⟨c, hc, e⟩
    · intro d hd
      have hd : d ∈ f.z := hd
      rw [e] at hd
      cases hd
    · intro d hd
      have hd : d ∈ f.z := hd
      rw [e] at hd
      rw [List.mem_singleton.mp hd]
      exact hc
theorem GsOk.z {sg : List Nat} {gs : List Fd} (h : GsOk sg gs) : zOk gs := fun g hg => by
  rcases (h.ok g hg).2.2 with e | ⟨c, _, e⟩ <;> rw [e] <;> simp
def From (sg : List Nat) (l : List Nat) : Prop := ∀ c ∈ l, c ∈ sg
theorem laid_from {sg : List Nat} {gs : List Fd} (h : ∀ f ∈ gs, fdOk sg f) {w : List Nat} {y : Nat} (hw : From sg w) (hy : y ∈ sg) : From sg (laidM gs w y) := by
  have hc : From sg (w ++ [y]) := fun c hc => by
    rcases List.mem_append.mp hc with hc | hc
    · exact hw c hc
    · rw [List.mem_singleton.mp hc]
      exact hy
  unfold laidM
  split
  · exact hc
  · split
    · exact hc
    · rename_i z e
      intro c hc
      rcases List.mem_append.mp hc with hc | hc
      · exact hw c (List.dropLast_subset _ hc)
      · exact left_from h e c hc
theorem laidz_len {gs : List Fd} (h : zOk gs) (w : List Nat) (y : Nat) : (laidM gs w y).length ≤ w.length + 1 := by
  unfold laidM
  split
  · rw [List.length_append]
    exact Nat.le_refl _
  · split
    · rw [List.length_append]
      exact Nat.le_refl _
    · rename_i z e
      have := leftz h e
      rw [List.length_append, List.length_dropLast]
      omega
/-! ### the law's own world -/
def wKv (sg : List Nat) (ld : Addr) : List (Key × V) := [(.inr "letters", .str (S sg)), (.inr "folds", .ref ld)]
structure WAt (H : Hp) (wd ld : Addr) (sg : List Nat) (gs : List Fd) : Prop where
  w : H wd = some (.dK (wKv sg ld))
  l : H ld = some (.dT (tabF gs))
theorem WAt.same {H H' : Hp} {wd ld : Addr} {sg : List Nat} {gs : List Fd} (h : WAt H wd ld sg gs) (e : Same H H') : WAt H' wd ld sg gs := ⟨e _ _ h.w, e _ _ h.l⟩
theorem WAt.off {D C : Addr} {T : Nat} {H H' : Hp} {wd ld : Addr} {sg : List Nat} {gs : List Fd} (h : WAt H wd ld sg gs) (f : Off D C H H') (k : DeckAt D C T H) : WAt H' wd ld sg gs := by
  refine ⟨f wd _ ?_ ?_ h.w, f.at k h.l ⟨(fun _ z => nomatch z), (fun _ z => nomatch z)⟩⟩
  · rintro rfl
    obtain ⟨m, t, js, e, _⟩ := k.ex
    rw [h.w] at e
    have e2 := Option.some.inj e
    injection e2 with e2
    have e3 := congrArg List.length e2
    exact absurd e3 (by show ¬ 2 = 3; decide)
  · rintro rfl
    obtain ⟨m, t, js, _, e, _⟩ := k.ex
    rw [h.w] at e
    cases e
theorem WAt.put {H : Hp} {wd ld L : Addr} {sg : List Nat} {gs : List Fd} {xs ys : List V} (h : WAt H wd ld sg gs) (e : H L = some (.lst xs)) : WAt (upd H L (.lst ys)) wd ld sg gs := by
  refine ⟨?_, ?_⟩
  · rw [upd_ne (fun z => by have := h.w; rw [z, e] at this; cases this)]
    exact h.w
  · rw [upd_ne (fun z => by have := h.l; rw [z, e] at this; cases this)]
    exact h.l
def menuB : List (List Nat) := [[97, 98], [97, 98], [97, 98], [99, 100], [97, 98, 99]]
structure SgM (sg : List Nat) : Prop where
  pos : 0 < sg.length
  few : sg.length ≤ 3
  low : ∀ c ∈ sg, c < 128
  nd : sg.Nodup
  lets : lettersB sg = true
theorem menuB_ok : ∀ sg ∈ menuB, SgM sg := by
  intro sg h
  have h1 : (menuB.all fun sg => decide (0 < sg.length) && (decide (sg.length ≤ 3) && (sg.all (fun c => decide (c < 128)) && (lettersB sg && decide sg.Nodup)))) = true := by decide +kernel
  have h2 := List.all_eq_true.mp h1 sg h
  obtain ⟨a, h2⟩ := Bool.and_eq_true_iff.mp h2
  obtain ⟨b, h2⟩ := Bool.and_eq_true_iff.mp h2
  obtain ⟨c, h2⟩ := Bool.and_eq_true_iff.mp h2
  obtain ⟨d, e⟩ := Bool.and_eq_true_iff.mp h2
  exact ⟨of_decide_eq_true a, of_decide_eq_true b, fun x hx => of_decide_eq_true (List.all_eq_true.mp c x hx), of_decide_eq_true e, d⟩
end Lw

namespace Lw
open PySem PySem.Spec PyProof.Rows L2 Mq
open SX (S)
/-! ### the drawn book -/
def tLay : TT := fun σ H Q => ∃ (sg : List Nat) (c : Nat) (r : Int) (x y : List Nat), σ[1]? = some (some (.str (S (sg ++ [c])))) ∧ σ[2]? = some (some (.int r)) ∧ σ[4]? = some (some (.str (S x))) ∧ σ[5]? = some (some (.str (S y))) ∧ sg.length ≤ 1000 ∧ ∀ b, Q b H
def spLBook : Sp := fun vs H Q _ => ∃ (D C : Addr) (T : Nat), vs = [.ref D] ∧ DeckAt D C T H ∧ T ≤ 900000 ∧
  ∀ H' wd ld sg gs, sg ∈ menuB → GsOk sg gs → WAt H' wd ld sg gs → DeckAt D C (T + 30) H' → Off D C H H' → Q (.ref wd) H'
section
variable {P : Program} {w : World} {K : PySem.W.Frag} {mg : Str → Option Value} {base : Heap}
theorem ok_law_book {f fD fP : Addr} {fd fdD fdP : FuncData} (F : Fun K "_law_book" "_law_book" s__law_book f fd) (B : Blt mg)
    (FD : Fun K "_law_draw" "_law_draw" s__law_draw fD fdD) (gD : mg "_law_draw" = some (.ref fD)) (bD : Binds K fdD ["_law_deck_here", "_law_below"] []) (GD : FnOk P w K mg base CX0 1 fD fdD ["_law_deck_here", "_law_below"] spDraw)
    (FP : Fun K "_law_pick" "_law_pick" s__law_pick fP fdP) (gP : mg "_law_pick" = some (.ref fP)) (bP : Binds K fdP ["_law_deck_here", "_law_some"] []) (GP : FnOk P w K mg base CX0 2 fP fdP ["_law_deck_here", "_law_some"] spPick) :
    FnOk P w K mg base CX0 3 f fd ["_law_deck_here"] spLBook := by
  refine F.ok sc__law_book (fun vs H Q E h => ?_) (fun cdv A outer s H vs Q E hr h => ?_)
  · obtain ⟨_, _, _, rfl, _⟩ := h
    rfl
  · obtain ⟨D, C, T, rfl, hdk, hT, q⟩ := h
    have hu : (A.deeper (envOfC "_law_book" (defScope s__law_book) s.heap.objs.size f cdv)).units + 1 < cLine := by
      have := hr.units
      omega
    refine ⟨_, (pss_cons (ps_par3 (i := 1) (j := 2) (l := 3) rfl sc__law_book.nd rfl rfl rfl (by decide) (by decide) (by decide) rfl rfl rfl (pa_cons (pe_call GP (hr.mono (by decide)) (by rfl) gP FP.kp bP .nil pass0 (pa_cons (pv 0) (pa_cons (Mq.pe_ls (pa_cons pe_str (pa_cons pe_str (pa_cons pe_str (pa_cons pe_str (pa_cons pe_str pa_nil)))))) pa_nil))) (pa_cons (pe_call GD (hr.mono (by decide)) (by rfl) gD FD.kp bD .nil pass0 (pa_cons (pv 0) (pa_cons pe_int pa_nil))) (pa_cons pe_dnewT pa_nil))) (by rfl))
    (pss_cons (ps_for PassesOwn.never rfl (pi_str (pv 1)) (pg_name (i := 4) sc__law_book.nd rfl (Or.inl rfl))
      (pss_one (ps_for PassesOwn.never rfl (pi_str (pv 1)) (pg_name (i := 5) sc__law_book.nd rfl (Or.inl rfl))
        (pss_one (ps_if (PT_imp (t' := tLay) (PW.pt (pw_or (PW.pt (pw_and (pt_cmpR op_eq (pv 2) pe_int (nomark _)) (pw_and1 (pt_cmpR op_eq (pv 4) (pv 5) (nomark _))))) (pw_or1 (PW.pt (pw_and (pt_cmpR op_eq (pv 2) pe_int (nomark _)) (pw_and1 (pt_chain op_ne op_eq (pv 4) (pv 5) (pe_ix ix_str (pv 1) (pe_un un_neg pe_int) (fun _ _ => rfl))))))))) (fun σ H Q h => by
            obtain ⟨sg, c, r, x, y, h1, h2, h4, h5, hz, q⟩ := h
            exact ((AnyB.eq (.var h2) .c rfl).and (AnyB.eq (.var h4) (.var h5) rfl)).or ((AnyB.eq (.var h2) .c rfl).and (AnyB.chainNE (.var h4) (.var h5) (.last h1 (sz_le (by omega))) rfl rfl)) Q q)) (pss_one (ps_dput hu (pv 3) (pe_tup (pa_cons (pv 4) (pa_cons (pv 5) pa_nil))) pe_str rfl)) (pss_one (ps_if (PT_imp (t' := tLay) (PW.pt (pw_or (PW.pt (pw_and (pt_cmpR op_eq (pv 2) pe_int (nomark _)) (pw_and1 (pt_chain op_eq op_eq (pv 4) (pv 5) (pe_ix ix_str (pv 1) (pe_un un_neg pe_int) (fun _ _ => rfl)))))) (pw_or1 (PW.pt (pw_and (pt_cmpR op_eq (pv 2) pe_int (nomark _)) (pw_and1 (pt_cmpR op_ne (pv 4) (pv 5) (nomark _)))))))) (fun σ H Q h => by
            obtain ⟨sg, c, r, x, y, h1, h2, h4, h5, hz, q⟩ := h
            exact ((AnyB.eq (.var h2) .c rfl).and (AnyB.chainEE (.var h4) (.var h5) (.last h1 (sz_le (by omega))) rfl rfl)).or ((AnyB.eq (.var h2) .c rfl).and (AnyB.ne (.var h4) (.var h5) rfl)) Q q)) (pss_one (ps_dput hu (pv 3) (pe_tup (pa_cons (pv 4) (pa_cons (pv 5) pa_nil))) (pv 5) rfl)) (pss_one (ps_if (PW.pt (pw_and (pt_cmpR op_gt (pv 2) pe_int (nomark _)) (pw_and1 (pt_cmpR op_eq (pe_call GD (hr.mono (by decide)) (by rfl) gD FD.kp bD .nil pass0 (pa_cons (pv 0) (pa_cons pe_int pa_nil))) pe_int (nomark _))))) (pss_one (ps_dput hu (pv 3) (pe_tup (pa_cons (pv 4) (pa_cons (pv 5) pa_nil))) (pe_call GP (hr.mono (by decide)) (by rfl) gP FP.kp bP .nil pass0 (pa_cons (pv 0) (pa_cons (pe_op op_cat (pe_callTy (call_listTx rfl) (by rfl) B.list (by decide +kernel) (pa_cons (pv 1) pa_nil)) (Mq.pe_ls (pa_cons pe_str (pa_cons pe_str pa_nil)))) pa_nil))) rfl)) pss_nil)))))))))
    (pss_one (ps_ret (pe_disp (pps_cons pe_str (pv 1) (pps_cons pe_str (pv 3) pps_nil)) (by rfl) (by rfl) (fun z => by cases z) (by decide)))))), ?_⟩
    refine ⟨_, rfl, sz_le (n := 5) (by decide), fun p hp _ => ?_⟩
    have dk1 := hdk.same (same_new (o := HO.lst [V.str "ab", V.str "ab", V.str "ab", V.str "cd", V.str "abc"]) hp)
    refine ⟨D, C, _, .ref p, rfl, dk1, by omega, Or.inr ⟨p, _, rfl, upd_same, (new_ne hdk hp).2, Nat.zero_lt_succ _, by show 5 ≤ 1000; decide, fun H2 v hv dk2 off2 => ?_⟩⟩
    obtain ⟨sg, hsg, rfl⟩ : ∃ sg ∈ menuB, v = .str (S sg) := by
      simp only [List.mem_cons, List.not_mem_nil, or_false] at hv
      rcases hv with rfl | rfl | rfl | rfl | rfl
      · exact ⟨[97, 98], by decide, by decide +kernel⟩
      · exact ⟨[97, 98], by decide, by decide +kernel⟩
      · exact ⟨[97, 98], by decide, by decide +kernel⟩
      · exact ⟨[99, 100], by decide, by decide +kernel⟩
      · exact ⟨[97, 98, 99], by decide, by decide +kernel⟩
    have off02 : Off D C H H2 := (Off.same (same_new hp)).trans off2
    have hM := menuB_ok sg hsg
    have h3 := hM.few
    have hnd := hM.nd
    clear hv off2 dk1
    refine ⟨_, rfl, D, C, _, 8, rfl, dk2, by omega, by decide, by decide, fun H3 way hway dk3 off3 => ?_⟩
    have off03 := off02.trans off3
    clear off02 off3 dk2
    refine fun ld hld => ?_
    have dk4 := dk3.same (same_new (o := HO.dT []) hld)
    have hneH : ∀ b o, b ≠ D → b ≠ C → H b = some o → b ≠ ld := fun b o h1 h2 e => ne_of_none (off03 b o h1 h2 e) hld
    have off04 : Off D C H (upd H3 ld (.dT [])) := off03.trans (Off.same (same_new hld))
    have hl4 : upd H3 ld (.dT []) ld = some (.dT (tabF [])) := upd_same
    generalize upd H3 ld (.dT []) = H4 at dk4 off04 hl4 ⊢
    clear off03 dk3 hld
    refine ⟨_, _, _, rfl, ?_⟩
    refine ⟨_, rfl, S sg, rfl, ?_⟩
    obtain ⟨sgI, cl, esg⟩ : ∃ a c, sg = a ++ [c] := ⟨sg.dropLast, sg.getLast (List.ne_nil_of_length_pos hM.pos), (List.dropLast_concat_getLast _).symm⟩
    have hIl : sgI.length ≤ 1000 := by
      have := congrArg List.length esg
      rw [List.length_append] at this
      omega
    refine for_it (walk_S sg) (fun i σ H' => DeckAt D C (T + 2 + 6 * i) H' ∧ Off D C H H' ∧ ∃ gs o4 o5, Part sg i 0 gs ∧ H' ld = some (.dT (tabF gs)) ∧ σ = [some (.ref D), some (.str (S sg)), some (.int (way : Nat)), some (.ref ld), o4, o5])
      ⟨dk4.mono (by omega), off04, [], _, _, Part.start sg, hl4, rfl⟩ (fun _ _ _ _ _ => trivial) ?_ ?_
    · rintro i x σ H5 H5' hi ⟨dk5, off5, gs0, o4, o5, hp0, hl5, rfl⟩ ⟨rfl, rfl⟩
      refine ⟨_, rfl, S sg, rfl, ?_⟩
      refine for_it (walk_S sg) (fun j σ H' => DeckAt D C (T + 2 + 6 * i + 2 * j) H' ∧ Off D C H H' ∧ ∃ gs o5, Part sg i j gs ∧ H' ld = some (.dT (tabF gs)) ∧ σ = [some (.ref D), some (.str (S sg)), some (.int (way : Nat)), some (.ref ld), some (.str (S [sg.getD i 0])), o5])
        ⟨dk5, off5, gs0, _, hp0, hl5, rfl⟩ (fun _ _ _ _ _ => trivial) ?_ ?_
      · rintro j x σ H6 H7 hj ⟨dk7, off07, gs, o5, hp6, hl7, rfl⟩ ⟨rfl, rfl⟩
        have hlen : (tabF gs).length < sizeLine := by
          unfold tabF
          rw [List.length_map]
          have := hp6.len
          exact sz_lt (by omega)
        have put : ∀ (H8 : Hp) (z : List Nat) (T' : Nat), (z = [] ∨ ∃ c ∈ sg, z = [c]) → DeckAt D C T' H8 → T' ≤ T + 2 + 6 * i + 2 * (j + 1) → Off D C H H8 → H8 ld = some (.dT (tabF gs)) → ∀ p, H8 p = none →
            DPut (upd H8 p (.tup [.str (S [sg.getD i 0]), .str (S [sg.getD j 0])])) ld (.ref p) (.str (S z)) (upd (upd H8 p (.tup [.str (S [sg.getD i 0]), .str (S [sg.getD j 0])])) ld (.dT (tabF (gs ++ [⟨sg.getD i 0, sg.getD j 0, z⟩])))) ∧
            DeckAt D C (T + 2 + 6 * i + 2 * (j + 1)) (upd (upd H8 p (.tup [.str (S [sg.getD i 0]), .str (S [sg.getD j 0])])) ld (.dT (tabF (gs ++ [⟨sg.getD i 0, sg.getD j 0, z⟩])))) ∧
            Off D C H (upd (upd H8 p (.tup [.str (S [sg.getD i 0]), .str (S [sg.getD j 0])])) ld (.dT (tabF (gs ++ [⟨sg.getD i 0, sg.getD j 0, z⟩])))) := by
          intro H8 z T' hz dk8 hT8 off8 hl8 p hp
          have s9 := same_new (o := HO.tup [.str (S [sg.getD i 0]), .str (S [sg.getD j 0])]) hp
          have hl9 := s9 _ _ hl8
          have dk9 := (dk8.same s9).mono hT8
          have hk9 : upd H8 p (.tup [.str (S [sg.getD i 0]), .str (S [sg.getD j 0])]) p = some (.tup [.str (S [sg.getD i 0]), .str (S [sg.getD j 0])]) := upd_same
          have off9 := off8.trans (Off.same s9)
          generalize upd H8 p (.tup [.str (S [sg.getD i 0]), .str (S [sg.getD j 0])]) = H9 at hl9 dk9 hk9 off9 ⊢
          have hput : putK (tabF gs) [Sum.inr (S [sg.getD i 0]), Sum.inr (S [sg.getD j 0])] (V.str (S z)) = tabF (gs ++ [⟨sg.getD i 0, sg.getD j 0, z⟩]) := by
            rw [putK_new (tab_new (hp6.other hnd hi hj))]
            exact (tab_snoc gs ⟨sg.getD i 0, sg.getD j 0, z⟩).symm
          have nD : D ≠ ld := by
            rintro rfl
            obtain ⟨_, _, _, e, _⟩ := dk9.ex
            rw [hl9] at e
            cases e
          have nC : C ≠ ld := by
            rintro rfl
            obtain ⟨_, _, _, _, e, _⟩ := dk9.ex
            rw [hl9] at e
            cases e
          refine ⟨?_, ?_, ?_⟩
          · rw [← hput]
            exact DPut.t (k := [Sum.inr (S [sg.getD i 0]), Sum.inr (S [sg.getD j 0])]) hl9 hk9 hlen
          · obtain ⟨m, t, js, a1, a2, a3, a4⟩ := dk9.ex
            exact ⟨m, t, js, (upd_ne nD).trans a1, (upd_ne nC).trans a2, a3, a4⟩
          · intro b o h1 h2 e
            rw [upd_ne (hneH b o h1 h2 e)]
            exact off9 b o h1 h2 e
        have e0 : ("" : Str) = S [] := by decide +kernel
        refine ⟨sgI, cl, _, [sg.getD i 0], [sg.getD j 0], by rw [← esg]; rfl, rfl, rfl, rfl, hIl, fun b => ?_⟩
        cases b with
        | true =>
          refine ifT rfl ⟨_, rfl, _, rfl, _, rfl, sz_le (n := 2) (by decide), fun p hp => ?_⟩
          obtain ⟨a1, a2, a3⟩ := put H7 [] _ (Or.inl rfl) dk7 (by omega) off07 hl7 p hp
          rw [e0]
          exact ⟨ld, _, rfl, a1, a2, a3, _, _, hp6.put hnd hi hj (Or.inl rfl), upd_same, rfl⟩
        | false =>
          refine ifF rfl ⟨sgI, cl, _, [sg.getD i 0], [sg.getD j 0], by rw [← esg]; rfl, rfl, rfl, rfl, hIl, fun b => ?_⟩
          cases b with
          | true =>
            refine ifT rfl ⟨_, rfl, _, rfl, _, rfl, _, rfl, sz_le (n := 2) (by decide), fun p hp => ?_⟩
            have hz : [sg.getD j 0] = [] ∨ ∃ c ∈ sg, [sg.getD j 0] = [c] := Or.inr ⟨_, getD_mem hj, rfl⟩
            obtain ⟨a1, a2, a3⟩ := put H7 [sg.getD j 0] _ hz dk7 (by omega) off07 hl7 p hp
            exact ⟨ld, _, rfl, a1, a2, a3, _, _, hp6.put hnd hi hj hz, upd_same, rfl⟩
          | false =>
            refine ifF rfl ?_
            have skip : ∀ H8, DeckAt D C (T + 2 + 6 * i + 2 * (j + 1)) H8 → Off D C H H8 → H8 ld = some (.dT (tabF gs)) → _ := fun H8 a1 a2 a3 => (⟨a1, a2, gs, _, hp6.skip, a3, rfl⟩ : DeckAt D C (T + 2 + 6 * i + 2 * (j + 1)) H8 ∧ Off D C H H8 ∧ ∃ gs' o5, Part sg i (j + 1) gs' ∧ H8 ld = some (.dT (tabF gs')) ∧ [some (V.ref D), some (.str (S sg)), some (.int (way : Nat)), some (.ref ld), some (.str (S [sg.getD i 0])), some (.str (S [sg.getD j 0]))] = [some (V.ref D), some (.str (S sg)), some (.int (way : Nat)), some (.ref ld), some (.str (S [sg.getD i 0])), o5])
            refine ⟨_, rfl, _, _, rfl, rfl, _, rfl, ?_⟩
            cases e4 : decide ((4 : Int) < ((way : Nat) : Int)) with
            | false => exact ifF rfl (ifF rfl (skip _ (dk7.mono (by omega)) off07 hl7))
            | true =>
              refine ifT rfl ⟨_, rfl, D, C, _, 3, rfl, dk7, by omega, by decide, by decide, fun H8 r hr8 dk8 off8 => ?_⟩
              have hl8 := off8.at dk7 hl7 ⟨(fun _ z => nomatch z), (fun _ z => nomatch z)⟩
              have off08 := off07.trans off8
              refine ⟨rfl, _, rfl, ?_⟩
              cases e5 : decide (V.int ((r : Nat) : Int) = V.int 0) with
              | false => exact ifF rfl (skip _ (dk8.mono (by omega)) off08 hl8)
              | true =>
                refine ifT rfl ?_
                refine ⟨_, rfl, _, rfl, S sg, rfl, sz_le (by show sg.toArray.size ≤ 1000000; rw [List.size_toArray]; omega), fun p1 hp1 _ => ?_⟩
                have s1 := same_new (o := HO.lst ((S sg).cps.toList.map fun c => V.str ⟨#[c]⟩)) hp1
                have z1 : upd H8 p1 (.lst ((S sg).cps.toList.map fun c => V.str ⟨#[c]⟩)) p1 = some (.lst ((S sg).cps.toList.map fun c => V.str ⟨#[c]⟩)) := upd_same
                generalize upd H8 p1 (.lst ((S sg).cps.toList.map fun c => V.str ⟨#[c]⟩)) = H9 at s1 z1 ⊢
                refine ⟨sz_le (n := 2) (by decide), fun p2 hp2 _ => ?_⟩
                have s2 := s1.trans (same_new (o := HO.lst [V.str "", V.str ""]) hp2)
                have z2 : upd H9 p2 (.lst [V.str "", V.str ""]) p2 = some (.lst [V.str "", V.str ""]) := upd_same
                have z1 := (same_new (o := HO.lst [V.str "", V.str ""]) hp2) _ _ z1
                generalize upd H9 p2 (.lst [V.str "", V.str ""]) = H10 at s2 z2 z1 ⊢
                have hsl : ((S sg).cps.toList.map fun c => V.str ⟨#[c]⟩).length = sg.length := by
                  rw [List.length_map] <;> rfl
                refine ⟨p1, p2, _, _, rfl, rfl, z1, z2, ?_, fun p3 hp3 => ?_⟩
                · rw [hsl]
                  exact sz_le (by show sg.length + 2 ≤ 1000000; omega)
                · have s3 := s2.trans (same_new (o := HO.lst (((S sg).cps.toList.map fun c => V.str ⟨#[c]⟩) ++ [V.str "", V.str ""])) hp3)
                  refine ⟨D, C, _, .ref p3, rfl, dk8.same s3, by omega, Or.inr ⟨p3, _, rfl, upd_same, (new_ne (dk8.same s2) hp3).2, by rw [List.length_append]; exact Nat.succ_pos _, by rw [List.length_append, hsl]; show sg.length + 2 ≤ 1000; omega, fun H11 v hv dk11 off11 => ?_⟩⟩
                  obtain ⟨z, rfl, hz⟩ : ∃ z : List Nat, v = .str (S z) ∧ (z = [] ∨ ∃ c ∈ sg, z = [c]) := by
                    rcases List.mem_append.mp hv with hv | hv
                    · obtain ⟨c, hc, rfl⟩ := List.mem_map.mp hv
                      exact ⟨[c], rfl, Or.inr ⟨c, by simpa [S] using hc, rfl⟩⟩
                    · simp only [List.mem_cons, List.not_mem_nil, or_false, or_self] at hv
                      exact ⟨[], by rw [hv, e0], Or.inl rfl⟩
                  have hl11 := off11.at (dk8.same s3) (s3 _ _ hl8) ⟨(fun _ z => nomatch z), (fun _ z => nomatch z)⟩
                  refine ⟨_, rfl, _, rfl, _, rfl, sz_le (n := 2) (by decide), fun p hp => ?_⟩
                  obtain ⟨a1, a2, a3⟩ := put H11 z _ hz dk11 (by omega) (off08.trans ((Off.same s3).trans off11)) hl11 p hp
                  exact ⟨ld, _, rfl, a1, a2, a3, _, _, hp6.put hnd hi hj hz, upd_same, rfl⟩
      · rintro σ H6 ⟨dk6, off6, gs, o5, hp6, hl6, rfl⟩
        exact ⟨dk6.mono (by omega), off6, gs, _, _, hp6.row h3, hl6, rfl⟩
    · rintro σ H5 ⟨dk5, off5, gs, o4, o5, hp5, hl5, rfl⟩
      refine fun wd hwd => ?_
      have s7 := same_new (o := HO.dK []) hwd
      refine ⟨_, rfl, _, rfl, upd_same, wKv sg ld, rfl, by show 2 ≤ 15; decide, ?_⟩
      have nl : ld ≠ wd := by
        rintro rfl
        rw [hl5] at hwd
        cases hwd
      obtain ⟨nD, nC⟩ := new_ne dk5 hwd
      refine q _ wd ld sg gs hsg ⟨by have := hp5.len; omega, hp5.ok, hp5.nd⟩ ⟨upd_same.trans ?_, (upd_ne nl).trans ((upd_ne nl).trans hl5)⟩ ?_ ?_
      · rfl
      · obtain ⟨m, t, js, a1, a2, a3, a4⟩ := (dk5.mono (T' := T + 30) (by omega)).ex
        exact ⟨m, t, js, (upd_ne (Ne.symm nD)).trans ((upd_ne (Ne.symm nD)).trans a1), (upd_ne (Ne.symm nC)).trans ((upd_ne (Ne.symm nC)).trans a2), a3, a4⟩
      · intro b o h1 h2 e
        have e5 := off5 b o h1 h2 e
        rw [upd_ne (ne_of_none e5 hwd)]
        exact s7 b o e5
end
end Lw

namespace Mq
open PySem PySem.Spec PyProof.Rows L2
open GxR (TabB TabG Tabbed inv_tab sh_eta)
/-! ### a generator expression whose first item alone is asked: next((..), d) -/
/-- the context of its frame -/
abbrev genX (X : Cx) (A : Around) (s : Shared) (H : Hp) (N : List Str) (cenv : Env) (fp : List Addr) : Cx :=
  { X with A := A, N := N, s_0 := s, H_0 := H, env := cenv, outer := X.stack, stack := cenv :: X.stack, ex := fp, fn := fun _ => false, calm := true, pn := [], xe := fun _ _ => False }
/-- its names: own, or captured from the def's place i -/
structure GNames (X : Cx) (scope : Scope) (N : List Str) (ix : List (Option Nat)) : Prop where
  kind : scope.kind = .function
  co : scope.isCoroutine = false
  cell : ∀ y ∈ scope.names, y.2 ≠ .cell
  dot : scope.names.lookup (".0" : Str) = some NameKind.local
  free : ∀ y ∈ scope.names, y.2 = .free → X.env.kindOf y.1 = some .cell ∨ X.env.kindOf y.1 = some .free
  len : ix.length = N.length
  at_ : ∀ (j i : Nat) (x : Str), ix[j]? = some (some i) → N[j]? = some x → X.N[i]? = some x ∧ scope.names.lookup x = some .free ∧ (X.env.scope.names.lookup x = some .cell ∨ X.env.scope.names.lookup x = some .free)
/-- what it captures -/
def capt (σ : L2.St) (ix : List (Option Nat)) : L2.St := ix.map fun o => match o with
  | some i => (σ[i]?).getD none
  | none => none
section
variable {X : Cx} {pins : List (Addr × Obj)} {σ : L2.St} {H : Hp} {s s' : Shared}
theorem gen_start {scope : Scope} {N : List Str} {ix : List (Option Nat)} {fp : List Addr} {A : Around} {code : Value} {m0 : Str → Option Value} (I : Inv X pins σ H s) (S : GNames X scope N ix) (hfp : ∀ b ∈ fp, FpOk X pins H b ∧ b < s.heap.objs.size)
    (hA : A.handled = none) (hfr : A.frames = some (genEnv scope (cloFrom X.env.cells scope.names []) s.heap.objs.size code builtinsNs X.env :: X.stack)) (hn : s'.heap.Ns s.heap.objs.size m0) (kp : ∀ b o, s.heap.get? b = some o → s'.heap.get? b = some o) (os : s'.os = s.os) (hb : AllBare s'.gens) :
    Inv (genX X A s H N (genEnv scope (cloFrom X.env.cells scope.names []) s.heap.objs.size code builtinsNs X.env) fp) [] (capt σ ix) H s' := by
  have hfree : ∀ y ∈ scope.names, y.2 = .free → ∃ c, X.env.cells.lookup y.1 = some c := fun y hy e => I.ok.has _ (S.free y hy e)
  generalize hcenv : genEnv scope (cloFrom X.env.cells scope.names []) s.heap.objs.size code builtinsNs X.env = cenv at hfr ⊢
  have hL : cenv.locals = s.heap.objs.size := by rw [← hcenv]; rfl
  have hcl : cenv.cells = cloFrom X.env.cells scope.names [] := by rw [← hcenv]; rfl
  have hsc : cenv.scope = scope := by rw [← hcenv]; rfl
  have mem : ∀ {y c}, cenv.cells.lookup y = some c → X.env.cells.lookup y = some c ∧ c < s.heap.objs.size := fun {y c} e => by
    rw [hcl] at e
    rcases cloFrom_mem (PySem.mem_of_lookup e) with hm | ⟨h1, rfl⟩
    · cases hm
    · obtain ⟨c, hc⟩ := hfree _ h1 rfl
      rw [hc]
      obtain ⟨w, z⟩ := I.cell _ _ hc
      exact ⟨rfl, z.lt⟩
  have look : ∀ {y}, scope.names.lookup y = some .free → ∃ c, cenv.cells.lookup y = some c ∧ X.env.cells.lookup y = some c := fun {y} hl => by
    have hy : (y, NameKind.free) ∈ scope.names := PySem.mem_of_lookup hl
    obtain ⟨c', e'⟩ := mem_lookup (cloFrom_has (cells := X.env.cells) (acc := []) hy)
    rw [← hcl] at e'
    exact ⟨c', e', (mem e').1⟩
  have okG : (genX X A s H N cenv fp).Ok := by
    refine ⟨I.ok.mod, by show cenv.scope.kind = _; rw [hsc]; exact S.kind, by show cenv.globals = _; rw [← hcenv]; exact I.ok.glob, by show cenv.builtins = _; rw [← hcenv]; rfl, by show s.heap.objs.size ≤ cenv.locals; rw [hL]; exact Nat.le_refl _,
      fun y z c e1 e2 => I.ok.inj y z c (mem e1).1 (mem e2).1, fun y hy => ?_, fun y c z e => absurd (show (fun _ : Str => false) y = true from z) Bool.false_ne_true, fun _ => hA, hfr, .inr ⟨rfl, by rw [← hcenv]; rfl⟩, fun b hb => ⟨?_, fun y c e z => ?_⟩, I.bs, Nat.le_trans I.ok.bsz I.sz, fun b o e hb => ?_, fun b hb z => ?_, I.stack, I.stkFree⟩
    · show ∃ c, cenv.cells.lookup y = some c
      have hy : cenv.kindOf y = some .cell ∨ cenv.kindOf y = some .free := hy
      unfold Env.kindOf at hy
      rw [hsc] at hy
      rcases hy with hy | hy
      · exact absurd rfl (S.cell _ (PySem.mem_of_lookup hy))
      · obtain ⟨c, h1, _⟩ := look hy
        exact ⟨c, h1⟩
    · show b ≠ cenv.locals
      rw [hL]; exact Nat.ne_of_lt (hfp b hb).2
    · exact (hfp b hb).1.2.2.2.2.1 y c (mem e).1 z
    · rcases (hfp b hb).1.2.2.2.1 with z | z
      · exact I.ok.noex b o e z
      · have h1 := Heap.lt_size e
        exact absurd (Nat.lt_of_lt_of_le h1 (Nat.le_trans I.ok.bsz z)) (Nat.lt_irrefl _)
    · have z : b ∈ frs X.stack := z
      rcases List.mem_cons.mp (I.stkSub b z) with q | q
      · exact (hfp b hb).1.2.1 q
      · exact (hfp b hb).1.2.2.1 q
  refine ⟨okG, os, hb, Un.kept kp, ⟨m0, by show s'.heap.Ns cenv.locals m0; rw [hL]; exact hn, fun j x v h1 h2 h3 => ?_⟩, fun y c e => ?_, ?_, fun y c e => I.freeC y c (mem e).1, fun p hp => absurd (show p ∈ ([] : List (Addr × Obj)) from hp) (by simp), I.hok.kept kp, ?_⟩
  · have h1 : N[j]? = some x := h1
    unfold capt at h2
    rw [List.getElem?_map] at h2
    cases hj : ix[j]? with
    | none => rw [hj] at h2; cases h2
    | some o =>
      rw [hj] at h2
      cases o with
      | none => cases h2
      | some i =>
        obtain ⟨a1, a2, a3⟩ := S.at_ j i x hj h1
        have h2 : (σ[i]?).getD none = some v := Option.some.inj h2
        have hs : σ[i]? = some (some v) := by
          cases e : σ[i]? with
          | none => rw [e] at h2; cases h2
          | some z => rw [e] at h2; exact congrArg some h2
        obtain ⟨m, _, hl⟩ := I.loc
        obtain ⟨u, ru, lk⟩ := hl i x v a1 hs (.inr a3)
        refine ⟨u, ru, .inr ⟨.inr (by show cenv.scope.names.lookup x = _; rw [hsc]; exact a2), ?_⟩⟩
        obtain ⟨c, h5, h6⟩ := look a2
        rcases lk with ⟨z, _⟩ | ⟨_, c', h7, h8⟩
        · have z : X.env.scope.names.lookup x = some .local := z
          rcases a3 with q | q <;> rw [q] at z <;> cases z
        · rw [h6] at h7
          cases h7
          obtain ⟨ob, e1, e2⟩ := h8
          exact ⟨c, h5, ob, kp _ _ e1, e2⟩
  · obtain ⟨v, ob, e1, e2⟩ := I.cell y c (mem e).1
    exact ⟨v, ob, kp _ _ e1, e2⟩
  · show H cenv.locals = none
    rw [hL]
    exact I.hok.fresh (Nat.le_refl _)
  · show (capt σ ix).length = N.length
    unfold capt
    rw [List.length_map]
    exact S.len
end

/-- next((elt for tg in iter if ..), None): W by the turn and a measure, Nx what a turn that gives nothing is to reach; P: the def's table -/
def tNextG (P : Addr) (wi : TI) (g : TG) (tt : TT) (te : TE) (ix : List (Option Nat)) (own : List Nat) : TE := fun σ H Q => wi σ H fun J H1 => TabG H1 P ∧ ∀ H2, Tabbed P H1 H2 → ∃ W : Nat → Nat → Hp → Prop, (∃ m, W 0 m H2) ∧ ∀ i m H, W i m H →
  (J.stop i H ∧ Q .non H) ∨ (J.go i H ∧ ∃ Nx : Hp → Prop, (∀ H', Nx H' → ∃ m', m' < m ∧ W (i + 1) m' H') ∧ ∀ x H', J.yld i H x H' → g x (capt σ ix) H' fun σ2 H2 => wipe σ2 own = capt σ ix ∧ tt σ2 H2 fun b H3 =>
    if b = true then te σ2 H3 fun y H4 => Q y H4 else Nx H3)
section
variable {X : Cx} {elt tg iter : Expr} {ifs : List Expr} {scope : Scope} {gpos : Pos} {A0 A : Around} {s1 : Shared} {H1 : Hp} {N : List Str} {cenv : Env} {fp : List Addr} {it : Addr} {tn : Nat → Heap → Prop} {J : It} {σ0 : L2.St} {own : List Nat} {g : TG} {tt : TT} {te : TE} {W : Nat → Nat → Hp → Prop} {Q : VK}
theorem seg_gen (hXA : A0.over (.compLoop (.GeneratorExp elt [⟨tg, iter, ifs, 0⟩] scope gpos) 0 (.ref it) .none cenv) [] = A) (hco : cenv.scope.isCoroutine = false) (T : Turn X.prog X.w X.K tg J fp it tn)
    (pg : PG (genX X A s1 H1 N cenv fp) tg g) (pt : PTs (genX X A s1 H1 N cenv fp) ifs tt) (pe : PE (genX X A s1 H1 N cenv fp) elt te)
    (turn : ∀ i m H, W i m H → (J.stop i H ∧ Q .non H) ∨ (J.go i H ∧ ∃ Nx : Hp → Prop, (∀ H', Nx H' → ∃ m', m' < m ∧ W (i + 1) m' H') ∧ ∀ x H', J.yld i H x H' → g x σ0 H' fun σ2 H2 => wipe σ2 own = σ0 ∧ tt σ2 H2 fun b H3 =>
      if b = true then te σ2 H3 fun y H4 => Q y H4 else Nx H3)) :
    ∀ (m i : Nat) (s0 s : Shared) (H : Hp), Inv (genX X A s1 H1 N cenv fp) [] σ0 H s → tn i s.heap → (∀ b ∈ fp, H b = none) → W i m H →
      Seg (model X.prog X.w) A0 (fun n s₀ r s₂ => r = .ok .next ∧ ∃ σ' H', Inv (genX X A s1 H1 N cenv fp) [] σ' H' s₂ ∧ Q .non H') (fun n s₀ v s₂ _ => ∃ y σ' H', RelV y v ∧ Inv (genX X A s1 H1 N cenv fp) [] σ' H' s₂ ∧ Q y H') 1 s0
        (.compLoop (.GeneratorExp elt [⟨tg, iter, ifs, 0⟩] scope gpos) 0 (.ref it) .none cenv) ((model X.prog X.w).den (.compLoop (.GeneratorExp elt [⟨tg, iter, ifs, 0⟩] scope gpos) 0 (.ref it) .none cenv)) [] s := by
  have stat : ∀ {σ' : L2.St} {H' : Hp} {s' : Shared}, Inv (genX X A s1 H1 N cenv fp) [] σ' H' s' → (∀ b ∈ fp, H' b = none) → ∀ b ∈ fp, FpOk (genX X A s1 H1 N cenv fp) [] H' b := fun {σ' H' s'} I' hn b hb =>
    ⟨hn b hb, (I'.ok.exf b hb).1, I'.ok.exfs b hb, .inl hb, fun x c e => (I'.ok.exf b hb).2 x c e, fun p hp => absurd (show p ∈ ([] : List (Addr × Obj)) ++ [] from hp) (by simp)⟩
  intro m
  induction m using Nat.strongRecOn with
  | ind m ih =>
    intro i s0 s H I st nf w
    show Seg _ A0 _ _ _ s0 _ ((compTurn (.GeneratorExp elt [⟨tg, iter, ifs, 0⟩] scope gpos) 0 (.ref it) .none cenv).onRaise (leaving cenv)) [] s
    rw [compTurn_gen, Sem.onRaise_eq_wrap]
    refine seg_bind_wrap (wpAny_standAt ?_)
    rcases turn i m H w with ⟨stop, qq⟩ | ⟨go, Nx, hNx, step⟩
    · refine seg_bind_wrap ?_
      rw [hXA]
      refine thnF (T.done (genX X A s1 H1 N cenv fp) rfl rfl rfl rfl i [] s _ H (fun _ _ => False) I (stat I nf) st stop) fun r s6 ⟨hr, I6⟩ => ?_
      subst hr
      exact seg_end (.ok .next) ⟨rfl, _, _, I6, qq⟩
    · refine seg_bind_wrap ?_
      rw [hXA]
      refine thnF (T.item (genX X A s1 H1 N cenv fp) rfl rfl rfl rfl i [] s _ H (fun _ _ => False) I (stat I nf) st go) fun r s6 ⟨u, hr, h6⟩ => ?_
      subst hr
      refine seg_bind_wrap ?_
      rw [hXA]
      refine thnF h6 fun _ s7 ⟨x, H7, I7, r7, y7, st7, n7⟩ => ?_
      have I7' := I7.pinned (stat I7 n7) (T.obj _ _ st7)
      refine seg_bind_wrap ?_
      rw [hXA]
      refine thnF (pg.run _ s7 _ H7 x u _ I7' r7 (step x H7 y7)) fun _ s8 ⟨σ8, H8, I8, hw8, q8⟩ => ?_
      refine seg_bind_wrap ?_
      rw [hXA]
      refine thnF (pt.run _ s8 σ8 H8 _ I8 q8) fun b s9 ⟨H9, I9, q9⟩ => ?_
      cases b with
      | false =>
        simp only [Bool.false_eq_true, if_false] at q9 ⊢
        obtain ⟨m', hm, w'⟩ := hNx H9 q9
        have pin' : ∀ b ∈ fp, ∀ o, s7.heap.get? b = some o → s9.heap.get? b = some o ∧ H9 b = none := fun b hb o e =>
          let z := I9.pin (b, o) (List.mem_append_right _ (List.mem_append_right _ (mem_pinsAt hb e)))
          ⟨z.1, z.2.1⟩
        have hl : σ0.length = σ8.length := by rw [← hw8, wipe_length]
        refine seg_again rfl (ih m' hm (i + 1) s0 s9 H9 ((I9.unpinned (pins := [])).weak hl (fun j v e => ?_)) (T.keep _ _ _ st7 fun b hb o e => (pin' b hb o e).1) (fun b hb => ?_) w')
        · rw [← hw8] at e
          exact (wipe_some e).1
        · obtain ⟨o, e, _⟩ := T.obj _ _ st7 b hb
          exact (pin' b hb o e).2
      | true =>
        simp only [if_true] at q9 ⊢
        have hy : ∀ v, yieldOut cenv v = yieldValue v := fun v => by simp only [yieldOut, hco, Bool.false_eq_true, if_false]
        simp only [hy]
        rw [Sem.bind_eq_wrap', Sem.bind_eq_wrap', Sem.wrap_wrap, Sem.wrap_wrap]
        refine seg_wrap ?_
        rw [hXA]
        refine thnF (pe.run _ s9 σ8 H9 _ I9 q9) fun z s10 ⟨yv, H10, I10, r10, q10⟩ => ?_
        exact seg_at (seg_yield rfl rfl rfl ⟨yv, σ8, H10, r10, I10.unpinned (pins := []), q10⟩)
end
end Mq

namespace Mq
open PySem PySem.Spec PyProof.Rows L2 GenW
open GxR (TabB TabG Tabbed inv_tab sh_eta)
section
variable {X : Cx} {pins : List (Addr × Obj)} {σ : L2.St} {H : Hp} {s : Shared}
theorem Inv.gens' {s1 : Shared} {h' : Heap} {G : Array GenState} (I : Inv X pins σ H s1) (k : ∀ b o, s1.heap.get? b = some o → h'.get? b = some o) (hb : AllBare G) : Inv X pins σ H { s1 with gens := G, heap := h' } :=
  I.call' (ch := []) rfl (Un.kept k) (I.hok.kept k) hb fun b z => by simp at z
/-- a generator that has not begun, and what its first turn gives -/
def GFirst (X : Cx) (pins : List (Addr × Obj)) (σ : L2.St) (Q : VK) (u : Value) (s' : Shared) : Prop :=
  ∃ (a : Addr) (gn : Nat) (c : Code), u = .ref a ∧ s'.heap.IsGen a gn ∧ s'.gens[gn]? = some (.fresh c) ∧ s'.heap.NoLimit ∧
    Seg (model X.prog X.w) X.A.in1.in1 (fun _ _ r s₁ => r = .ok .next ∧ ∃ H', Inv X pins σ H' s₁ ∧ Q .non H') (fun _ _ v s₁ _ => ∃ y H', RelV y v ∧ Inv X pins σ H' s₁ ∧ Q y H') 1 (s'.setGen gn .running) c ((model X.prog X.w).den c) [] (s'.setGen gn .running)
theorem call_nextG {k : Nat} {u : Value} {Q : VK} (hr : Room k X.A) (h : GFirst X pins σ Q u s) : wpAny (model X.prog X.w) X.A (call (.builtin "next") [u, .none]) (EP X pins σ Q) X.xe s := by
  obtain ⟨a, gn, c, rfl, hg, hgs, hl, seg⟩ := h
  refine Calls.call_function_entry (by decide +kernel) (by decide +kernel) PySem.W.kdk_entry_next (PySem.W.kdk_args_next2 _ _) ?_
  unfold Builtin.«next»
  refine wpAny_bind (m := someArgs "next" 1 2 _) (wpAny_of_eq (a := [Value.ref a, Value.none]) (by first | rfl | kernel_rfl!) ?_)
  dsimp only
  refine wpAny_bind (wpAny_specialOf (name := Str.ofString "__next__") hg.typeIs slot_gen_next.lookup ?_)
  refine wpAny_ite_split (fun hab => absurd hab (by decide)) (fun _ => ?_)
  refine wpAny_bind (wpAny_pyNext_genexpQ (n := 1) (P := fun _ _ s₁ => ∃ H', Inv X pins σ H' s₁ ∧ Q .non H') (Y := fun _ _ v s₁ _ => ∃ y H', RelV y v ∧ Inv X pins σ H' s₁ ∧ Q y H') hr.hd hl (by have := hr.dp; show X.A.depth < _; omega) hg hgs ⟨rfl, seg⟩ (fun v s₁ gs' hb hv => ?_) (fun s₁ hp h' hk => ?_))
  · obtain ⟨y, H', rv, I, q⟩ := hv
    exact wpAny_pure ⟨_, rfl, y, H', Inv.gens' I (fun _ _ e => e) (allBare_setGen I.bare hb), rv, q⟩
  · obtain ⟨H', I, q⟩ := hp
    exact wpAny_pure ⟨_, rfl, .non, H', I.call' (ch := []) rfl (Un.kept hk) (I.hok.kept hk) (allBare_setGen I.bare rfl) (fun b z => by simp at z), rfl, q⟩
end
section
variable {X : Cx} {elt tg iter : Expr} {ifs : List Expr} {scope : Scope} {gpos p pos p1 : Pos} {N : List Str} {ix : List (Option Nat)} {own : List Nat} {wi : TI} {g : TG} {tt : TT} {te : TE} {c P : Addr} {k kk : Nat}
/-- the generator is made -/
theorem gen_first {pins : List (Addr × Obj)} {σ : L2.St} {H : Hp} {s : Shared} {Q : VK} {Q' : Value → Shared → Prop} (hr : Room (k + 1) X.A) (TB : TabB X.base X.mg c P) (hcode : X.env.code = .ref c) (S : GNames X scope N ix) (hi : PI X tg iter wi)
    (hG : ∀ (A : Around) (s : Shared) (H : Hp) (code : Value) (C : Addr) (fp : List Addr), Room k A → PG (genX X A s H N (genEnv scope (cloFrom X.env.cells scope.names []) C code builtinsNs X.env) fp) tg g)
    (hT : ∀ (A : Around) (s : Shared) (H : Hp) (code : Value) (C : Addr) (fp : List Addr), Room k A → PTs (genX X A s H N (genEnv scope (cloFrom X.env.cells scope.names []) C code builtinsNs X.env) fp) ifs tt)
    (hE : ∀ (A : Around) (s : Shared) (H : Hp) (code : Value) (C : Addr) (fp : List Addr), Room k A → PE (genX X A s H N (genEnv scope (cloFrom X.env.cells scope.names []) C code builtinsNs X.env) fp) elt te)
    (hs : ∀ v, genFold iter X.env v = pure v) (I : Inv X pins σ H s) (h : tNextG P wi g tt te ix own σ H Q) (hQ : ∀ u s', GFirst X pins σ Q u s' → Q' u s') :
    wpAny (model X.prog X.w) X.A (eval (.GeneratorExp elt [⟨tg, iter, ifs, 0⟩] scope gpos) X.env) Q' X.xe s := by
  have hfree : ∀ y ∈ scope.names, y.2 = .free → ∃ c, X.env.cells.lookup y.1 = some c := fun y hy e => I.ok.has _ (S.free y hy e)
  refine wpAny_mono (Q := GFirst X pins σ Q) ?_ hQ fun _ _ z => z
  refine wpAny_GeneratorExp_make S.co (closure_ok hfree) S.cell S.dot S.kind (by have := hr.dp; omega) ?_ hs
  refine thn (hi.run pins s σ H _ I h) fun xv s1 hx => thn hx fun itv s2 h2 => ?_
  obtain ⟨it, fp, tn, J, H2, rfl, I2, T, st2, f2, ⟨ps, hP, ht⟩, q⟩ := h2
  have hPs : s2.heap.get? P = some { cls := .none, data := .fields ps } := I2.hok P _ hP
  have cd : PySem.W.CodeHd s2.heap c P := TB.code.keeps fun b u e => I2.bk b u e
  refine ⟨I2.nolimit, ?_⟩
  have nPf : ∀ b ∈ fp, b ≠ P := fun b hb z => by
    have h1 := (f2 b hb).1
    rw [z, hP] at h1
    cases h1
  have hcP : cStatics ≠ P := fun e => by
    obtain ⟨_, hns, _⟩ := I2.nolimit
    obtain ⟨o', es, ep, ho, hd, _⟩ := hns
    rw [e, hPs] at ho
    cases ho
    cases hd
  have cont : ∀ (code : Value) (h3 : Heap) (tk : Nat) (ps' : Array Value), Heap.ExtBut P s2.heap h3 → s2.heap.objs.size ≤ h3.objs.size → h3.get? P = some { cls := .none, data := .fields ps' } → (∃ more, ps' = ps ++ more) → TriplesOk ps'.toList →
      wpAny (model X.prog X.w) X.A (builtinsFor X.env.globals X.env.builtins) (fun bi s₄ => ∀ h', h'.Ns s₄.heap.objs.size (fun y => if y = ".0" then some (.ref it) else none) → Heap.SameBut s₄.heap.objs.size (s₄.heap.push { cls := .type "frame", data := .dict #[] }) h' →
          GFirst X pins σ Q (.ref h'.objs.size) { s₄ with
            gens := s₄.gens.push (.fresh (.compStart (.GeneratorExp elt [⟨tg, iter, ifs, 0⟩] scope gpos) 0 (.ref it) .none (genEnv scope (cloFrom X.env.cells scope.names []) s₄.heap.objs.size code bi X.env))),
            toks := s₄.toks + 1 + 1 + 1,
            heap := h'.push { cls := .type "generator", data := .fields #[.int s₄.gens.size 0, .str "<genexpr>" (s₄.toks + 1), .str (X.env.qual ++ "<genexpr>") (s₄.toks + 1 + 1)] } }) X.xe { s2 with heap := h3, toks := tk } := by
    intro code h3 tk ps' hx hsz hP3 hmore ht3
    obtain ⟨bm, ob, e1, e2, e3, e4, e5, e6, e7, e8⟩ := TB.bm
    have keep3 : ∀ b u, b ≠ P → s2.heap.get? b = some u → h3.get? b = some u := fun b u hb e => hx b u hb e
    refine wpAny_builtinsFor (m := X.mg) (by rw [I2.ok.glob]; exact (I2.mod.glob.keeps I2.bk).extBut hx TB.gP) e1 e2 (keep3 _ _ e4 (I2.bk _ _ e5)) e6 e7 e8 ?_
    intro h' hn' hs'
    obtain ⟨more, em⟩ := hmore
    have I3 : Inv X pins σ (upd H2 P (.tbl (ps ++ more))) { s2 with heap := h3, toks := tk } :=
      inv_tab (more := more) (g' := s2.gens) (d' := s2.drawn) I2 hP (fun b o hb e => hx b o hb e) (by rw [← em]; exact hP3) I2.bare
    have tabd : Tabbed P H2 (upd H2 P (.tbl (ps ++ more))) := ⟨⟨ps ++ more, upd_same, by rw [← em]; exact ht3⟩, fun b hb => upd_ne hb⟩
    obtain ⟨W, ⟨m0, w0⟩, turn⟩ := q _ tabd
    generalize hs3 : ({ s2 with heap := h3, toks := tk } : Shared) = s3 at I3
    have hh3 : s3.heap = h3 := by rw [← hs3]
    have hsz3 : s3.heap.objs.size = h3.objs.size := by rw [hh3]
    have keep' : ∀ b o, s3.heap.get? b = some o → h'.get? b = some o := fun b o e => by
      rw [hh3] at e
      exact hs'.extBut b o (Nat.ne_of_lt (Heap.lt_size e)) (Heap.get?_push_of_some _ e)
    have fp3 : ∀ b ∈ fp, FpOk X pins (upd H2 P (.tbl (ps ++ more))) b ∧ b < s3.heap.objs.size := fun b hb => by
      obtain ⟨o, e, _⟩ := T.obj _ _ st2 b hb
      refine ⟨⟨?_, (f2 b hb).2⟩, by rw [hsz3]; exact Nat.lt_of_lt_of_le (Heap.lt_size e) hsz⟩
      rw [upd_ne (nPf b hb)]
      exact (f2 b hb).1
    have lim3 : s3.heap.NoLimit := I3.nolimit
    have bare3 : AllBare s3.gens := I3.bare
    have gen3 : s3.gens = s2.gens := by rw [← hs3]
    have os3 : s3.os = s2.os := by rw [← hs3]
    have st3 : ∀ h4 : Heap, (∀ b o, s3.heap.get? b = some o → h4.get? b = some o) → tn 0 h4 := fun h4 k4 => T.keep _ _ _ st2 fun b hb o e => k4 b o (by rw [hh3]; exact hx b o (nPf b hb) e)
    have hszg : ({ s2 with heap := h3, toks := tk } : Shared).gens.size = s2.gens.size := rfl
    refine ⟨_, s3.gens.size, _, rfl, ⟨_, _, _, Heap.get?_push_size _ rfl, rfl, rfl, rfl⟩, Array.getElem?_push_size .., lim3.keeps fun b o e => Heap.get?_push_of_some _ (keep' b o e), ?_⟩
    have hG' := fun A H code fp hk => hG A s3 H code s3.heap.objs.size fp hk
    have hT' := fun A H code fp hk => hT A s3 H code s3.heap.objs.size fp hk
    have hE' := fun A H code fp hk => hE A s3 H code s3.heap.objs.size fp hk
    have start := fun (A : Around) (s' : Shared) (m0 : Str → Option Value) => gen_start (s' := s') (A := A) (code := code) (m0 := m0) I3 S fp3
    have hco : (genEnv scope (cloFrom X.env.cells scope.names []) s3.heap.objs.size code builtinsNs X.env).scope.isCoroutine = false := S.co
    generalize hgo : ({ cls := .type "generator", data := .fields #[.int s3.gens.size 0, .str "<genexpr>" (s3.toks + 1), .str (X.env.qual ++ "<genexpr>") (s3.toks + 1 + 1)] } : Obj) = go
    have hG' := fun A fp hk => hG' A (upd H2 P (.tbl (ps ++ more))) code fp hk
    have hT' := fun A fp hk => hT' A (upd H2 P (.tbl (ps ++ more))) code fp hk
    have hE' := fun A fp hk => hE' A (upd H2 P (.tbl (ps ++ more))) code fp hk
    generalize hcenv : genEnv scope (cloFrom X.env.cells scope.names []) s3.heap.objs.size code builtinsNs X.env = cenv at hG' hT' hE' start hco ⊢
    have hA1 : (X.A.in1.in1.over (.compLoop (.GeneratorExp elt [⟨tg, iter, ifs, 0⟩] scope gpos) 0 (.ref it) .none cenv) []).handled = none := hr.hd
    have hfr : (X.A.in1.in1.over (.compLoop (.GeneratorExp elt [⟨tg, iter, ifs, 0⟩] scope gpos) 0 (.ref it) .none cenv) []).frames = some (cenv :: X.stack) := by
      show pushEnvs [cenv] (pushEnvs (envsOf []) X.A.frames) = _
      rw [I2.ok.frames]
      rfl
    have hroom : Room k (X.A.in1.in1.over (.compLoop (.GeneratorExp elt [⟨tg, iter, ifs, 0⟩] scope gpos) 0 (.ref it) .none cenv) []) := by
      have h1 : (X.A.in1.in1.over (.compLoop (.GeneratorExp elt [⟨tg, iter, ifs, 0⟩] scope gpos) 0 (.ref it) .none cenv) []).depth ≤ X.A.depth + 1 := Nat.le_of_eq rfl
      have h2 : (X.A.in1.in1.over (.compLoop (.GeneratorExp elt [⟨tg, iter, ifs, 0⟩] scope gpos) 0 (.ref it) .none cenv) []).units ≤ X.A.units + 1 + 1 + 3 := Nat.le_of_eq rfl
      refine ⟨hA1, ?_, ?_⟩
      · have := hr.dp
        omega
      · have := hr.un
        omega
    have kp : ∀ b o, s3.heap.get? b = some o → (h'.push go).get? b = some o := fun b o e => Heap.get?_push_of_some _ (keep' b o e)
    generalize hs5 : (({ s3 with gens := s3.gens.push (.fresh (.compStart (.GeneratorExp elt [⟨tg, iter, ifs, 0⟩] scope gpos) 0 (.ref it) .none cenv)), toks := s3.toks + 1 + 1 + 1, heap := h'.push go } : Shared).setGen s3.gens.size .running) = s5
    have h5 : s5.heap = h'.push go := by rw [← hs5]; rfl
    have os5 : s5.os = s3.os := by rw [← hs5]; rfl
    have b5 : AllBare s5.gens := by
      rw [← hs5]
      exact allBare_setGen (AllBare.push bare3 rfl) rfl
    have I5 := start _ s5 _ hA1 hfr (by rw [h5, hsz3]; exact Heap.Ns.push hn' _) (by rw [h5]; exact kp) os5 b5
    have st5 : tn 0 s5.heap := by rw [h5]; exact st3 _ kp
    have loop := seg_gen (s1 := s3) (Q := Q) (own := own) (W := W) rfl hco T (hG' _ fp hroom) (hT' _ fp hroom) (hE' _ fp hroom) turn m0 0 s5 s5 _ I5 st5 (fun b hb => (fp3 b hb).1.1) w0
    have conv : ∀ {σ' : L2.St} {H' : Hp} {s₁ : Shared}, Inv (genX X (X.A.in1.in1.over (.compLoop (.GeneratorExp elt [⟨tg, iter, ifs, 0⟩] scope gpos) 0 (.ref it) .none cenv) []) s3 (upd H2 P (.tbl (ps ++ more))) N cenv fp) [] σ' H' s₁ → Inv X pins σ H' s₁ := fun {σ' H' s₁} J' =>
      I3.call' (ch := fp) J'.os J'.base J'.hok J'.bare fun b hb => ⟨(fp3 b hb).1.2.2.2.1, (fp3 b hb).1.2.1, (fp3 b hb).1.2.2.2.2.1, (fp3 b hb).1.2.2.2.2.2⟩
    refine seg_imp (R := fun n s₀ r s₂ => r = .ok .next ∧ ∃ σ' H', Inv (genX X (X.A.in1.in1.over (.compLoop (.GeneratorExp elt [⟨tg, iter, ifs, 0⟩] scope gpos) 0 (.ref it) .none cenv) []) s3 (upd H2 P (.tbl (ps ++ more))) N cenv fp) [] σ' H' s₂ ∧ Q .non H') (Y := fun n s₀ v s₂ _ => ∃ y σ' H', RelV y v ∧ Inv (genX X (X.A.in1.in1.over (.compLoop (.GeneratorExp elt [⟨tg, iter, ifs, 0⟩] scope gpos) 0 (.ref it) .none cenv) []) s3 (upd H2 P (.tbl (ps ++ more))) N cenv fp) [] σ' H' s₂ ∧ Q y H')
      (fun n s₀ r s₁ ⟨e, σ', H', J', qq⟩ => ⟨e, H', conv J', qq⟩) (fun n s₀ v s₁ kap kap' _ ⟨y, σ', H', rv, J', qq⟩ => ⟨y, H', rv, conv J', qq⟩) 1 ?_
    show Seg _ X.A.in1.in1 _ _ _ s5 _ ((compStart (.GeneratorExp elt [⟨tg, iter, ifs, 0⟩] scope gpos) 0 (.ref it) .none cenv).onRaise (leaving cenv)) [] s5
    unfold compStart
    rw [Sem.onRaise_eq_wrap]
    show Seg _ X.A.in1.in1 _ _ _ s5 _ ((ask >>= _).wrap _ _ _ _) [] s5
    refine seg_bind_wrap (wpAny_askSetting ?_)
    split
    · exact seg_again rfl loop
    · first
        | exact seg_bind_wrap (wpAny_rule (seg_bind_wrap (wpAny_standAt (seg_bind_wrap (T.self _ 0 s5 _ _ st5 (seg_again rfl loop))))))
        | (refine seg_bind_wrap (wpAny_rule ?_); show Seg _ X.A.in1.in1 _ _ _ s5 _ ((standAt iter.pos >>= _).wrap _ _ _ _) [] s5; exact seg_bind_wrap (wpAny_standAt (seg_bind_wrap (T.self _ 0 s5 _ _ st5 (seg_again rfl loop)))))
  cases hf : codeAmong gpos ps.toList with
  | none =>
    refine wpAny_genexprCodeX hcode (cd.code hPs ht) (cd.tab hPs) hf fun c' h' tk hx hge hlt hco' _ htab' _ => ?_
    obtain ⟨o1, vs, f1, tf, fl, tg, inF, tx, tt, op, _, _, _, _, _, _, _, _, _, htr, _⟩ := hco'
    exact cont _ h' tk _ hx (Nat.le_trans hge (Nat.le_of_lt hlt)) htab'.2 ⟨_, rfl⟩ htr
  | some cv =>
    refine wpAny_genexprCode_hit hcode (cd.code hPs ht) hf ?_
    exact cont cv s2.heap s2.toks ps (Heap.ExtBut.refl _ _) (Nat.le_refl _) hPs ⟨#[], by simp⟩ ht
/-- next((elt for tg in iter if ..), None) -/
theorem pe_nextG (hr : Room (k + 1) X.A) (hg : Gl X "next") (hm : X.mg "next" = none) (TB : TabB X.base X.mg c P) (hcode : X.env.code = .ref c) (S : GNames X scope N ix) (hi : PI X tg iter wi)
    (hG : ∀ (A : Around) (s : Shared) (H : Hp) (code : Value) (C : Addr) (fp : List Addr), Room k A → PG (genX X A s H N (genEnv scope (cloFrom X.env.cells scope.names []) C code builtinsNs X.env) fp) tg g)
    (hT : ∀ (A : Around) (s : Shared) (H : Hp) (code : Value) (C : Addr) (fp : List Addr), Room k A → PTs (genX X A s H N (genEnv scope (cloFrom X.env.cells scope.names []) C code builtinsNs X.env) fp) ifs tt)
    (hE : ∀ (A : Around) (s : Shared) (H : Hp) (code : Value) (C : Addr) (fp : List Addr), Room k A → PE (genX X A s H N (genEnv scope (cloFrom X.env.cells scope.names []) C code builtinsNs X.env) fp) elt te)
    (hs : ∀ v, genFold iter X.env v = pure v) (own : List Nat)
    (he : starEach [.GeneratorExp elt [⟨tg, iter, ifs, 0⟩] scope gpos, .Constant .none kk p1] X.env = (false, eval (.GeneratorExp elt [⟨tg, iter, ifs, 0⟩] scope gpos) X.env) :: starEach [.Constant .none kk p1] X.env := by rfl)
    (he2 : backTo pos (starEach [.Constant .none kk p1] X.env) = [(false, eval (.Constant .none kk p1) X.env)] := by rfl) :
    PE X (.Call (.Name "next" p) [.GeneratorExp elt [⟨tg, iter, ifs, 0⟩] scope gpos, .Constant .none kk p1] [] pos) (tNextG P wi g tt te ix own) := by
  refine ⟨fun pins s σ H Q I h => ?_⟩
  refine wpAny_Call_Name_kw (ld_blt (u := .builtin "next") I hg hm (by first | rfl | decide +kernel) ?_ (by decide) (by decide))
  refine PyProof.Rows.callWith_builtin1 ?_ he (by rw [he2]; rfl)
  rw [he]
  show wpAny _ _ (spliced ((false, eval (.GeneratorExp elt [⟨tg, iter, ifs, 0⟩] scope gpos) X.env) :: backTo pos (starEach [.Constant .none kk p1] X.env))) _ _ s
  refine Calls.spliced_cons (gen_first hr TB hcode S hi hG hT hE hs I h fun u s' hF => ?_)
  rw [he2]
  refine Calls.spliced_cons (Constant_none ?_)
  refine Calls.spliced_nil ?_
  exact call_nextG hr hF
end
end Mq

namespace Mq
open PySem PySem.Spec PyProof.Rows L2
/-! ### error classes over a class of one's own, told by their objects -/
def ClsAt (K : PySem.W.Frag) (CM C : Addr) : Prop := ∃ nm q N bs sn sub ab col dd m0 m1 m2 m3 m5, K.lookup C = some (excClassObj nm q C N bs [.ref CM, .type "Exception", .type "BaseException", .type "object"] true sn sub ab col dd m0 m1 m2 m3 m5 "Exception.__new__")
section
variable {K : PySem.W.Frag} {CM C : Addr}
theorem ClsAt.isC (h : ClsAt K CM C) : (PySem.W.clsIn K C).isSome = true := by
  obtain ⟨_, _, _, _, _, _, _, _, _, _, _, _, _, _, h⟩ := h
  simp [PySem.W.clsIn, h, excClassObj]
theorem ClsAt.ty (h : ClsAt K CM C) : PySem.W.typeIn K (.ref C) = some (.type "type") := by
  obtain ⟨_, _, _, _, _, _, _, _, _, _, _, _, _, _, h⟩ := h
  simp [PySem.W.typeIn, h, excClassObj]
theorem ClsAt.has (h : ClsAt K CM C) : PySem.W.hasDictIn K C = true := by
  obtain ⟨_, _, _, _, _, _, _, _, _, _, _, _, _, _, h⟩ := h
  simp [PySem.W.hasDictIn, PySem.W.clsIn, h, excClassObj]
theorem ClsAt.mro (h : ClsAt K CM C) (b : Value) : PySem.W.mroIn K C b = some ((Value.ref C :: Value.ref CM :: exTail).contains b) := by
  obtain ⟨_, _, _, _, _, _, _, _, _, _, _, _, _, _, h⟩ := h
  simp [PySem.W.mroIn, PySem.W.clsIn, h, excClassObj, exTail]
theorem ClsAt.init (h : ClsAt K CM C) : PySem.W.excInitIn K C exTail "Exception.__new__" = true := by
  obtain ⟨_, _, _, _, _, _, _, _, _, _, _, _, _, _, h⟩ := h
  unfold PySem.W.excInitIn
  rw [h]
  simp [excClassObj, PySem.W.excTail, exTail]
theorem ClsAt.over (h : ClsAt K CM C) : PySem.W.excOver K C exTail = true := by
  obtain ⟨_, _, _, _, _, _, _, _, _, _, _, _, _, _, h⟩ := h
  unfold PySem.W.excOver PySem.W.clsIn
  rw [h]
  simp [excClassObj, PySem.W.excTail, exTail]
theorem ClsAt.keep (h : ClsAt K CM C) : PySem.W.keepIn K (.ref C) = true := by
  have ht := h.ty
  obtain ⟨_, _, _, _, _, _, _, _, _, _, _, _, _, _, h⟩ := h
  unfold PySem.W.keepIn
  dsimp only
  rw [h]
  dsimp only
  unfold PySem.W.specialIn
  rw [ht]
  show (fastLookup "type" "__call__" == some (some (Value.builtin "type.__call__"))) = true
  decide +kernel
theorem ClsAt.sub (h : ClsAt K CM C) (b : Value) : PySem.W.subIn K (.ref C) b = some ((Value.ref C :: Value.ref CM :: exTail).contains b) := h.mro b
theorem ref_eq (a b : Addr) : (Value.ref a == Value.ref b) = decide (a = b) := by
  by_cases h : a = b
  · subst h; simp
  · simp [h]
theorem ClsAt.kit {D : Addr} (h : ClsAt K CM C) (hD : ClsAt K CM D) (ne : D ≠ CM) : PySem.W.kitOne K (.ref C) (.ref D) = some (decide (C = D)) := by
  unfold PySem.W.kitOne
  by_cases e : C = D
  · subst e; simp
  · simp [e, PySem.W.kitCls, hD.isC, hD.ty, h.sub, exTail, Ne.symm e, ne]
theorem ClsAt.mill (h : ClsAt K CM C) (h1 : PySem.W.isClsIn K CM = true) (h2 : PySem.W.typeIn K (.ref CM) = some (.type "type")) : PySem.W.kitOne K (.ref C) (.ref CM) = some true := by
  have h1 : (PySem.W.clsIn K CM).isSome = true := h1
  unfold PySem.W.kitOne
  by_cases e : C = CM
  · subst e; simp
  · simp [e, PySem.W.kitCls, h1, h2, h.sub, exTail]
theorem ClsAt.typ (h : ClsAt K CM C) {n : String} (hm : PySem.W.kitMeta n = true) : PySem.W.kitOne K (.ref C) (.type n) = some (exTail.contains (.type n)) := by
  unfold PySem.W.kitOne
  simp [PySem.W.kitCls, hm, h.sub]
/-- what the written part says of such a class -/
structure ClsF (K : PySem.W.Frag) (CM C : Addr) : Prop where
  at_ : ClsAt K CM C
  ga : PySem.W.findIn K (.ref C) "__getattribute__" = some (some (.builtin "BaseException.__getattribute__"))
  gg : PySem.W.findIn K (.ref C) "__getattr__" = some none
  ca : PySem.W.findIn K (.ref C) "__class__" = some (some (.builtin "object.__class__"))
theorem ClsF.base (h : ClsF K CM C) : PySem.W.subIn K (.ref C) (.type "BaseException") = some true := by
  rw [h.at_.sub]
  simp [exTail]
theorem ClsF.xf (h : ClsF K CM C) : XfC K C := ⟨h.ga, h.gg, h.base, h.at_.has⟩
theorem ClsF.held (h : ClsF K CM C) (sp : PySem.W.specialIn K (.builtin "object.__class__") "__get__" = some (some (.builtin "getset_descriptor.__get__"))) (tk : PySem.W.takesIn K (.builtin "object.__class__") = some true) : HeldC K C :=
  ⟨h.at_.isC, h.ga, h.gg, h.base, h.ca, sp, tk, by rw [h.at_.mro]; simp [exTail]⟩
theorem exm_own (h : ClsF K CM C) : PySem.W.exmOne K (.ref C) (.ref C) = some true := by
  simp [PySem.W.exmOne, PySem.W.kitCls, h.at_.isC, h.at_.ty, h.at_.sub, exTail]
end
/-! ### the head's facts by a Hook of our own -/
def exB (fs : List (PySem.W.Frag → Bool)) (K : PySem.W.Frag) : Bool := fs.all fun f => f K
def obsM (n : Nat) (fn : List He.FnD) (fs : List (PySem.W.Frag → Bool)) (g : Addr → Option Obj) : He.Al × Bool :=
  (He.obsG n [] fn g, exB fs (He.frG g (He.asG g n)))
def hookM (n : Nat) (fn : List He.FnD) (fs : List (PySem.W.Frag → Bool)) : PySem.W.Hook where
  α := He.Al × Bool
  obs := fun s => obsM n fn fs s.heap.get?
  val := fun _ => (He.valE fn, true)
  says := fun _ h => ∃ K : PySem.W.Frag, K.In h ∧ He.SaysE [] fn K ∧ exB fs K = true
  of := fun w s e => ⟨He.frG s.heap.get? (He.asG s.heap.get? n), He.frG_in, congrArg Prod.fst e, congrArg Prod.snd e⟩
  keeps := fun w h h' ⟨K, a, b, c⟩ k => ⟨K, a.keeps k, b, c⟩
abbrev AlT := He.Al × Bool
theorem obsM_eq {n : Nat} {fn : List He.FnD} {fs : List (PySem.W.Frag → Bool)} {g : Addr → Option Obj} {s : Shared} (h : ∀ a, g a = s.heap.get? a) : obsM n fn fs g = (hookM n fn fs).obs s := by
  have e : g = s.heap.get? := funext h
  rw [e]
  rfl
theorem exAt {fs : List (PySem.W.Frag → Bool)} {K : PySem.W.Frag} (h : exB fs K = true) (i : Nat) {f : PySem.W.Frag → Bool} (e : fs[i]? = some f) : f K = true := List.all_eq_true.mp h f (List.mem_of_getElem? e)
def fFind (x n : Str) (v : Option Value) : PySem.W.Frag → Bool := fun K => He.eqO (PySem.W.findIn K (.ref (He.ga K x)) n) (some v)
def fInit (x : Str) : PySem.W.Frag → Bool := fun K => He.eqO (PySem.W.findIn K (.ref (He.ga K x)) "__init__") (some (some (.ref (He.ma K (He.ga K x) "__init__"))))
def fGlo (x : Str) : PySem.W.Frag → Bool := fun K => He.eqO (PySem.W.nsIn K mainGlobals x) (some (some (.ref (He.ga K x))))
def fFree (x : Str) : PySem.W.Frag → Bool := fun K => He.eqO (PySem.W.nsIn K mainGlobals x) (some none)
def fExc (x : Str) : PySem.W.Frag → Bool := fun K => PySem.W.excIn K (He.ga K x) exTail "Exception.__new__"
def clsB (K : PySem.W.Frag) (CM C : Addr) : Bool :=
  match K.lookup C with
  | some ⟨.type T, _, .cls cd, sl⟩ => decide (T = "type") && cd.hasDict && !cd.hasDel &&
      (match cd.mro with
       | [.ref a, .ref b, .type t1, .type t2, .type t3] => decide (a = C) && decide (b = CM) && decide (t1 = "Exception") && decide (t2 = "BaseException") && decide (t3 = "object")
       | _ => false) &&
      (match sl.toList with
       | [_, _, _, _, some (.builtin n), _] => decide (n = "Exception.__new__")
       | _ => false)
  | _ => false
def fCls (x : Str) : PySem.W.Frag → Bool := fun K => clsB K (He.ga K "MillError") (He.ga K x)
def fnB (K : PySem.W.Frag) (f : Addr) : Bool :=
  match K.lookup f with
  | some ⟨.type T, _, .func fd, _⟩ => decide (T = "function") && (match fd.kwdefaults with | .none => true | _ => false)
  | _ => false
def fFn (x : Str) : PySem.W.Frag → Bool := fun K => fnB K (He.ma K (He.ga K x) "__init__")
theorem clsB_ok {K : PySem.W.Frag} {CM C : Addr} (h : clsB K CM C = true) : ClsAt K CM C := by
  unfold clsB at h
  split at h
  · rename_i T dd cd sl hl
    obtain ⟨nm, bs, mro, N, qn, hd, sn, sub, ab, col, hdel⟩ := cd
    simp only [Bool.and_eq_true] at h
    obtain ⟨⟨⟨⟨h1, h2⟩, h3⟩, h4⟩, h5⟩ := h
    split at h4
    · simp only [Bool.and_eq_true, decide_eq_true_eq] at h4
      obtain ⟨⟨⟨⟨a1, a2⟩, a3⟩, a4⟩, a5⟩ := h4
      split at h5
      · rename_i m0 m1 m2 m3 n m5 hs
        have hs' := congrArg List.toArray hs
        rw [Array.toArray_toList] at hs'
        have e1 := of_decide_eq_true h1
        have e5 := of_decide_eq_true h5
        simp only [Bool.not_eq_true'] at h3
        subst e1 a1 a2 a3 a4 a5 e5 hs' h3
        have h2' : hd = true := h2
        subst h2'
        exact ⟨_, _, _, _, _, _, _, _, _, _, _, _, _, _, hl⟩
      · cases h5
    · cases h4
  · cases h
theorem fnB_ok {K : PySem.W.Frag} {f : Addr} {oc kV dV doc pm cd ct : Value} {od an : Option Addr} {osl : Array (Option Value)} {nm q : Str} {a : Arguments} {b : List Stmt} {s : Scope}
    (h : fnB K f = true) (l : K.lookup f = some ⟨oc, od, .func (PySem.W.fnOf nm q a b s dV kV doc pm an cd ct), osl⟩) : oc = .type "function" ∧ kV = .none := by
  unfold fnB at h
  rw [l] at h
  split at h
  · rename_i hh
    cases hh
    simp only [Bool.and_eq_true] at h
    obtain ⟨h1, h2⟩ := h
    refine ⟨by rw [of_decide_eq_true h1], ?_⟩
    split at h2
    · rfl
    · cases h2
  · cases h
theorem keep_fn {K : PySem.W.Frag} {f : Addr} {oc : Value} {od : Option Addr} {g : FuncData} {osl : Array (Option Value)} (l : K.lookup f = some ⟨oc, od, .func g, osl⟩) : PySem.W.keepIn K (.ref f) = true := by
  unfold PySem.W.keepIn
  dsimp only
  rw [l]
theorem walk_ofGE {l : PySem.W.OpenLaw} {n k : Nat} {q : Program} {loose : List Str}
    {XP : (Str → Option Value) → Heap → Prop} {YP : World → Heap → Prop} {d : DefRec} {CX : CXT} {x : Str}
    (hn : l.most = some n) (hn2 : n ≤ sizeLine) (hdf : d.params.defaults = []) (hr : Room k callerA)
    (F : ∀ (w : World) (mg : Str → Option Value) (fa : Addr) (h : Heap), YP w h → h.Ns mainGlobals mg → mg d.name = some (.ref fa) →
      ∃ (K : PySem.W.Frag) (fd : FuncData) (sp : Sp), K.In h ∧ (∀ (s : Shared) (u : Value), BindsTo s fd ⟨[u], []⟩ [(x, u)]) ∧
        (∀ (H : Hp) (a : Addr) (ns : List Int), ns.length ≤ n → Only H → SqL K H a (ns.map V.int) → sp [.ref a] H (fun v _ => v = .bl true) fun _ _ _ => False) ∧
        ∀ base : Heap, K.In base → base.Ns mainGlobals mg → FnG l.prog w K mg base CX k fa fd [x] sp)
    (hCX : ∀ (H : Hp) (s : Shared) (e : Value) (s' : Shared), CX [] H s (fun _ _ _ => False) e s' → False) :
    PySem.W.WalkO q loose XP YP l.row.toRowW d [] (fun f vs => PySem.call f vs) := by
  refine Att.attach_call hn hdf ?_
  intro w s₀ s₁ mg mb fa o pm cd doc a vs ns G Y ho hd hcd hmg hobj hints hlen hg
  obtain ⟨K, fd, sp, KX, hb, hsp, hF⟩ := F w mg fa _ Y G.T.g hmg
  exact law_callG KX G.T.g G.T.b G.T.builtins G.T.nolimit hg hobj hints (Nat.le_trans hlen hn2) hr hF hb
    (fun H hO hS => hsp H a ns hlen hO hS) (fun H e s' => hCX H s₁ e s')
theorem glo_of {K : PySem.W.Frag} {x : Str} (h : fGlo x K = true) : PySem.W.nsIn K mainGlobals x = some (some (.ref (He.ga K x))) := He.eqO_ok h
theorem free_of {K : PySem.W.Frag} {x : Str} (h : fFree x K = true) : PySem.W.nsIn K mainGlobals x = some none := He.eqO_ok h
theorem find_of {K : PySem.W.Frag} {x n : Str} {v : Option Value} (h : fFind x n v K = true) : PySem.W.findIn K (.ref (He.ga K x)) n = some v := He.eqO_ok h
theorem init_of {K : PySem.W.Frag} {x : Str} (h : fInit x K = true) : PySem.W.findIn K (.ref (He.ga K x)) "__init__" = some (some (.ref (He.ma K (He.ga K x) "__init__"))) := He.eqO_ok h
theorem cls_of {K : PySem.W.Frag} {x : Str} (h : fCls x K = true) : ClsAt K (He.ga K "MillError") (He.ga K x) := clsB_ok h
theorem exc_of {K : PySem.W.Frag} {x : Str} (h : fExc x K = true) : PySem.W.excIn K (He.ga K x) exTail "Exception.__new__" = true := h
/-! ### further facts -/
def fMeth (x n : Str) : PySem.W.Frag → Bool := fun K => He.eqO (PySem.W.findIn K (.ref (He.ga K x)) n) (some (some (.ref (He.ma K (He.ga K x) n)))) && PySem.W.isFn K (.ref (He.ma K (He.ga K x) n))
theorem meth_of {K : PySem.W.Frag} {x n : Str} (h : fMeth x n K = true) : PySem.W.findIn K (.ref (He.ga K x)) n = some (some (.ref (He.ma K (He.ga K x) n))) ∧ PySem.W.isFn K (.ref (He.ma K (He.ga K x) n)) = true := by
  obtain ⟨a, b⟩ := Bool.and_eq_true_iff.mp h
  exact ⟨He.eqO_ok a, b⟩
/-- a class of one's own, its objects made and read plainly -/
def fOwn (x : Str) : PySem.W.Frag → Bool := fun K => PySem.W.plainGet K (He.ga K x) Str.empty && (PySem.W.hasDictIn K (He.ga K x) && (PySem.W.plainOver K (He.ga K x) && (PySem.W.makesIn K (He.ga K x) && PySem.W.keepIn K (.ref (He.ga K x)))))
theorem own_of {K : PySem.W.Frag} {x : Str} (h : fOwn x K = true) : PySem.W.plainGet K (He.ga K x) Str.empty = true ∧ PySem.W.hasDictIn K (He.ga K x) = true ∧ PySem.W.plainOver K (He.ga K x) = true ∧ PySem.W.makesIn K (He.ga K x) = true ∧ PySem.W.keepIn K (.ref (He.ga K x)) = true := by
  obtain ⟨a, h⟩ := Bool.and_eq_true_iff.mp h
  obtain ⟨b, h⟩ := Bool.and_eq_true_iff.mp h
  obtain ⟨c, h⟩ := Bool.and_eq_true_iff.mp h
  obtain ⟨d, e⟩ := Bool.and_eq_true_iff.mp h
  exact ⟨a, b, c, d, e⟩
def fTxt (x v : Str) : PySem.W.Frag → Bool := fun K => match PySem.W.nsIn K mainGlobals x with
  | some (some (.str y _)) => decide (y = v)
  | _ => false
theorem txt_of {K : PySem.W.Frag} {x v : Str} (h : fTxt x v K = true) : ∃ t, PySem.W.nsIn K mainGlobals x = some (some (.str v t)) := by
  unfold fTxt at h
  split at h
  · rename_i y t e
    have := of_decide_eq_true h
    subst this
    exact ⟨t, e⟩
  · cases h
def fExm (x y : Str) (b : Bool) : PySem.W.Frag → Bool := fun K => decide (PySem.W.exmOne K (.ref (He.ga K x)) (.ref (He.ga K y)) = some b)
theorem exm_of {K : PySem.W.Frag} {x y : Str} {b : Bool} (h : fExm x y b K = true) : PySem.W.exmOne K (.ref (He.ga K x)) (.ref (He.ga K y)) = some b := of_decide_eq_true h
def fKit (x y : Str) (b : Bool) : PySem.W.Frag → Bool := fun K => decide (PySem.W.kitOne K (.ref (He.ga K x)) (.ref (He.ga K y)) = some b)
theorem kit_of {K : PySem.W.Frag} {x y : Str} {b : Bool} (h : fKit x y b K = true) : PySem.W.kitOne K (.ref (He.ga K x)) (.ref (He.ga K y)) = some b := of_decide_eq_true h
def fMro (x : Str) : PySem.W.Frag → Bool := fun K => decide (PySem.W.mroIn K (He.ga K x) (.type "object") = some true)
theorem mro_of {K : PySem.W.Frag} {x : Str} (h : fMro x K = true) : PySem.W.mroIn K (He.ga K x) (.type "object") = some true := of_decide_eq_true h
def fSp : PySem.W.Frag → Bool := fun K => He.eqO (PySem.W.specialIn K (.builtin "object.__class__") "__get__") (some (some (.builtin "getset_descriptor.__get__")))
theorem sp_of {K : PySem.W.Frag} (h : fSp K = true) : PySem.W.specialIn K (.builtin "object.__class__") "__get__" = some (some (.builtin "getset_descriptor.__get__")) := He.eqO_ok h
def fTk : PySem.W.Frag → Bool := fun K => decide (PySem.W.takesIn K (.builtin "object.__class__") = some true)
theorem tk_of {K : PySem.W.Frag} (h : fTk K = true) : PySem.W.takesIn K (.builtin "object.__class__") = some true := of_decide_eq_true h
def fMill : PySem.W.Frag → Bool := fun K => PySem.W.isClsIn K (He.ga K "MillError") && decide (PySem.W.typeIn K (.ref (He.ga K "MillError")) = some (.type "type"))
theorem mill_of {K : PySem.W.Frag} (h : fMill K = true) : PySem.W.isClsIn K (He.ga K "MillError") = true ∧ PySem.W.typeIn K (.ref (He.ga K "MillError")) = some (.type "type") := by
  obtain ⟨a, b⟩ := Bool.and_eq_true_iff.mp h
  exact ⟨a, of_decide_eq_true b⟩
end Mq

namespace Mq
open PySem PySem.Spec PyProof.Rows L2
/-! ### properties among the head's facts; whole numbers and kinds at the top -/
/-- where the getter of the property m of the class x stands -/
def pgA (K : PySem.W.Frag) (x m : Str) : Addr :=
  match PySem.W.recIn K (He.ma K (He.ga K x) m) "property" with
  | some (.ref g :: _) => g
  | _ => 0
def fnRd (K : PySem.W.Frag) (f : Addr) : He.FnV :=
  match K.lookup f with
  | some ⟨_, _, .func fd, _⟩ => some (fd.name, fd.qualname, fd.params, fd.body, fd.scope, fd.globals, fd.closure, fd.defaults, fd.builtins)
  | _ => none
def prObs (K : PySem.W.Frag) (p : Str × Option Str) : He.FnV :=
  match p.2 with
  | some m => fnRd K (pgA K p.1 m)
  | none => none
theorem fnRd_ok {K : PySem.W.Frag} {f : Addr} {nm q : Str} {a : Arguments} {b : List Stmt} {s : Scope} (h : fnRd K f = some (nm, q, a, FuncBody.stmts b, s, mainGlobals, [], Value.none, builtinsNs)) :
    ∃ (oc : Value) (od : Option Addr) (osl : Array (Option Value)) (kV doc pm : Value) (an : Option Addr) (cdv ct : Value), K.lookup f = some ⟨oc, od, .func (PySem.W.fnOf nm q a b s .none kV doc pm an cdv ct), osl⟩ := by
  unfold fnRd at h
  split at h
  · rename_i oc od fd osl e
    obtain ⟨n1, n2, n3, n4, n5, n6, n7, n8, n9, n10, n11, n12, n13, n14, n15⟩ := fd
    simp only [Option.some.injEq, Prod.mk.injEq] at h
    obtain ⟨rfl, rfl, rfl, rfl, rfl, rfl, rfl, rfl, rfl⟩ := h
    exact ⟨oc, od, osl, _, _, _, _, _, _, e⟩
  · cases h
theorem prop_def {K : PySem.W.Frag} {pr : List He.FnD} (h : pr.map (fun d => prObs K d.at_) = pr.map He.FnD.val) (i : Nat) {x m nm q : Str} {a : Arguments} {b : List Stmt} {s : Scope} (e : pr[i]? = some ⟨(x, some m), nm, q, a, b, s⟩) :
    ∃ (oc : Value) (od : Option Addr) (osl : Array (Option Value)) (kV doc pm : Value) (an : Option Addr) (cdv ct : Value), K.lookup (pgA K x m) = some ⟨oc, od, .func (PySem.W.fnOf nm q a b s .none kV doc pm an cdv ct), osl⟩ := by
  have h1 := congrArg (fun l => l[i]?) h
  simp only [List.getElem?_map, e, Option.map_some, Option.some.injEq] at h1
  exact fnRd_ok h1
def recB (K : PySem.W.Frag) (p : Addr) : Bool :=
  match PySem.W.recIn K p "property" with
  | some (.ref _ :: _) => true
  | _ => false
def fProp (x m : Str) : PySem.W.Frag → Bool := fun K => He.eqO (PySem.W.findIn K (.ref (He.ga K x)) m) (some (some (.ref (He.ma K (He.ga K x) m)))) &&
  (He.eqO (PySem.W.specialIn K (.ref (He.ma K (He.ga K x) m)) "__get__") (some (some (.builtin "property.__get__"))) && (decide (PySem.W.takesIn K (.ref (He.ma K (He.ga K x) m)) = some true) && recB K (He.ma K (He.ga K x) m)))
theorem prop_of {K : PySem.W.Frag} {x m : Str} (h : fProp x m K = true) : PropOf K (He.ga K x) m (He.ma K (He.ga K x) m) (pgA K x m) := by
  obtain ⟨a, h⟩ := Bool.and_eq_true_iff.mp h
  obtain ⟨b, h⟩ := Bool.and_eq_true_iff.mp h
  obtain ⟨c, d⟩ := Bool.and_eq_true_iff.mp h
  refine ⟨He.eqO_ok a, He.eqO_ok b, of_decide_eq_true c, ?_⟩
  unfold recB at d
  unfold pgA
  split at d
  · rename_i g rest e
    rw [e]
    exact ⟨rest, rfl⟩
  · cases d
def fPrc (x m q : Str) : PySem.W.Frag → Bool := fun K =>
  match K.lookup (pgA K x m) with
  | some ⟨_, _, .func fd, _⟩ => PySem.W.codeIn K fd.code q
  | _ => false
theorem prc_of {K : PySem.W.Frag} {x m q : Str} {oc : Value} {od : Option Addr} {fd : FuncData} {osl : Array (Option Value)} (h : fPrc x m q K = true) (e : K.lookup (pgA K x m) = some ⟨oc, od, .func fd, osl⟩) : PySem.W.codeIn K fd.code q = true := by
  unfold fPrc at h
  rw [e] at h
  exact h
def fInt (x : Str) (v : Int) : PySem.W.Frag → Bool := fun K => match PySem.W.nsIn K mainGlobals x with
  | some (some (.int y _)) => decide (y = v)
  | _ => false
theorem int_of {K : PySem.W.Frag} {x : Str} {v : Int} (h : fInt x v K = true) : ∃ t, PySem.W.nsIn K mainGlobals x = some (some (.int v t)) := by
  unfold fInt at h
  split at h
  · rename_i y t e
    have := of_decide_eq_true h
    subst this
    exact ⟨t, e⟩
  · cases h
def fKitT (x : Str) (T : String) (b : Bool) : PySem.W.Frag → Bool := fun K => decide (PySem.W.kitOne K (.ref (He.ga K x)) (.type T) = some b)
theorem kitT_of {K : PySem.W.Frag} {x : Str} {T : String} {b : Bool} (h : fKitT x T b K = true) : PySem.W.kitOne K (.ref (He.ga K x)) (.type T) = some b := of_decide_eq_true h
abbrev AlP := (He.Al × Bool) × List He.FnV
def obsP (n : Nat) (fn pr : List He.FnD) (fs : List (PySem.W.Frag → Bool)) (g : Addr → Option Obj) : AlP :=
  (obsM n fn fs g, pr.map fun d => prObs (He.frG g (He.asG g n)) d.at_)
def hookP (n : Nat) (fn pr : List He.FnD) (fs : List (PySem.W.Frag → Bool)) : PySem.W.Hook where
  α := (He.Al × Bool) × List He.FnV
  obs := fun s => obsP n fn pr fs s.heap.get?
  val := fun _ => ((He.valE fn, true), pr.map He.FnD.val)
  says := fun _ h => ∃ K : PySem.W.Frag, K.In h ∧ He.SaysE [] fn K ∧ exB fs K = true ∧ pr.map (fun d => prObs K d.at_) = pr.map He.FnD.val
  of := fun w s e => ⟨He.frG s.heap.get? (He.asG s.heap.get? n), He.frG_in, congrArg (fun z : AlP => z.1.1) e, congrArg (fun z : AlP => z.1.2) e, congrArg Prod.snd e⟩
  keeps := fun w h h' ⟨K, a, b, c⟩ k => ⟨K, a.keeps k, b, c⟩
theorem obsP_eq {n : Nat} {fn pr : List He.FnD} {fs : List (PySem.W.Frag → Bool)} {g : Addr → Option Obj} {s : Shared} (h : ∀ a, g a = s.heap.get? a) : obsP n fn pr fs g = (hookP n fn pr fs).obs s := by
  have e : g = s.heap.get? := funext h
  rw [e]
  rfl
end Mq

namespace Mq
open PySem PySem.Spec PyProof.Rows L2
/-! ### classmethods among the head's facts -/
def cmA (K : PySem.W.Frag) (x m : Str) : Addr :=
  match PySem.W.recIn K (He.ma K (He.ga K x) m) "classmethod" with
  | some (.ref g :: _) => g
  | _ => 0
def cmObs (K : PySem.W.Frag) (p : Str × Option Str) : He.FnV :=
  match p.2 with
  | some m => fnRd K (cmA K p.1 m)
  | none => none
theorem cm_def {K : PySem.W.Frag} {pr : List He.FnD} (h : pr.map (fun d => cmObs K d.at_) = pr.map He.FnD.val) (i : Nat) {x m nm q : Str} {a : Arguments} {b : List Stmt} {s : Scope} (e : pr[i]? = some ⟨(x, some m), nm, q, a, b, s⟩) :
    ∃ (oc : Value) (od : Option Addr) (osl : Array (Option Value)) (kV doc pm : Value) (an : Option Addr) (cdv ct : Value), K.lookup (cmA K x m) = some ⟨oc, od, .func (PySem.W.fnOf nm q a b s .none kV doc pm an cdv ct), osl⟩ := by
  have h1 := congrArg (fun l => l[i]?) h
  simp only [List.getElem?_map, e, Option.map_some, Option.some.injEq] at h1
  exact fnRd_ok h1
def recC (K : PySem.W.Frag) (p : Addr) : Bool :=
  match PySem.W.recIn K p "classmethod" with
  | some (.ref _ :: _) => true
  | _ => false
def fRead (x : Str) : PySem.W.Frag → Bool := fun K => PySem.W.readsIn K (He.ga K x) (.type "type") && He.eqO (PySem.W.specialIn K (.ref (He.ga K x)) "__getattribute__") (some (some (.builtin "type.__getattribute__")))
theorem read_of {K : PySem.W.Frag} {x : Str} (h : fRead x K = true) : ClX.CRead K (He.ga K x) (.type "type") := by
  obtain ⟨a, b⟩ := Bool.and_eq_true_iff.mp h
  exact ⟨a, He.eqO_ok b⟩
def fCm (x m : Str) : PySem.W.Frag → Bool := fun K =>
  (match PySem.W.findCls K (.ref (He.ga K x)) (.type "type") m with
  | some (.get (.builtin t) (.ref q) .none (.ref c)) => decide (t = "classmethod.__get__") && (decide (q = He.ma K (He.ga K x) m) && decide (c = He.ga K x))
  | _ => false) && (recC K (He.ma K (He.ga K x) m) && PySem.W.fnIn K (cmA K x m))
theorem cm_of {K : PySem.W.Frag} {x m : Str} (h : fCm x m K = true) : ClX.CMet K (He.ga K x) (.type "type") m (He.ma K (He.ga K x) m) (cmA K x m) := by
  obtain ⟨a, h⟩ := Bool.and_eq_true_iff.mp h
  obtain ⟨b, c⟩ := Bool.and_eq_true_iff.mp h
  refine ⟨?_, ?_, c⟩
  · split at a
    · rename_i t q d e
      obtain ⟨a1, a2⟩ := Bool.and_eq_true_iff.mp a
      obtain ⟨a2, a3⟩ := Bool.and_eq_true_iff.mp a2
      rw [e, of_decide_eq_true a1, of_decide_eq_true a2, of_decide_eq_true a3]
    · cases a
  · unfold recC at b
    unfold cmA
    split at b
    · rename_i g rest e
      rw [e]
      exact ⟨rest, rfl⟩
    · cases b
def fCmc (x m q : Str) : PySem.W.Frag → Bool := fun K =>
  match K.lookup (cmA K x m) with
  | some ⟨_, _, .func fd, _⟩ => PySem.W.codeIn K fd.code q
  | _ => false
theorem cmc_of {K : PySem.W.Frag} {x m q : Str} {oc : Value} {od : Option Addr} {fd : FuncData} {osl : Array (Option Value)} (h : fCmc x m q K = true) (e : K.lookup (cmA K x m) = some ⟨oc, od, .func fd, osl⟩) : PySem.W.codeIn K fd.code q = true := by
  unfold fCmc at h
  rw [e] at h
  exact h
/-- the fragment, the statics among it -/
def frC (g : Addr → Option Obj) (n : Nat) : PySem.W.Frag := He.frG g (cStatics :: He.asG g n)
def obsC (n : Nat) (fn pr : List He.FnD) (fs : List (PySem.W.Frag → Bool)) (g : Addr → Option Obj) : AlP :=
  ((He.obsE [] fn (frC g n), exB fs (frC g n)), pr.map fun d => cmObs (frC g n) d.at_)
def hookC (n : Nat) (fn pr : List He.FnD) (fs : List (PySem.W.Frag → Bool)) : PySem.W.Hook where
  α := (He.Al × Bool) × List He.FnV
  obs := fun s => obsC n fn pr fs s.heap.get?
  val := fun _ => ((He.valE fn, true), pr.map He.FnD.val)
  says := fun _ h => ∃ K : PySem.W.Frag, K.In h ∧ He.SaysE [] fn K ∧ exB fs K = true ∧ pr.map (fun d => cmObs K d.at_) = pr.map He.FnD.val
  of := fun w s e => ⟨frC s.heap.get? n, He.frG_in, congrArg (fun z : AlP => z.1.1) e, congrArg (fun z : AlP => z.1.2) e, congrArg Prod.snd e⟩
  keeps := fun w h h' ⟨K, a, b, c⟩ k => ⟨K, a.keeps k, b, c⟩
theorem obsC_eq {n : Nat} {fn pr : List He.FnD} {fs : List (PySem.W.Frag → Bool)} {g : Addr → Option Obj} {s : Shared} (h : ∀ a, g a = s.heap.get? a) : obsC n fn pr fs g = (hookC n fn pr fs).obs s := by
  have e : g = s.heap.get? := funext h
  rw [e]
  rfl
end Mq

namespace Mq
open PySem PySem.Spec PyProof.Rows L2
/-! ### defs with defaults among the head's facts -/
def frQ (g : Addr → Option Obj) (n : Nat) : PySem.W.Frag := He.frG g (cStatics :: He.asD g n)
abbrev AlQ := ((He.Al × Bool) × List He.FnV) × He.AlD
def obsQ (n : Nat) (fn pr : List He.FnD) (df : List He.DefD) (fs : List (PySem.W.Frag → Bool)) (g : Addr → Option Obj) : AlQ :=
  (((He.obsE [] fn (frQ g n), exB fs (frQ g n)), pr.map fun d => cmObs (frQ g n) d.at_), He.obsD [] df (frQ g n))
def hookQ (n : Nat) (fn pr : List He.FnD) (df : List He.DefD) (fs : List (PySem.W.Frag → Bool)) : PySem.W.Hook where
  α := AlQ
  obs := fun s => obsQ n fn pr df fs s.heap.get?
  val := fun _ => (((He.valE fn, true), pr.map He.FnD.val), He.valD df)
  says := fun _ h => ∃ K : PySem.W.Frag, K.In h ∧ He.SaysE [] fn K ∧ exB fs K = true ∧ pr.map (fun d => cmObs K d.at_) = pr.map He.FnD.val ∧ He.SaysD [] df K
  of := fun w s e => ⟨frQ s.heap.get? n, He.frG_in, congrArg (fun z : AlQ => z.1.1.1) e, congrArg (fun z : AlQ => z.1.1.2) e, congrArg (fun z : AlQ => z.1.2) e, congrArg Prod.snd e⟩
  keeps := fun w h h' ⟨K, a, b, c⟩ k => ⟨K, a.keeps k, b, c⟩
theorem obsQ_eq {n : Nat} {fn pr : List He.FnD} {df : List He.DefD} {fs : List (PySem.W.Frag → Bool)} {g : Addr → Option Obj} {s : Shared} (h : ∀ a, g a = s.heap.get? a) : obsQ n fn pr df fs g = (hookQ n fn pr df fs).obs s := by
  have e : g = s.heap.get? := funext h
  rw [e]
  rfl
end Mq

namespace Mq
open PySem PySem.Spec PyProof.Rows L2
open GxR (TabB TabG Tabbed)
/-! ### defs whose code object's table is known -/
section
variable {P : Program} {w : World} {K : PySem.W.Frag} {mg : Str → Option Value} {base : Heap}
theorem Fun.okC {x qual : Str} {st : Stmt} {f c : Addr} {fd : FuncData} {N ps : List Str} {k : Nat} {sp : Sp} (F : Fun K x qual st f fd) (hc : fd.code = .ref c) (S : FnScope N ps (defScope st)) (len : ∀ vs H Q E, sp vs H Q E → vs.length = ps.length)
    (hbody : ∀ (A : Around) (outer : List Env) (s : Shared) (H : Hp) (vs : List V) (Q : VK) (E : XK), Room k (A.deeper (envOfC qual (defScope st) s.heap.objs.size f (.ref c))) → sp vs H Q E →
      ∃ t, PSs (cxOf CX0 P w K mg base N qual (defScope st) f (.ref c) A outer s H E).nox (defBody st) t ∧ t { nx := fun _ H' => Q .non H', rt := Q } (start N vs) H) : FnOk P w K mg base CX0 (k + 1) f fd ps sp := by
  obtain ⟨oc, od, kV, doc, pm, an, cdv, ct, osl, rfl, lk, hcd⟩ := F.ex
  have e : cdv = .ref c := hc
  subst e
  refine fn_of lk hcd S len fun A outer s H vs Q E hr hsp => ?_
  obtain ⟨t, h, q⟩ := hbody A outer s H vs Q E hr hsp
  exact ⟨t, h.nox, q⟩
end
/-! ### the law's own call, with one table -/
theorem tabB_of {base : Heap} {mg : Str → Option Value} {c P : Addr} (h : LamX.TabB base mg c P) : TabB base mg c P := ⟨h.code, h.bm, h.gP⟩
theorem law_callGT {P : Program} {w : World} {K : PySem.W.Frag} {mg mb : Str → Option Value} {CX : CXT} {k : Nat} {fa a c0 P0 : Addr} {fd : FuncData} {x : Str} {sp : Sp} {s₁ : Shared} {vs : List Value} {ns : List Int}
    (KX : K.In s₁.heap) (hns : s₁.heap.Ns mainGlobals mg) (hb : s₁.heap.Ns builtinsNs mb) (hbb : ∀ x : Str, x ≠ "__name__" → mb x = bootBuiltins x) (hlim : s₁.heap.NoLimit) (hg : s₁.gens = #[])
    (hT : s₁.heap.get? P0 = some { cls := .none, data := .fields #[] }) (nT : K.lookup P0 = none) (C : PySem.W.CodeHd s₁.heap c0 P0)
    (hbm : ∃ (bm : Addr) (ob : Obj), mg "__builtins__" = some (.ref bm) ∧ bm ≠ builtinsNs ∧ s₁.heap.get? bm = some ob ∧ ob.cls = .type "module" ∧ ob.dict = some builtinsNs ∧ ob.data = .plain)
    (ha : s₁.heap.get? a = some { cls := .type "list", data := .seq vs.toArray }) (hi : IntsAre vs ns) (hl : ns.length ≤ sizeLine) (hr : Room k callerA)
    (F : ∀ base : Heap, K.In base → base.Ns mainGlobals mg → TabB base mg c0 P0 → FnG P w K mg base CX k fa fd [x] sp) (hbind : ∀ (s : Shared) (u : Value), BindsTo s fd ⟨[u], []⟩ [(x, u)])
    (hsp : ∀ H : Hp, H P0 = some (.tbl #[]) → SqL K H a (ns.map V.int) → sp [.ref a] H (fun v _ => v = .bl true) fun _ _ _ => False)
    (hCX : ∀ H e s', CX [] H s₁ (fun _ _ _ => False) e s' → False) :
    codeAny (model P w) callerA (.call (.ref fa) ⟨[.ref a], []⟩) (fun r s' => r = .ok (.ret (.bool true)) ∧ OldK s₁.heap s'.heap ∧ s'.os = s₁.os ∧ AllBare s'.gens) s₁ := by
  have rv := vals_ints hi
  have lenV := hi.length
  have isT : ∀ b : Addr, b = P0 → s₁.heap.get? b = some { cls := .none, data := .fields #[] } := fun b hb => by
    rw [hb]
    exact hT
  have aT : a ≠ P0 := fun z => by
    have q := isT a z
    rw [ha] at q
    have z' : Data.seq vs.toArray _ = Data.fields #[] := congrArg Obj.data (Option.some.inj q)
    cases z'
  have core : ∀ H : Hp, H P0 = some (.tbl #[]) → (∀ b, H b = none ∨ b = P0 ∨ ∃ o xs, H b = some (.frz o (.lst xs))) → SqL K H a (ns.map V.int) → HOk P w H s₁.heap → (∀ b, H b ≠ none → b = a ∨ b = P0) → (H a ≠ none → K.lookup a = none) →
      codeAny (model P w) callerA (.call (.ref fa) ⟨[.ref a], []⟩) (fun r s' => r = .ok (.ret (.bool true)) ∧ OldK s₁.heap s'.heap ∧ s'.os = s₁.os ∧ AllBare s'.gens) s₁ := by
    intro H hH hO hS hok hA hK
    have base_of : ∀ {b : Addr} {o : Obj}, s₁.heap.get? b = some o → H b = none → (hidT s₁.heap H).get? b = some o := fun e n => hidT_get e n
    have noD : ∀ {b : Addr} {o : Obj}, s₁.heap.get? b = some o → (∀ vs n, o.data ≠ .seq vs n) → o.data ≠ .fields #[] → H b = none := fun {b o} e h1 h2 => by
      cases q : H b with
      | none => rfl
      | some u =>
        rcases hA b (by rw [q]; simp) with e' | e'
        · rw [e', ha] at e
          cases e
          exact (h1 _ _ rfl).elim
        · rw [isT b e'] at e
          cases e
          exact (h2 rfl).elim
    have noA : ∀ {b : Addr} {o : Obj} {es : Array DictEntry} {ep : Nat}, s₁.heap.get? b = some o → o.data = .dict es ep → H b = none := fun {b o es ep} e d => by
      refine noD e (fun vs n z => ?_) fun z => ?_
      · rw [d] at z
        cases z
      · rw [d] at z
        cases z
    have nsK : ∀ {b : Addr} {m : Str → Option Value}, s₁.heap.Ns b m → (hidT s₁.heap H).Ns b m := fun {b m} ⟨o, es, ep, e, d, r⟩ => ⟨o, es, ep, base_of e (noA e d), d, r⟩
    have hKb : K.In (hidT s₁.heap H) := fun b o e => base_of (KX b o e) (by
      cases q : H b with
      | none => rfl
      | some u =>
        rcases hA b (by rw [q]; simp) with e' | e'
        · rw [e'] at e q
          rw [hK (by rw [q]; simp)] at e
          cases e
        · rw [e', nT] at e
          cases e)
    have hM : L2.Mod K mg (hidT s₁.heap H) := ⟨hKb, nsK hns, ⟨mb, nsK hb, hbb⟩, let ⟨mc, h1, h2⟩ := hlim; ⟨mc, nsK h1, h2⟩⟩
    have TB : TabB (hidT s₁.heap H) mg c0 P0 := by
      refine ⟨?_, ?_, fun z => ?_⟩
      · obtain ⟨o, us, file, tf, flags, tg, inF, text, tt, e1, r1, r2, r3, r4, r5, r6, r7, r8, hne⟩ := C
        refine ⟨o, us, file, tf, flags, tg, inF, text, tt, base_of e1 (noD e1 (fun vs n z => ?_) fun z => ?_), r1, r2, r3, r4, r5, r6, r7, r8, hne⟩
        · rw [r2] at z
          cases z
        · rw [r2] at z
          cases z
          simp at r3
      · obtain ⟨bm, ob, b1, b2, b3, b4, b5, b6⟩ := hbm
        have nG : bm ≠ mainGlobals := fun q => by
          obtain ⟨o, es, ep, e, hd, _⟩ := hns
          rw [q, e] at b3
          cases b3
          rw [hd] at b6
          cases b6
        have nP : bm ≠ P0 := fun q => by
          rw [q, hT] at b3
          cases b3
          cases b6
        refine ⟨bm, ob, b1, b2, nG, nP, base_of b3 (noD b3 (fun vs n z => ?_) fun z => ?_), b4, b5, b6⟩
        · rw [b6] at z
          cases z
        · rw [b6] at z
          cases z
      · obtain ⟨o, es, ep, e, hd, _⟩ := hns
        rw [z, hT] at e
        cases e
        cases hd
    have nil : ∀ {b : Addr}, b ∉ ([] : List Addr) := fun h => by cases h
    have e0 : Env0 P w K mg (hidT s₁.heap H) callerA [] s₁ H := ⟨rfl, hM, fun b o e => of_hidT e, Nat.le_of_eq (hidT_size _ _), trivial, fun b hb => (nil hb).elim, hok, .of_eq hg⟩
    refine codeAny_mono ((F _ hKb (nsK hns) TB).go callerA [] s₁ H ⟨[.ref a], []⟩ [.ref a] [.ref a] _ _ rfl hr e0 (hbind s₁ (.ref a)) (.cons rfl .nil) (hsp H hH hS)) fun r s' h => ?_
    match r, h with
    | .error e, h => exact (hCX H e s' h).elim
    | .ok .next, h => exact h.elim
    | .ok .brk, h => exact h.elim
    | .ok .cont, h => exact h.elim
    | .ok (.ret u), h =>
      obtain ⟨v, H', os, bare, un, hok', r', q⟩ := h
      have q' : v = .bl true := q
      subst q'
      cases (show u = Value.bool true from r')
      have key : ∀ b o, b ≠ P0 → s₁.heap.get? b = some o → s'.heap.get? b = some o := fun b o nb e => by
        cases q : H b with
        | none => exact un.keep b o e q nil nil
        | some u =>
          rcases hO b with z | z | ⟨ob, xs, z⟩
          · rw [q] at z; cases z
          · exact absurd z nb
          · have z2 := un.frzs b ob _ z
            obtain ⟨e1, _⟩ := hok b _ z
            obtain ⟨e2, _⟩ := hok' b _ z2
            rw [e] at e1; cases e1
            exact e2
      have grown : ∃ more : Array Value, s'.heap.get? P0 = some { cls := .none, data := .fields more } := by
        obtain ⟨more, z⟩ := un.tbls P0 #[] hH
        exact ⟨_, hok' P0 _ z⟩
      refine ⟨rfl, ⟨fun b o e => ?_, fun b o e => ?_⟩, os, bare⟩
      · by_cases hb : b = P0
        · obtain ⟨more, hm⟩ := grown
          rw [hb] at e ⊢
          rw [hT] at e
          cases e
          exact .inr (.inl ⟨(C.tab hT).isCodeTable, rfl, #[], more, rfl, by rw [Array.empty_append]; exact hm⟩)
        · exact .inl (key b o hb e)
      · by_cases hb : b = P0
        · obtain ⟨more, hm⟩ := grown
          rw [hb]
          exact ⟨_, hm⟩
        · exact ⟨o, key b o hb e⟩
  cases hk : K.lookup a with
  | some o =>
    have e := KX a o hk
    rw [ha] at e
    cases e
    refine core (fun b => if b = P0 then some (.tbl #[]) else none) (if_pos rfl) (fun b => ?_) (.inr ⟨_, vs.toArray, _, hk, rfl, rfl, rfl, by rw [List.size_toArray, lenV]; exact hl, by simpa using rv⟩) (fun b u z => ?_) (fun b z => ?_) fun z => absurd (show (if a = P0 then some (HO.tbl #[]) else none) = none from if_neg aT) z
    · by_cases hb : b = P0
      · exact .inr (.inl hb)
      · exact .inl (if_neg hb)
    · by_cases hb : b = P0
      · have z' := (if_pos hb).symm.trans z
        cases z'
        exact isT b hb
      · have z' := (if_neg hb).symm.trans z
        cases z'
    · by_cases hb : b = P0
      · exact .inr hb
      · exact absurd (if_neg hb) z
  | none =>
    refine core (fun b => if b = a then some (.frz { cls := .type "list", data := .seq vs.toArray } (.lst (ns.map V.int))) else if b = P0 then some (.tbl #[]) else none) ((if_neg (show ¬ P0 = a from fun z => aT z.symm)).trans (if_pos rfl)) (fun b => ?_)
      (.inl (.inr ⟨{ cls := .type "list", data := .seq vs.toArray }, if_pos rfl⟩)) (fun b u z => ?_) (fun b z => ?_) fun _ => hk
    · by_cases hb : b = a
      · exact .inr (.inr ⟨_, _, if_pos hb⟩)
      · by_cases hb2 : b = P0
        · exact .inr (.inl hb2)
        · exact .inl ((if_neg hb).trans (if_neg hb2))
    · by_cases hb : b = a
      · have z' := (if_pos hb).symm.trans z
        cases z'
        rw [hb]
        exact ⟨ha, by rw [List.length_map]; exact hl, vs, _, rv, ha⟩
      · have z1 := (if_neg hb).symm.trans z
        by_cases hb2 : b = P0
        · have z' := (if_pos hb2).symm.trans z1
          cases z'
          exact isT b hb2
        · have z' := (if_neg hb2).symm.trans z1
          cases z'
    · by_cases hb : b = a
      · exact .inl hb
      · by_cases hb2 : b = P0
        · exact .inr hb2
        · exact absurd ((if_neg hb).trans (if_neg hb2)) z
theorem walk_ofGT {l : PySem.W.OpenLaw} {n k : Nat} {q : Program} {loose : List Str}
    {XP : (Str → Option Value) → Heap → Prop} {YP : World → Heap → Prop} {d : DefRec} {CX : CXT} {x : Str}
    (hn : l.most = some n) (hn2 : n ≤ sizeLine) (hdf : d.params.defaults = []) (hr : Room k callerA)
    (F : ∀ (w : World) (mg : Str → Option Value) (fa : Addr) (h : Heap), YP w h → h.Ns mainGlobals mg → mg d.name = some (.ref fa) →
      ∃ (K : PySem.W.Frag) (fd : FuncData) (sp : Sp) (c0 P0 : Addr), K.In h ∧ h.get? P0 = some { cls := .none, data := .fields #[] } ∧ K.lookup P0 = none ∧ PySem.W.CodeHd h c0 P0 ∧ (∀ (s : Shared) (u : Value), BindsTo s fd ⟨[u], []⟩ [(x, u)]) ∧
        (∀ (H : Hp) (a : Addr) (ns : List Int), ns.length ≤ n → H P0 = some (.tbl #[]) → SqL K H a (ns.map V.int) → sp [.ref a] H (fun v _ => v = .bl true) fun _ _ _ => False) ∧
        ∀ base : Heap, K.In base → base.Ns mainGlobals mg → TabB base mg c0 P0 → FnG l.prog w K mg base CX k fa fd [x] sp)
    (hCX : ∀ (H : Hp) (s : Shared) (e : Value) (s' : Shared), CX [] H s (fun _ _ _ => False) e s' → False) :
    PySem.W.WalkO q loose XP YP l.row.toRowW d [] (fun f vs => PySem.call f vs) := by
  refine Att.attach_call hn hdf ?_
  intro w s₀ s₁ mg mb fa o pm cd doc a vs ns G Y ho hd hcd hmg hobj hints hlen hg
  obtain ⟨K, fd, sp, c0, P0, KX, hT, nT, C, hb, hsp, hF⟩ := F w mg fa _ Y G.T.g hmg
  exact law_callGT KX G.T.g G.T.b G.T.builtins G.T.nolimit hg hT nT C G.T.bmain hobj hints (Nat.le_trans hlen hn2) hr hF hb
    (fun H hH hS => hsp H a ns hlen hH hS) (fun H e s' => hCX H s₁ e s')
/-! ### the head's facts, one def's table left out -/
/-- the code object of the def x, its table -/
def codeRd (K : PySem.W.Frag) (x : Str) : Addr := match K.lookup (He.ga K x) with
  | some ⟨_, _, .func fd, _⟩ => (match fd.code with
    | .ref c => c
    | _ => 0)
  | _ => 0
def tabRd (g : Addr → Option Obj) (c : Addr) : Addr := match g c with
  | some ⟨_, _, .fields vs, _⟩ => (match (vs[11]? : Option Value) with
    | some (.ref P) => P
    | _ => 0)
  | _ => 0
def frT (g : Addr → Option Obj) (n : Nat) (x : Str) : PySem.W.Frag := He.frG g ((cStatics :: He.asD g n).filter fun a => a != tabRd g (codeRd (frQ g n) x))
def codeB (g : Addr → Option Obj) (c P : Addr) : Bool := match g c with
  | some ⟨.type T, _, .fields vs, _⟩ => decide (T = "code") && (match (vs[11]? : Option Value) with
    | some (.ref P') => decide (P' = P)
    | _ => false) && (match vs.getD 11 .none with
    | .ref P' => decide (P' = P)
    | _ => false) && (match vs.getD 18 .none with
    | .str _ _ => true
    | _ => false) && (match vs.getD 7 .none with
    | .int _ _ => true
    | _ => false) && (match vs.getD 9 .none with
    | .bool _ => true
    | _ => false) && (match vs.getD 10 .none with
    | .int _ _ => true
    | _ => false) && decide (c ≠ P)
  | _ => false
def emptyB (g : Addr → Option Obj) (P : Addr) : Bool := match g P with
  | some ⟨.none, none, .fields vs, sl⟩ => decide (vs.size = 0) && decide (sl.size = 0)
  | _ => false
/-- the def x's code object and table -/
def tabB (g : Addr → Option Obj) (K : PySem.W.Frag) (x : Str) : Bool := codeB g (codeRd K x) (tabRd g (codeRd K x)) && emptyB g (tabRd g (codeRd K x)) && (K.lookup (tabRd g (codeRd K x))).isNone && (match K.lookup (He.ga K x) with
  | some ⟨_, _, .func fd, _⟩ => (match fd.code with
    | .ref c => decide (c = codeRd K x)
    | _ => false)
  | _ => false)
def TabAt (K : PySem.W.Frag) (h : Heap) (x : Str) : Prop := ∃ (c P : Addr) (oc : Value) (od : Option Addr) (fd : FuncData) (sl : Array (Option Value)), K.lookup (He.ga K x) = some ⟨oc, od, .func fd, sl⟩ ∧ fd.code = .ref c ∧ h.get? P = some { cls := .none, data := .fields #[] } ∧ K.lookup P = none ∧ PySem.W.CodeHd h c P
theorem codeB_ok {h : Heap} {c P : Addr} (e : codeB h.get? c P = true) : PySem.W.CodeHd h c P := by
  unfold codeB at e
  split at e
  · rename_i T od vs sl hg
    simp only [Bool.and_eq_true] at e
    obtain ⟨⟨⟨⟨⟨⟨⟨e1, e2⟩, e3⟩, e4⟩, e5⟩, e6⟩, e7⟩, e8⟩ := e
    split at e2
    · rename_i P1 h1
      have := of_decide_eq_true e2
      subst this
      split at e3
      · rename_i P2 h2
        have := of_decide_eq_true e3
        subst this
        split at e4
        · rename_i f4 t4 h4
          split at e5
          · rename_i f5 t5 h5
            split at e6
            · rename_i b6 h6
              split at e7
              · rename_i f7 t7 h7
                exact ⟨_, vs, f4, t4, f5, t5, b6, f7, t7, hg, by rw [of_decide_eq_true e1], rfl, h1, h2, h4, h5, h6, h7, of_decide_eq_true e8⟩
              · cases e7
            · cases e6
          · cases e5
        · cases e4
      · cases e3
    · cases e2
  · cases e
theorem emptyB_ok {h : Heap} {P : Addr} (e : emptyB h.get? P = true) : h.get? P = some { cls := .none, data := .fields #[] } := by
  unfold emptyB at e
  split at e
  · rename_i vs sl hg
    obtain ⟨e1, e2⟩ := Bool.and_eq_true_iff.mp e
    have h1 := Array.eq_empty_of_size_eq_zero (of_decide_eq_true e1)
    have h2 := Array.eq_empty_of_size_eq_zero (of_decide_eq_true e2)
    subst h1 h2
    exact hg
  · cases e
theorem tabB_ok {K : PySem.W.Frag} {h : Heap} {x : Str} (e : tabB h.get? K x = true) : TabAt K h x := by
  unfold tabB at e
  simp only [Bool.and_eq_true] at e
  obtain ⟨⟨⟨e1, e2⟩, e3⟩, e4⟩ := e
  split at e4
  · rename_i oc od fd sl hl
    split at e4
    · rename_i c hc
      have := of_decide_eq_true e4
      refine ⟨c, _, _, _, _, _, hl, hc, emptyB_ok e2, Option.isNone_iff_eq_none.mp e3, ?_⟩
      rw [this]
      exact codeB_ok e1
    · cases e4
  · cases e4
theorem TabAt.keeps {K : PySem.W.Frag} {h h' : Heap} {x : Str} (t : TabAt K h x) (k : ∀ b o, h.get? b = some o → h'.get? b = some o) : TabAt K h' x := by
  obtain ⟨c, P, oc, od, fd, sl, h1, h2, h3, h4, h5⟩ := t
  exact ⟨c, P, oc, od, fd, sl, h1, h2, k _ _ h3, h4, h5.keeps k⟩
abbrev AlT' := AlQ × Bool
def obsT (n : Nat) (fn pr : List He.FnD) (df : List He.DefD) (fs : List (PySem.W.Frag → Bool)) (x : Str) (g : Addr → Option Obj) : AlT' :=
  ((((He.obsE [] fn (frT g n x), exB fs (frT g n x)), pr.map fun d => cmObs (frT g n x) d.at_), He.obsD [] df (frT g n x)), tabB g (frT g n x) x)
def hookT (n : Nat) (fn pr : List He.FnD) (df : List He.DefD) (fs : List (PySem.W.Frag → Bool)) (x : Str) : PySem.W.Hook where
  α := AlT'
  obs := fun s => obsT n fn pr df fs x s.heap.get?
  val := fun _ => ((((He.valE fn, true), pr.map He.FnD.val), He.valD df), true)
  says := fun _ h => ∃ K : PySem.W.Frag, K.In h ∧ He.SaysE [] fn K ∧ exB fs K = true ∧ pr.map (fun d => cmObs K d.at_) = pr.map He.FnD.val ∧ He.SaysD [] df K ∧ TabAt K h x
  of := fun w s e => ⟨frT s.heap.get? n x, He.frG_in, congrArg (fun z : AlT' => z.1.1.1.1) e, congrArg (fun z : AlT' => z.1.1.1.2) e, congrArg (fun z : AlT' => z.1.1.2) e, congrArg (fun z : AlT' => z.1.2) e, tabB_ok (congrArg (fun z : AlT' => z.2) e)⟩
  keeps := fun w h h' ⟨K, a, b, c, d, e, f⟩ k => ⟨K, a.keeps k, b, c, d, e, f.keeps k⟩
theorem obsT_eq {n : Nat} {fn pr : List He.FnD} {df : List He.DefD} {fs : List (PySem.W.Frag → Bool)} {x : Str} {g : Addr → Option Obj} {s : Shared} (h : ∀ a, g a = s.heap.get? a) : obsT n fn pr df fs x g = (hookT n fn pr df fs x).obs s := by
  have e : g = s.heap.get? := funext h
  rw [e]
  rfl
end Mq

namespace Mq
open PySem PySem.Spec PyProof.Rows L2
open GxR (TabB TabG Tabbed)
/-! ### a generator's names by a look; heaps that are kept but for the tables -/
def kB (sc : Scope) (x : Str) (k : NameKind) : Bool := match sc.names.lookup x, k with
  | some .cell, .cell => true
  | some .free, .free => true
  | some .local, .local => true
  | _, _ => false
theorem kB_ok {sc : Scope} {x : Str} {k : NameKind} (h : kB sc x k = true) : sc.names.lookup x = some k := by
  unfold kB at h
  split at h
  · assumption
  · assumption
  · assumption
  · cases h
def noCell : NameKind → Bool
  | .cell => false
  | _ => true
def isFree : NameKind → Bool
  | .free => true
  | _ => false
def isFun : ScopeKind → Bool
  | .function => true
  | _ => false
def gnB (NX : List Str) (sc scope : Scope) (N : List Str) (ix : List (Option Nat)) : Bool :=
  isFun scope.kind && !scope.isCoroutine && scope.names.all (fun y => noCell y.2) && kB scope ".0" .local && scope.names.all (fun y => !isFree y.2 || (kB sc y.1 .cell || kB sc y.1 .free)) && decide (ix.length = N.length) &&
  (ix.zip N).all fun p => match p.1 with
    | none => true
    | some i => decide (NX[i]? = some p.2) && kB scope p.2 .free && (kB sc p.2 .cell || kB sc p.2 .free)
theorem gn_of {X : Cx} {NX : List Str} {sc scope : Scope} {N : List Str} {ix : List (Option Nat)} (h : gnB NX sc scope N ix = true) (e1 : X.N = NX) (e2 : X.env.scope = sc) : GNames X scope N ix := by
  subst e1 e2
  unfold gnB at h
  simp only [Bool.and_eq_true] at h
  obtain ⟨⟨⟨⟨⟨⟨h1, h2⟩, h3⟩, h4⟩, h5⟩, h6⟩, h7⟩ := h
  have two : ∀ {y : Str}, (kB X.env.scope y .cell || kB X.env.scope y .free) = true → X.env.scope.names.lookup y = some .cell ∨ X.env.scope.names.lookup y = some .free := fun {y} z => (Bool.or_eq_true_iff.mp z).imp kB_ok kB_ok
  refine ⟨?_, by simpa using h2, fun y hy e => ?_, kB_ok h4, fun y hy e => ?_, of_decide_eq_true h6, fun j i x e3 e4 => ?_⟩
  · unfold isFun at h1
    split at h1
    · assumption
    · cases h1
  · have := List.all_eq_true.mp h3 y hy
    rw [e] at this
    cases this
  · have := List.all_eq_true.mp h5 y hy
    rw [e] at this
    exact two this
  · have hm : (some i, x) ∈ ix.zip N := by
      have h8 : (ix.zip N)[j]? = some (some i, x) := by
        rw [List.getElem?_zip_eq_some]
        exact ⟨e3, e4⟩
      exact List.mem_of_getElem? h8
    have := List.all_eq_true.mp h7 _ hm
    simp only [Bool.and_eq_true] at this
    exact ⟨of_decide_eq_true this.1.1, kB_ok this.1.2, two this.2⟩
/-! frames -/
def ExN (H H' : Hp) : Prop := ∀ b o, H b = some o → (∀ ps, o ≠ .tbl ps) → H' b = some o
theorem ExN.refl (H : Hp) : ExN H H := fun _ _ h _ => h
theorem ExN.trans {H H1 H2 : Hp} (a : ExN H H1) (b : ExN H1 H2) : ExN H H2 := fun c o h n => b c o (a c o h n) n
theorem ExN.of {H H' : Hp} (e : Same H H') : ExN H H' := fun b o h _ => e b o h
theorem ExN.tab {H H' : Hp} {P : Addr} (g : TabG H P) (t : Tabbed P H H') : ExN H H' := fun b o h n => by
  have hb : b ≠ P := fun z => by
    obtain ⟨ps, e, _⟩ := g
    rw [z, e] at h
    exact n _ (Option.some.inj h).symm
  exact (t.2 b hb).trans h
theorem TabG.same {H H' : Hp} {P : Addr} (g : TabG H P) (e : Same H H') : TabG H' P := let ⟨ps, a, b⟩ := g; ⟨ps, e _ _ a, b⟩
theorem ExN.tup {K : PySem.W.Frag} {H H' : Hp} {a : Addr} {xs : List V} (e : ExN H H') (h : SqT K H a xs) : SqT K H' a xs := by
  rcases h with (h | ⟨o, h⟩) | h
  · exact Or.inl (Or.inl (e _ _ h (fun _ z => nomatch z)))
  · exact Or.inl (Or.inr ⟨o, e _ _ h (fun _ z => nomatch z)⟩)
  · exact Or.inr h
theorem ExN.seq {K : PySem.W.Frag} {H H' : Hp} {a : Addr} {xs : List V} (e : ExN H H') (h : SqL K H a xs) : SqL K H' a xs := by
  rcases h with (h | ⟨o, h⟩) | h
  · exact Or.inl (Or.inl (e _ _ h (fun _ z => nomatch z)))
  · exact Or.inl (Or.inr ⟨o, e _ _ h (fun _ z => nomatch z)⟩)
  · exact Or.inr h
mutual
theorem Dg.exn {K : PySem.W.Frag} {H H' : Hp} (e : ExN H H') : ∀ {v : V} {d : PyData}, Dg K H v d → Dg K H' v d
  | _, _, .non => .non
  | _, _, .bl b => .bl b
  | _, _, .int i => .int i
  | _, _, .str x => .str x
  | _, _, .lst n h a => .lst n (e.seq h) (DgAll.exn e a)
  | _, _, .tup h a => .tup (e.tup h) (DgAll.exn e a)
  | _, _, .dct h a => .dct (e _ _ h (fun _ z => nomatch z)) (DgKv.exn e a)
theorem DgAll.exn {K : PySem.W.Frag} {H H' : Hp} (e : ExN H H') : ∀ {v : List V} {d : List PyData}, DgAll K H v d → DgAll K H' v d
  | _, _, .nil => .nil
  | _, _, .cons a b => .cons (Dg.exn e a) (DgAll.exn e b)
theorem DgKv.exn {K : PySem.W.Frag} {H H' : Hp} (e : ExN H H') : ∀ {v : List (Key × V)} {d : List (PyData × PyData)}, DgKv K H v d → DgKv K H' v d
  | _, _, .nil => .nil
  | _, _, .cons a b => .cons (Dg.exn e a) (DgKv.exn e b)
end
end Mq

namespace Lw
open PySem PySem.Spec PyProof.Rows L2 Mq
open SX (S)
open GxR (TabB TabG Tabbed)
/-! ### the first wrong place of a course -/
def badAt (m : Nat) (ds : List PyData) (i : Nat) : Bool := !belowD m (ds.getD i .none)
def firstN (p : Nat → Bool) (n : Nat) : Option Nat := (List.range n).find? p
theorem first_none {p : Nat → Bool} {n : Nat} (h : ∀ j, j < n → p j = false) : firstN p n = none := by
  unfold firstN
  rw [List.find?_eq_none]
  intro j hj
  rw [h j (List.mem_range.mp hj)]
  exact Bool.false_ne_true
theorem first_some {p : Nat → Bool} {n i : Nat} (hi : i < n) (hp : p i = true) (h : ∀ j, j < i → p j = false) : firstN p n = some i := by
  unfold firstN
  rw [List.find?_range_eq_some]
  exact ⟨hp, List.mem_range.mpr hi, fun j hj => by rw [h j hj]; rfl⟩
def optI : Option Nat → V
  | none => .non
  | some i => .int ((i : Nat) : Int)
def wrongM (m : Nat) : PyData → V
  | .tuple ds => optI (firstN (badAt m ds) ds.length)
  | _ => .int (-1)
def spWrong (K : PySem.W.Frag) (P0 : Addr) : Sp := fun vs H Q _ => ∃ (b : Addr) (ss : List V) (v : V) (d : PyData), vs = [.ref b, v] ∧ SqT K H b ss ∧ Dg K H v d ∧ TabG H P0 ∧ ∀ H', ExN H H' → TabG H' P0 → Q (wrongM ss.length d) H'
theorem call_lenKK {X : Cx} {K : PySem.W.Frag} (h : X.K = K) : CallR X (.builtin "len") (fun xs H Q => ∃ x n, xs = [x] ∧ LenV K x H n ∧ Q (V.int ((n : Nat) : Int)) H) := h ▸ call_len
section
variable {P : Program} {w : World} {K : PySem.W.Frag} {mg : Str → Option Value} {base : Heap} {c0 P0 : Addr}
theorem ok_wrong_place {f fB : Addr} {fd fdB : FuncData} (F : Fun K "wrong_place" "wrong_place" s_wrong_place f fd) (hc : fd.code = .ref c0) (TB : TabB base mg c0 P0) (B : Blt mg) (nN : mg "next" = none)
    (FB : Fun K "is_below" "is_below" s_is_below fB fdB) (gB : mg "is_below" = some (.ref fB)) (bB : Binds K fdB ["thing", "many"] []) (GB : FnOk P w K mg base CX0 2 fB fdB ["thing", "many"] (spBelowA K)) :
    FnOk P w K mg base CX0 4 f fd ["shelf", "thing"] (spWrong K P0) := by
  refine Mq.Fun.okC F hc sc_wrong_place (fun vs H Q E h => ?_) (fun A outer s H vs Q E hr h => ?_)
  · obtain ⟨_, _, _, _, rfl, _⟩ := h
    rfl
  · obtain ⟨b, ss, v, d, rfl, hb, hd, hT, q⟩ := h
    have ndG : (["shelf", "place", "number"] : List Str).Nodup := by decide
    refine ⟨_, (pss_cons (ps_if (pt_not (pt_val (pe_callB call_isi (by rfl) B.isi (by decide +kernel) (pa_cons (pv 1) (pa_cons (pe_bltn (v := .ty "tuple") (by rfl) B.tuple (by decide +kernel) rfl) pa_nil))))) (pss_one (ps_ret (pe_un un_neg pe_int))) pss_nil)
      (pss_one (ps_ret (pe_nextG (k := 2) (g := gTup K 2 (gCons (gName 1) (gCons (gName 2) gNil))) (N := ["shelf", "place", "number"]) (ix := [some 0, none, none]) (c := c0) (P := P0) (hr.mono (by decide)) (by rfl) nN TB rfl (gn_of (NX := ["shelf", "thing", "place", "number"]) (sc := defScope s_wrong_place) (by decide +kernel) rfl rfl)
        (pi_enumT (by rfl) B.enumerate (pa_cons (pv 1) pa_nil))
        (fun A s H code C fp hk => pg_tup rfl (pgs_cons (pg_name (i := 1) ndG rfl (Or.inl rfl) (hf := Or.inr rfl)) (pgs_cons (pg_name (i := 2) ndG rfl (Or.inl rfl) (hf := Or.inr rfl)) pgs_nil)))
        (fun A s H code C fp hk => pts_one (pt_not (pt_val (pe_call GB hk (by rfl) gB FB.kp bB .nil pass0 (pa_cons (pv 2) (pa_cons (pe_callB (call_lenKK (K := K) rfl) (by rfl) B.len (by decide +kernel) (pa_cons (pv 0) pa_nil)) pa_nil))))))
        (fun A s H code C fp hk => pv 1) (fun _ => rfl) [1, 2])))), ?_⟩
    rcases dg_tup hd with ⟨a, xs, ds, rfl, rfl, hz, ha⟩ | ⟨⟨a, t, m', n'⟩, nx⟩
    rotate_left
    · have ed : wrongM ss.length d = .int (-1) := by
        cases d with
        | tuple ds => exact absurd rfl (nx ds)
        | _ => rfl
      rw [ed] at q
      exact ⟨_, rfl, _, .ty "tuple", _, _, false, rfl, .ty _, t, kit_noT m' n', false, rfl, ifT rfl ⟨_, rfl, q H (ExN.refl H) hT⟩⟩
    have hl := ha.len
    refine ⟨_, rfl, _, .ty "tuple", _, _, true, rfl, .ty _, ty_tup hz, kit_ty (by decide +kernel), true, rfl, ifF rfl ?_⟩
    refine ⟨_, rfl, a, xs, rfl, hz, hT, fun H2 hT2 => ?_⟩
    have e2 := ExN.tab hT hT2
    have tg2 : TabG H2 P0 := hT2.1
    refine ⟨fun i m H' => i + m = xs.length ∧ Same H2 H' ∧ ∀ j, j < i → badAt ss.length ds j = false, ⟨xs.length, Nat.zero_add _, Same.refl _, fun j hj => absurd hj (Nat.not_lt_zero j)⟩, fun i m Hx ⟨him, sx, hbad⟩ => ?_⟩
    have ex := e2.trans (ExN.of sx)
    by_cases hi : i < xs.length
    · refine Or.inr ⟨⟨xs, xs[i], ex.tup hz, List.getElem?_eq_getElem hi⟩, fun H' => Same H2 H' ∧ badAt ss.length ds i = false, fun H' ⟨s', b'⟩ => ⟨m - 1, by omega, by omega, s', fun j hj => ?_⟩, fun x H' hy => ?_⟩
      · rcases Nat.lt_succ_iff_lt_or_eq.mp hj with z | rfl
        · exact hbad j z
        · exact b'
      · obtain ⟨T, x', rfl, hTn, rfl, hx'⟩ := hy
        have st := same_new (o := HO.tup [.int (i : Nat), x']) hTn
        have zt : SqT K (upd Hx T (.tup [.int (i : Nat), x'])) T [.int (i : Nat), x'] := Or.inl (Or.inl upd_same)
        have e3 := ex.trans (ExN.of st)
        have hx := hx' xs (ex.tup hz)
        rw [List.getElem?_eq_getElem hi] at hx
        cases hx
        have hdx : Dg K (upd Hx T (.tup [.int (i : Nat), xs[i]])) xs[i] (ds.getD i .none) := Dg.exn e3 (dgall_at ha hi)
        refine ⟨T, _, rfl, zt, rfl, _, _, rfl, _, _, rfl, rfl, rfl, ?_⟩
        refine ⟨_, rfl, _, rfl, _, _, rfl, len_tup (e3.tup hb), xs[i], ds.getD i .none, ss.length, rfl, hdx, _, rfl, ?_⟩
        cases e : belowD ss.length (ds.getD i .none) with
        | true => exact ifF rfl ⟨sx.trans st, by unfold badAt; rw [e]; rfl⟩
        | false =>
          refine ifT rfl ⟨_, rfl, ?_⟩
          have h : Q (optI (firstN (badAt ss.length ds) ds.length)) _ := q _ e3 (Mq.TabG.same tg2 (sx.trans st))
          rw [first_some (by omega) (by unfold badAt; rw [e]; rfl) hbad] at h
          exact h
    · refine Or.inl ⟨⟨xs, ex.tup hz, by omega⟩, ?_⟩
      have h : Q (optI (firstN (badAt ss.length ds) ds.length)) _ := q Hx ex (Mq.TabG.same tg2 sx)
      rw [first_none fun j hj => hbad j (by omega)] at h
      exact h
end
end Lw

namespace Lw
open PySem PySem.Spec PyProof.Rows L2 Mq
open SX (S)
/-! ### the law's own laying -/
def spLawLaid : Sp := fun vs H Q _ => ∃ (wd ld : Addr) (sg l : List Nat) (gs : List Fd) (y : Nat), vs = [.ref wd, .str (S l), .str (S [y])] ∧ WAt H wd ld sg gs ∧ zOk gs ∧ l.length ≤ 90000 ∧ ∀ H', Same H H' → Q (.str (S (laidM gs l y))) H'
/-- what items leave; none if a look sees something else -/
def lookM (l it : List Nat) : Bool := decide (it.drop 1 = orDash (l.drop (l.length - 1)))
def ledM (gs : List Fd) : List Nat → List (List Nat) → Option (List Nat)
  | l, [] => some l
  | l, it :: r => if it.head? = some 63 then (if lookM l it = true then ledM gs l r else none) else ledM gs (laidM gs l (it.headD 0)) r
def spLawLed (K : PySem.W.Frag) : Sp := fun vs H Q _ => ∃ (wd ld p : Addr) (sg l : List Nat) (gs : List Fd) (ws : List (List Nat)), vs = [.ref wd, .str (S l), .ref p] ∧ WAt H wd ld sg gs ∧ zOk gs ∧ l.length ≤ 10000 ∧ SqT K H p (txs ws) ∧ ws.length ≤ 10000 ∧ (∀ u ∈ ws, (∃ c, u = [c] ∧ c ≠ 63) ∨ ∃ c, u = [63, c]) ∧ ∀ H', Same H H' → Q (match ledM gs l ws with | none => .non | some z => .str (S z)) H'
section
variable {P : Program} {w : World} {K : PySem.W.Frag} {mg : Str → Option Value} {base : Heap}
theorem ok_laid {f : Addr} {fd : FuncData} (F : Fun K "_law_laid" "_law_laid" s__law_laid f fd) : FnOk P w K mg base CX0 1 f fd ["_law_w", "_law_web", "_law_sign"] spLawLaid := by
  refine F.ok sc__law_laid (fun vs H Q E h => ?_) (fun cdv A outer s H vs Q E hr h => ?_)
  · obtain ⟨_, _, _, _, _, _, rfl, _⟩ := h
    rfl
  · obtain ⟨wd, ld, sg, l, gs, y, rfl, hw, hz, hl, q⟩ := h
    have hu1 : (A.deeper (envOfC "_law_laid" (defScope s__law_laid) s.heap.objs.size f cdv)).units + 1 < cLine := by
      have := hr.units
      omega
    refine ⟨_, (pss_cons (ps_set (i := 3) sc__law_laid.nd rfl (Or.inl rfl) (pe_dget1 hu1 (pe_dget hu1 (pv 0) pe_str (fun _ _ => rfl)) (pe_tup (pa_cons (pe_slice C8.sl_txt (pv 1) (po_some (pe_un un_neg pe_int)) po_none) (pa_cons (pv 2) pa_nil))) ⟨rfl, rfl, rfl, rfl⟩))
      (pss_one (ps_ret (pe_ifExp (pt_cmpR op_isN (pv 3) pe_non (nomark _)) (pe_op op_add_str (pv 1) (pv 2)) (pe_op op_add_str (pe_slice C8.sl_txt (pv 1) po_none (po_some (pe_un un_neg pe_int))) (pv 3)))))), ?_⟩
    have hlz : (S l).length ≤ sizeLine := by
      rw [SX.S_len]
      exact sz_le (by omega)
    have g1 : DGet H wd (.str "folds") (some (.ref ld)) := DGet.k (k := .inr "folds") hw.w
    have hadd : ∀ H', Same H H' → laidM gs l y = l ++ [y] → (∃ i j : Str, V.str (S l) = .str i ∧ V.str (S [y]) = .str j ∧ i.length + j.length ≤ sizeLine ∧ Q (.str (i ++ j)) H') := by
      intro H' s' e
      refine ⟨S l, S [y], rfl, rfl, ?_, ?_⟩
      · rw [SX.S_len, SX.S_len]
        exact sz_le (by show l.length + 1 ≤ _; omega)
      · rw [SX.S_cat, ← e]
        exact q H' s'
    refine ⟨_, rfl, wd, _, rfl, g1, ld, rfl, Or.inr ⟨_, .inl hw.l⟩, ?_⟩
    rcases List.eq_nil_or_concat l with rfl | ⟨u, x, rfl⟩
    · refine ⟨_, rfl, _, rfl, _, rfl, S [], rfl, hlz, _, rfl, sz_le (n := 2) (by decide), fun p hp => ?_⟩
      rw [show Txt.slice (S []) (some (-1)) none = S [] by decide +kernel]
      have s1 := same_new (o := HO.tup [V.str (S []), V.str (S [y])]) hp
      have hnone : valV (tabF gs) [Sum.inr (S []), Sum.inr (S [y])] = none := by
        unfold valV tabF
        rw [List.find?_eq_none.mpr]
        · rfl
        · intro g hg
          obtain ⟨g', _, rfl⟩ := List.mem_map.mp hg
          intro z
          have z' := of_decide_eq_true z
          injection z' with z1 _
          have z2 := SX.S_inj (Sum.inr.inj z1)
          cases z2
      refine ⟨_, DGet.t (k := [Sum.inr (S []), Sum.inr (S [y])]) (s1 _ _ hw.l) upd_same, ?_⟩
      rw [hnone]
      exact ⟨_, rfl, rfl, _, rfl, ifT rfl ⟨_, rfl, _, rfl, hadd _ s1 rfl⟩⟩
    · rw [List.concat_eq_append] at *
      have hlast : laidM gs (u ++ [x]) y = (match leftM gs x y with | .none => u ++ [x] ++ [y] | .some z => u ++ z) := by
        unfold laidM
        rw [List.getLast?_concat, List.dropLast_concat] <;> rfl
      refine ⟨_, rfl, _, rfl, _, rfl, S (u ++ [x]), rfl, hlz, _, rfl, sz_le (n := 2) (by decide), fun p hp => ?_⟩
      rw [show Txt.slice (S (u ++ [x])) (some (-1)) none = S [x] from SX.last_snoc u x]
      have s1 := same_new (o := HO.tup [V.str (S [x]), V.str (S [y])]) hp
      refine ⟨_, DGet.t (k := [Sum.inr (S [x]), Sum.inr (S [y])]) (s1 _ _ hw.l) upd_same, ?_⟩
      rw [tab_val]
      generalize upd H p (.tup [V.str (S [x]), V.str (S [y])]) = H1 at s1 ⊢
      cases e : leftM gs x y with
      | none =>
        rw [e] at hlast
        exact ⟨_, rfl, rfl, _, rfl, ifT rfl ⟨_, rfl, _, rfl, hadd H1 s1 hlast⟩⟩
      | some z =>
        rw [e] at hlast
        have hz := leftz hz e
        refine ⟨_, rfl, rfl, _, rfl, ifF rfl ⟨_, rfl, _, rfl, _, rfl, S (u ++ [x]), rfl, hlz, ?_⟩⟩
        rw [show Txt.slice (S (u ++ [x])) none (some (-1)) = S u from SX.butlast_snoc u x]
        refine ⟨_, rfl, S u, S z, rfl, rfl, ?_, ?_⟩
        · rw [SX.S_len, SX.S_len]
          rw [List.length_append] at hl
          exact sz_le (by omega)
        · rw [SX.S_cat]
          have q1 := q H1 s1
          rw [hlast] at q1
          exact q1
theorem lastOf_is (l : List Nat) : cutS (S l) (some (-1)) none = S (l.drop (l.length - 1)) := by
  rw [cutS_eq]
  have e1 : HT.sIx l.length 0 (some (-1)) = l.length - 1 := by
    show (if (-1 : Int) < 0 then ((-1 : Int) + (l.length : Int)).toNat else min (-1 : Int).toNat l.length) = _
    rw [if_pos (by decide)]
    omega
  have e2 : HT.sIx l.length l.length none = l.length := rfl
  rw [e1, e2, List.take_of_length_le]
  rw [List.length_drop]
  omega
theorem ok_led {f fL : Addr} {fd fdL : FuncData} (F : Fun K "_law_led" "_law_led" s__law_led f fd)
    (FL : Fun K "_law_laid" "_law_laid" s__law_laid fL fdL) (gL : mg "_law_laid" = some (.ref fL)) (bL : Binds K fdL ["_law_w", "_law_web", "_law_sign"] []) : FnOk P w K mg base CX0 2 f fd ["_law_w", "_law_web", "_law_items"] (spLawLed K) := by
  have GL : FnOk P w K mg base CX0 1 fL fdL ["_law_w", "_law_web", "_law_sign"] spLawLaid := ok_laid FL
  refine F.ok sc__law_led (fun vs H Q E h => ?_) (fun cdv A outer s H vs Q E hr h => ?_)
  · obtain ⟨_, _, _, _, _, _, _, rfl, _⟩ := h
    rfl
  · obtain ⟨wd, ld, p, sg, l, gs, ws, rfl, hw, hz, hl, hp, hwl, hws, q⟩ := h
    refine ⟨_, (pss_cons (ps_for PassesOwn.never rfl (pi_tup (pv 2)) (pg_name (i := 3) sc__law_led.nd rfl (Or.inl rfl))
      (pss_one (ps_if (pt_cmpR op_ne (pe_ix ix_str (pv 3) pe_int (fun _ _ => rfl)) pe_str (nomark _)) (pss_one (ps_set (i := 1) sc__law_led.nd rfl (Or.inl rfl) (pe_call GL (hr.mono (by decide)) (by rfl) gL FL.kp bL .nil pass0 (pa_cons (pv 0) (pa_cons (pv 1) (pa_cons (pv 3) pa_nil)))))) (pss_one (ps_if (pt_cmpR op_ne (pe_slice sl_str (pv 3) (po_some pe_int) po_none) (pe_orT (pe_slice sl_str (pv 1) (po_some (pe_un un_neg pe_int)) po_none) (pe_one pe_str)) (nomark _)) (pss_one (ps_ret pe_non)) pss_nil)))))
    (pss_one (ps_ret (pv 1)))), ?_⟩
    refine ⟨_, rfl, p, rfl, ⟨_, hp⟩, ?_⟩
    have eq : ("?" : Str) = S [63] := by decide +kernel
    have ed : ("-" : Str) = S [45] := by decide +kernel
    refine for_it (walk_tup (K := K) (a := p) (xs := txs ws)) (fun i σ H' => Same H H' ∧ ∃ l' o3, ledM gs l ws = ledM gs l' (ws.drop i) ∧ l'.length ≤ l.length + i ∧ σ = [some (.ref wd), some (.str (S l')), some (.ref p), o3]) ⟨Same.refl _, l, _, rfl, Nat.le_refl _, rfl⟩ (fun i σ H' _ pp => Same.tup pp.1 hp) ?_ ?_
    · rintro i x σ H2 H2' hi ⟨s2, l', o3, hl', hll, rfl⟩ ⟨rfl, hx⟩
      rw [List.length_map] at hi
      rw [List.getElem?_map, List.getElem?_eq_getElem hi] at hx
      cases hx
      have hit := hws _ (List.getElem_mem hi)
      rw [List.drop_eq_getElem_cons hi] at hl'
      generalize ws[i] = it at hl' hit ⊢
      have hil : it.length ≤ 2 := by
        rcases hit with ⟨c, rfl, _⟩ | ⟨c, rfl⟩
        · exact Nat.le_succ 1
        · exact Nat.le_refl 2
      have hne : it ≠ [] := by
        rcases hit with ⟨c, rfl, _⟩ | ⟨c, rfl⟩ <;> exact List.cons_ne_nil _ _
      refine ⟨_, rfl, S it, 0, it.getD 0 0, rfl, rfl, sz_le (by rw [SX.S_len]; omega), at_get (k := 0) (List.length_pos_iff.mpr hne), rfl, _, rfl, ?_⟩
      rw [eq, show V.str ⟨#[it.getD 0 0]⟩ = V.str (S [it.getD 0 0]) from rfl, S_dec]
      rcases hit with ⟨c, rfl, hc⟩ | ⟨c, rfl⟩
      · have e1 : ledM gs l' ([c] :: ws.drop (i + 1)) = ledM gs (laidM gs l' c) (ws.drop (i + 1)) := by
          show (if some c = some 63 then _ else _) = _
          rw [if_neg (fun z => hc (Option.some.inj z))]
          rfl
        refine ifT (by
          show (!decide ([c] = [63])) = true
          rw [decide_eq_false (fun z => hc (List.cons.inj z).1)]
          rfl) ⟨_, rfl, _, rfl, _, rfl, wd, ld, sg, l', gs, c, rfl, hw.same s2, hz, by omega, fun H3 s3 => ?_⟩
        have := laidz_len hz l' c
        exact ⟨s2.trans s3, _, _, hl'.trans e1, by omega, rfl⟩
      · refine ifF (by
          show (!decide ([63] = [63])) = false
          rfl) ?_
        have hzl : (S l').length ≤ sizeLine := sz_le (by rw [SX.S_len]; omega)
        have e1 : ledM gs l' ([63, c] :: ws.drop (i + 1)) = (if lookM l' [63, c] = true then ledM gs l' (ws.drop (i + 1)) else none) := by
          exact if_pos rfl
        rw [e1] at hl'
        have e2 : lookM l' [63, c] = decide ([c] = orDash (l'.drop (l'.length - 1))) := rfl
        refine ⟨_, rfl, _, rfl, S [63, c], rfl, sz_le (n := 2) (by decide), ?_⟩
        have ec : cutS (S [63, c]) (some 1) none = S [c] := cutS_from [63, c] 1
        rw [ec]
        refine ⟨_, rfl, _, rfl, _, rfl, S l', rfl, hzl, ?_⟩
        rw [show (-(1 : Int)) = -1 from rfl, lastOf_is]
        have fin : ∀ b, b = lookM l' [63, c] → if (!b) = true then Q .non H2' else Same H H2' ∧ ∃ l'' o3, ledM gs l ws = ledM gs l'' (ws.drop (i + 1)) ∧ l''.length ≤ l.length + (i + 1) ∧ [some (V.ref wd), some (.str (S l')), some (.ref p), some (.str (S [63, c]))] = [some (V.ref wd), some (.str (S l'')), some (.ref p), o3] := by
          rintro b rfl
          cases el : lookM l' [63, c] with
          | true =>
            rw [el, if_pos rfl] at hl'
            exact ifF rfl ⟨s2, _, _, hl', by omega, rfl⟩
          | false =>
            rw [el, if_neg (by decide)] at hl'
            rw [hl'] at q
            exact ifT rfl (q H2' s2)
        rw [e2] at fin
        refine ⟨_, ⟨sz_le (by rw [SX.S_len, List.length_drop]; omega), rfl⟩, ?_⟩
        rw [SX.S_len]
        by_cases en : l'.drop (l'.length - 1) = []
        · rw [en]
          refine ifF rfl ⟨rfl, _, rfl, ?_⟩
          rw [ed, S_dec]
          exact fin _ (by rw [en]; rfl)
        · refine ifT ?_ ⟨rfl, _, rfl, ?_⟩
          · have := List.length_pos_iff.mpr en
            simp
            simp at this
            omega
          · rw [S_dec]
            exact fin _ (by unfold orDash; rw [if_neg en])
    · rintro σ H2 ⟨s2, l', o3, hl', hll, rfl⟩
      rw [List.length_map, List.drop_length] at hl'
      have hl' : ledM gs l ws = some l' := hl'
      rw [hl'] at q
      exact ⟨_, rfl, q H2 s2⟩
end
end Lw

namespace Lw
open PySem PySem.Spec PyProof.Rows L2 Mq
open SX (S)
/-! ### a weft run on from a web -/
def ItK (u : List Nat) : Prop := (∃ c, u = [c] ∧ c ≠ 63) ∨ ∃ c, u = [63, c]
def spSee : Sp := fun vs H Q _ => ∃ (c : Nat) (l : List Nat), vs = [.str (S [63, c]), .str (S l)] ∧ l.length ≤ 90000 ∧ Q (.bl (lookM l [63, c])) H
/-- what a run tells: the web; none, or where it stops -/
def RunAt (K : PySem.W.Frag) (H : Hp) (t : Addr) : Option (List Nat) → Prop
  | some l => SqT K H t [.str (S l), .non]
  | none => ∃ (z : List Nat) (i : Nat), SqT K H t [.str (S z), .int ((i : Nat) : Int)]
def spRunOn (K : PySem.W.Frag) (C : Addr) : Sp := fun vs H Q _ => ∃ (r fa ta p : Addr) (sg l : List Nat) (fs : List Fd) (ws : List (List Nat)), vs = [.ref r, .ref p, .str (S l)] ∧ BkAt H C r sg fs fa ta ∧ FsOk sg fs ∧ SqT K H p (txs ws) ∧ (∀ u ∈ ws, ItK u) ∧ l.length ≤ 10000 ∧ ws.length ≤ 10000 ∧
  ∀ H' t, Same H H' → RunAt K H' t (ledM fs l ws) → Q (.ref t) H'
theorem FsOk.z {sg : List Nat} {fs : List Fd} (h : FsOk sg fs) : zOk fs := fun g hg => by
  rcases (h.ok g hg).2.2 with e | ⟨c, _, e⟩ <;> rw [e] <;> simp
section
variable {P : Program} {w : World} {K : PySem.W.Frag} {mg : Str → Option Value} {base : Heap} {C : Addr}
theorem ok_does_see {f : Addr} {fd : FuncData} (F : Fun K "does_see" "does_see" s_does_see f fd) (B : Blt mg) : FnOk P w K mg base CX0 1 f fd ["item", "web"] spSee := by
  refine F.ok sc_does_see (fun vs H Q E h => ?_) (fun cdv A outer s H vs Q E hr h => ?_)
  · obtain ⟨_, _, rfl, _⟩ := h
    rfl
  · obtain ⟨c, l, rfl, hl, q⟩ := h
    refine ⟨_, (pss_one (ps_ret (pe_cmpR op_eq (pe_ix ix_str (pv 0) pe_int (fun _ _ => rfl)) (pe_ifExp (pt_truth (pv 1) (by intro _; rfl)) (pe_ix ix_str (pv 1) (pe_un un_neg pe_int) (fun _ _ => rfl)) pe_str) (nomark _)))), ?_⟩
    have ed : ("-" : Str) = S [45] := by decide +kernel
    have hzl : (S l).length ≤ sizeLine := sz_le (by rw [SX.S_len]; omega)
    refine ⟨_, rfl, S [63, c], 1, c, rfl, rfl, sz_le (n := 2) (by decide), at_get (k := 1) (by show 1 < 2; decide), _, rfl, ((S l).length : Int) != 0, ⟨hzl, rfl⟩, ?_⟩
    unfold lookM at q
    rcases List.eq_nil_or_concat l with rfl | ⟨u, x, rfl⟩
    · refine ifF (by decide) ⟨rfl, ?_⟩
      rw [ed, show V.str ⟨#[c]⟩ = V.str (S [c]) from rfl, S_dec]
      exact q
    · rw [List.concat_eq_append] at *
      have hn : (((S (u ++ [x])).length : Int) != 0) = true := by
        rw [SX.S_len, List.length_append]
        simp
        omega
      refine ifT hn ⟨_, rfl, _, rfl, S (u ++ [x]), -1, x, rfl, rfl, hzl, atI_last u x, rfl, ?_⟩
      rw [show V.str ⟨#[c]⟩ = V.str (S [c]) from rfl, show V.str ⟨#[x]⟩ = V.str (S [x]) from rfl, S_dec]
      have e1 : (u ++ [x]).drop ((u ++ [x]).length - 1) = [x] := by
        rw [List.length_append]
        show (u ++ [x]).drop (u.length + 1 - 1) = _
        rw [Nat.add_sub_cancel, List.drop_left]
      rw [e1] at q
      exact q
theorem ok_run_on {f fL fD : Addr} {fd fdL fdD : FuncData} (F : Fun K "run_on" "run_on" s_run_on f fd) (B : Blt mg)
    (FL : Fun K "laid_behind" "laid_behind" s_laid_behind fL fdL) (gL : mg "laid_behind" = some (.ref fL)) (bL : Binds K fdL ["book", "web", "letter"] []) (GL : FnOk P w K mg base CX0 2 fL fdL ["book", "web", "letter"] (spBehind C))
    (FD : Fun K "does_see" "does_see" s_does_see fD fdD) (gD : mg "does_see" = some (.ref fD)) (bD : Binds K fdD ["item", "web"] []) : FnOk P w K mg base CX0 3 f fd ["book", "weft", "web"] (spRunOn K C) := by
  have GD : FnOk P w K mg base CX0 1 fD fdD ["item", "web"] spSee := ok_does_see FD B
  refine F.ok sc_run_on (fun vs H Q E h => ?_) (fun cdv A outer s H vs Q E hr h => ?_)
  · obtain ⟨_, _, _, _, _, _, _, _, rfl, _⟩ := h
    rfl
  · obtain ⟨r, fa, ta, p, sg, l, fs, ws, rfl, hb, hfs, hp, hws, hl, hwl, q⟩ := h
    refine ⟨_, (pss_cons (ps_for PassesOwn.never rfl (pi_enumT (by rfl) B.enumerate (pa_cons (pv 1) pa_nil)) (pg_tup rfl (pgs_cons (pg_name (i := 3) sc_run_on.nd rfl (Or.inl rfl)) (pgs_cons (pg_name (i := 4) sc_run_on.nd rfl (Or.inl rfl)) pgs_nil)))
      (pss_one (ps_if (pt_cmpR op_eq (pe_callB call_len (by rfl) B.len (by decide +kernel) (pa_cons (pv 4) pa_nil)) pe_int (nomark _)) (pss_one (ps_set (i := 2) sc_run_on.nd rfl (Or.inl rfl) (pe_call GL (hr.mono (by decide)) (by rfl) gL FL.kp bL .nil pass0 (pa_cons (pv 0) (pa_cons (pv 2) (pa_cons (pv 4) pa_nil)))))) (pss_one (ps_if (pt_not (pt_val (pe_call GD (hr.mono (by decide)) (by rfl) gD FD.kp bD .nil pass0 (pa_cons (pv 4) (pa_cons (pv 2) pa_nil))))) (pss_one (ps_ret (pe_tup (pa_cons (pv 2) (pa_cons (pv 3) pa_nil))))) pss_nil)))))
    (pss_one (ps_ret (pe_tup (pa_cons (pv 2) (pa_cons pe_non pa_nil)))))), ?_⟩
    refine ⟨_, rfl, p, _, rfl, hp, ?_⟩
    refine for_it (walk_enumT (K := K) (a := p) (xs := txs ws)) (fun i σ H' => Same H H' ∧ ∃ l' o3 o4, ledM fs l ws = ledM fs l' (ws.drop i) ∧ l'.length ≤ l.length + i ∧ σ = [some (.ref r), some (.ref p), some (.str (S l')), o3, o4]) ⟨Same.refl _, l, _, _, rfl, Nat.le_refl _, rfl⟩ (fun i σ H' _ pp => Same.tup pp.1 hp) ?_ ?_
    · rintro i x σ H4 H5 hi ⟨s4, l', o3, o4, hl', hll, rfl⟩ ⟨T, y1, y2, rfl, hT, rfl, hy1, hy2⟩
      cases hy1
      rw [List.length_map] at hi
      have hy2 : (txs ws)[i]? = some y2 := hy2
      unfold txs at hy2
      rw [List.getElem?_map, List.getElem?_eq_getElem hi] at hy2
      cases hy2
      have hit := hws _ (List.getElem_mem hi)
      rw [List.drop_eq_getElem_cons hi] at hl'
      generalize ws[i] = it at hl' hit ⊢
      have s5 := same_new (o := HO.tup [V.int (i : Nat), V.str (S it)]) hT
      have t5 := s4.trans s5
      refine ⟨T, _, rfl, Or.inl (Or.inl upd_same), rfl, _, _, rfl, _, _, rfl, rfl, ?_⟩
      generalize upd H4 T (.tup [V.int (i : Nat), V.str (S it)]) = H5 at t5 ⊢
      rcases hit with ⟨c, rfl, hc⟩ | ⟨c, rfl⟩
      · have e1 : ledM fs l' ([c] :: ws.drop (i + 1)) = ledM fs (laidM fs l' c) (ws.drop (i + 1)) := by
          show (if some c = some 63 then _ else _) = _
          rw [if_neg (fun z => hc (Option.some.inj z))]
          rfl
        refine ⟨_, rfl, _, _, rfl, len_S (by show 1 ≤ 100000; decide), rfl, _, rfl, ifT rfl ⟨_, rfl, _, rfl, _, rfl, r, fa, ta, sg, l', fs, c, rfl, hb.same t5, hfs, by omega, fun H6 s6 => ?_⟩⟩
        have := laidz_len hfs.z l' c
        exact ⟨t5.trans s6, _, _, _, hl'.trans e1, by omega, rfl⟩
      · have e1 : ledM fs l' ([63, c] :: ws.drop (i + 1)) = (if lookM l' [63, c] = true then ledM fs l' (ws.drop (i + 1)) else none) := by
          exact if_pos rfl
        rw [e1] at hl'
        refine ⟨_, rfl, _, _, rfl, len_S (by show 2 ≤ 100000; decide), rfl, _, rfl, ifF rfl ⟨_, rfl, _, rfl, c, l', rfl, by omega, _, rfl, ?_⟩⟩
        cases el : lookM l' [63, c] with
        | true =>
          rw [el, if_pos rfl] at hl'
          exact ifF rfl ⟨t5, _, _, _, hl', by omega, rfl⟩
        | false =>
          rw [el, if_neg (by decide)] at hl'
          rw [hl'] at q
          refine ifT rfl ⟨_, rfl, _, rfl, sz_le (n := 2) (by decide), fun t ht => ?_⟩
          exact q _ t (t5.trans (same_new ht)) ⟨l', i, Or.inl (Or.inl upd_same)⟩
    · rintro σ H4 ⟨s4, l', o3, o4, hl', hll, rfl⟩
      rw [List.length_map, List.drop_length] at hl'
      have hl' : ledM fs l ws = some l' := hl'
      rw [hl'] at q
      refine ⟨_, rfl, sz_le (n := 2) (by decide), fun t ht => ?_⟩
      exact q _ t (s4.trans (same_new ht)) (Or.inl (Or.inl upd_same))
end
end Lw


namespace MqE_place
open PySem PySem.Spec PyProof.Rows L2 Mq PySem.W PySem.Calls
/-! ### errors whose one parameter is thing -/
def iA (p1 p2 : Pos) : Arguments := { posonlyargs := [], args := [{ arg := "self", annotation := none, pos := p1 }, { arg := "place", annotation := none, pos := p2 }], vararg := none, kwonlyargs := [], kw_defaults := [], kwarg := none, defaults := [] }
def iB (q1 q2 q3 q4 : Pos) : List Stmt := [.Assign [.Attribute (.Name "self" q1) "place" q2] (.Name "place" q3) q4]
def iS : Scope := { kind := .function, names := [(PySem.Str.ofString "self", .local), (PySem.Str.ofString "place", .local)], isGenerator := false, isCoroutine := false, more := [] }
/-- what the written part says of the class x at C, and of its __init__ at fI -/
structure Txt (K : Frag) (mg : Str → Option Value) (x qual : Str) (C fI : Addr) : Prop where
  gC : mg x = some (.ref C)
  kC : keepIn K (.ref C) = true
  ex : excInitIn K C exTail "Exception.__new__" = true
  ov : excOver K C exTail = true
  hdC : hasDictIn K C = true
  tk : takerIn K C "place" = some none
  sa : findIn K (.ref C) "__setattr__" = some (some (.builtin "object.__setattr__"))
  iC : findIn K (.ref C) "__init__" = some (some (.ref fI))
  tC : typeIn K (.ref fI) = some (.type "function")
  exC : subIn K (.ref C) (.type "BaseException") = some true
  tyC : typeIn K (.ref C) = some (.type "type")
  fn : ∃ (oc : Value) (od : Option Addr) (doc pm : Value) (an : Option Addr) (cdv ct : Value) (osl : Array (Option Value)) (p1 p2 q1 q2 q3 q4 : Pos),
    K.lookup fI = some ⟨oc, od, .func (fnOf "__init__" qual (iA p1 p2) (iB q1 q2 q3 q4) iS .none .none doc pm an cdv ct), osl⟩ ∧ codeIn K cdv qual = true
theorem ld_loc {M : Model} {s : Shared} {name : Str} {scope : Scope} {L a : Addr} {cd : Value} {m : Str → Option Value} {y : Str} {pos : Pos} {v : Value}
    {Q : Value → Shared → Prop} {A : Around} {E : Value → Shared → Prop} (hn : s.heap.Ns L m) (hv : m y = some v) (h : Q v s)
    (hk : scope.kind = .function := by rfl) (hl : (envOfC name scope L a cd).kindOf y = some .local := by rfl) (hd : (y == ("__debug__" : Str)) = false := by decide) :
    wpAny M A (eval (.Name y pos) (envOfC name scope L a cd)) Q E s := wpAny_Name (wpAny_loadName_local hk hl hn hv h) hd
/-- what __init__ leaves of a new error at e -/
structure Filled (h h' : Heap) (e C dx t1 : Addr) (v : Value) : Prop where
  keep : ∀ b o, b ≠ e → h.get? b = some o → h'.get? b = some o
  obj : h'.get? e = some (excObj C t1 (some dx) .none)
  big : h.objs.size ≤ dx
  ne : dx ≠ e
  ns : h'.Ns1 dx (fun y => if y = "place" then some v else none)
/-- a made error -/
structure Made (h h' : Heap) (e C d : Addr) (v : Value) : Prop where
  keep : ∀ b o, h.get? b = some o → h'.get? b = some o
  new : h.objs.size ≤ e
  obj : ∃ oe vs, h'.get? e = some oe ∧ oe.cls = .ref C ∧ oe.dict = some d ∧ oe.data = .fields vs ∧ vs[1]? = some .none
  big : h.objs.size ≤ d
  ne : d ≠ e
  ns : h'.Ns1 d (fun y => if y = "place" then some v else none)
section
variable {prog : Program} {w : World} {A : Around} {E : Value → Shared → Prop} {R : Result → Shared → Prop} {s : Shared} {K : Frag} {mg : Str → Option Value} {x qual : Str} {C fI : Addr}
theorem init_run (T : Txt K mg x qual C fI) {e t0 : Addr} {v : Value} (X : K.In s.heap) (lim : s.heap.NoLimit) (he : s.heap.get? e = some (excObj C t0 none .none)) (room : A.depth < recursionLimit)
    (hq : ∀ h' tk dx, Filled s.heap h' e C dx t0 v → R (.ok (.ret .none)) { s with heap := h', toks := tk }) :
    codeAny (model prog w) A (.call (.ref fI) ⟨[.ref e, v], []⟩) R s := by
  obtain ⟨oc, od, doc, pm, an, cdv, ct, osl, p1, p2, q1, q2, q3, q4, ho, hcd⟩ := T.fn
  refine Att.call_fn (binds := [("self", .ref e), ("place", v)]) X lim ho hcd room (BindsTo.of_eq (by first | rfl | with_unfolding_all rfl)) (by first | rfl | decide | with_unfolding_all rfl) (fun s₁ IC => ?_) rfl rfl rfl
  obtain ⟨h₁, tk₁, rfl⟩ := IC.toInCall.same
  have k : ∀ b o, s.heap.get? b = some o → h₁.get? b = some o := IC.toInCall.keep
  have hn := IC.toInCall.ns
  have X₁ : K.In h₁ := X.keeps k
  have he₁ := k _ _ he
  show wpAny _ _ (execs _ _) _ _ _
  refine wpAny_execs_cons (plainObj_wpAny_Assign_Attribute ?_)
  refine ld_loc (v := v) hn (by first | rfl | with_unfolding_all rfl | kernel_rfl) (ld_loc (v := .ref e) hn (by first | rfl | with_unfolding_all rfl | kernel_rfl) ?_)
  refine set_plain X₁ (ox := excObj C t0 none .none) (od := none) ⟨he₁, rfl, rfl, trivial⟩ T.sa ?_
  refine osa_first X₁ he₁ T.ov T.hdC T.tk (fun h₃ tk₃ dx k₃ dn dne he₃ hn₃ => ?_)
  show wpAny _ _ (execs _ _) _ _ _
  have z : s.heap.objs.size < h₁.objs.size := hn.lt
  exact wpAny_execs_nil (hq h₃ tk₃ dx ⟨fun b o hb e => k₃ b o hb (k b o e), he₃, Nat.le_of_lt (Nat.lt_of_lt_of_le z dn), dne, hn₃⟩)
theorem made_run (T : Txt K mg x qual C fI) {v : Value} (X : K.In s.heap) (lim : s.heap.NoLimit) (room : A.depth + 1 < recursionLimit)
    (hq : ∀ h' tk e d, Made s.heap h' e C d v → R (.ok (.ret (.ref e))) { s with heap := h', toks := tk }) :
    codeAny (model prog w) A (.call (.ref C) ⟨[v], []⟩) R s := by
  obtain ⟨nm, N, qn, bs, bm, hdct, sn, sub, ab, col, dd, k0, k1, k2, k3, k5, hC, hT⟩ := excInit_of X T.ex
  obtain ⟨hp, g, dr, tk, os⟩ := s
  have k : ∀ b o, hp.get? b = some o → ((hp.push (kdv_tup [v])).push (HandSPX.excO C hp.objs.size)).get? b = some o := fun b o e => Heap.get?_push_of_some _ (Heap.get?_push_of_some _ e)
  have hget : ((hp.push (kdv_tup [v])).push (HandSPX.excO C hp.objs.size)).get? (hp.objs.size + 1) = some (excObj C hp.objs.size none .none) := by heap_get
  refine HandSPX.call_own F.excBase_Exception hT hC (looks_findIn X T.iC) (fun self => bind_fn X self T.tC) (by rw [sizeLine_eq]; exact (by decide : 1 ≤ 16777216)) ?_
  refine init_run (s := ⟨(hp.push (kdv_tup [v])).push (HandSPX.excO C hp.objs.size), g, dr, tk, os⟩) T (X.keeps k) (lim.keeps k) hget ?_ (fun h' tk' dx M => ?_)
  · show A.depth + 1 < recursionLimit
    exact room
  · obtain ⟨k', hx, dn, dne, hns⟩ := M
    have old : ∀ b o, hp.get? b = some o → h'.get? b = some o := fun b o e => k' b o (Nat.ne_of_lt (Nat.lt_succ_of_lt (Heap.lt_size e))) (k b o e)
    have z : hp.objs.size + 1 + 1 ≤ dx := by
      have q := dn
      rw [Heap.size_push, Heap.size_push] at q
      exact q
    exact ⟨rfl, hq h' tk' (hp.objs.size + 1) dx ⟨old, Nat.le_succ _, ⟨_, _, hx, rfl, rfl, rfl, rfl⟩, Nat.le_trans (Nat.le_trans (Nat.le_succ _) (Nat.le_succ _)) z, dne, hns⟩⟩
end
theorem relO_f {v : V} {v' : Value} (r : RelV v v') (f : Str) : RelO (List.lookup f [(("place" : Str), v)]) (if f = "place" then some v' else none) := by
  by_cases hw : f = "place"
  · subst hw
    rw [if_pos rfl]
    have q : List.lookup ("place" : Str) [(("place" : Str), v)] = some v := by simp [List.lookup]
    rw [q]
    exact r
  · rw [if_neg hw]
    have qw : (f == ("place" : Str)) = false := by simpa using hw
    have q2 : List.lookup f [(("place" : Str), v)] = none := by simp [List.lookup, qw]
    rw [q2]
    trivial
section
variable {X : Cx} {C fI : Addr} {x qual : Str}
/-- x(e) -/
def tMk (C : Addr) (ta : TA) : L2.St → Hp → XK → Prop := fun σ H Q => ta σ H fun vs H1 => ∃ v, vs = [v] ∧ ∀ d, H1 d = none → Q (.ref C) (some d) (upd H1 d (.xd [(("place" : Str), v)]))
theorem pmk {a : Expr} {ta : TA} {p pos : Pos} {k : Nat} (T : Txt X.K X.mg x qual C fI) (hr : Room k X.A) (ha : PA X [a] ta) (hg : Gl X x := by rfl) (hdb : (x == ("__debug__" : Str)) = false := by decide)
    (he : starEach (a :: []) X.env = (false, eval a X.env) :: starEach [] X.env := by rfl) (hpl : (backTo pos (starEach [] X.env)).any (·.1) = false := by rfl) :
    PMk X (.Call (.Name x p) [a] [] pos) (tMk C ta) := by
  intro pins s σ H Q I h
  refine wpAny_Call_Name_kw (ld_glob I hg T.gC ?_ hdb)
  refine callWith_K (h₀ := X.base) I.ok.mod.kin T.kC (thn (ha.run pos pins s σ H _ I h) fun us s1 hh => ?_) he hpl
  obtain ⟨vs, H1, I1, r1, v, ev, q1⟩ := hh
  subst ev
  refine ⟨I1.kIn, ?_⟩
  cases r1 with
  | cons rv rn =>
    rename_i v' us'
    cases rn
    show wpAny _ _ (call (.ref C) [v']) _ _ _
    have hlim := I1.nolimit
    obtain ⟨hp, g, dr, tk, os⟩ := s1
    refine wpAny_call (made_run T I1.kIn hlim (by have := hr.dp; omega) (fun h' tk' e d M => ?_))
    show MkP X pins σ Q (.ref e) ⟨h', g, dr, tk', os⟩
    obtain ⟨oe, fv, hoe, hc, hd, hdat, h1⟩ := M.obj
    have hns := M.ns
    obtain ⟨G', g1, g2⟩ := restrict h' fun b => decide (b ≠ e)
    have gk : ∀ b, b ≠ e → G'.get? b = h'.get? b := fun b hb => g1 b (decide_eq_true hb)
    have ge : G'.get? e = none := g2 e (by simp)
    have old : ∀ b o, hp.get? b = some o → G'.get? b = some o := fun b o q => (gk b (Nat.ne_of_lt (Nat.lt_of_lt_of_le (Heap.lt_size q) M.new))).trans (M.keep b o q)
    have ob : ObjOk X.prog X.w (upd H1 d (.xd [(("place" : Str), v)])) G' d (.xd [(("place" : Str), v)]) :=
      ⟨_, hns.at (fun o q => (gk d M.ne).trans q), fun f => relO_f rv f⟩
    have J : L2.Inv X pins σ (upd H1 d (.xd [(("place" : Str), v)])) ⟨G', g, dr, tk', os⟩ := I1.laid (t' := tk') old M.big ob
    refine ⟨e, oe, fv, ⟨G', g, dr, tk', os⟩, _, .ref C, some d, rfl, J, (fun b o q => ?_), ge, hoe, ⟨hc, hd⟩, hdat, h1, ?_, rfl, I1.bare, raises_own T.exC T.tyC, q1 d (I1.hok.fresh M.big)⟩
    · by_cases hb : b = e
      · have q' : G'.get? b = some o := q
        rw [hb, ge] at q'
        cases q'
      · exact (gk b hb).symm.trans q
    · rw [upd_ne (Ne.symm M.ne)]
      exact I1.hok.fresh M.new
/-- raise x(e) -/
def tRaise (C : Addr) (W : WX) (ta : TA) : TS := fun _ σ H => tMk C ta σ H fun cls d H' => W cls d σ H'
theorem ps_raise {a : Expr} {ta : TA} {W : WX} {p pos pos2 : Pos} {k : Nat} (hc : X.calm = true) (T : Txt X.K X.mg x qual C fI) (hr : Room k X.A) (tk : Takes X W) (ha : PA X [a] ta) (hg : Gl X x := by rfl) (hdb : (x == ("__debug__" : Str)) = false := by decide)
    (he : starEach (a :: []) X.env = (false, eval a X.env) :: starEach [] X.env := by rfl) (hpl : (backTo pos (starEach [] X.env)).any (·.1) = false := by rfl) :
    PS X (.Raise (some (.Call (.Name x p) [a] [] pos)) none pos2) (tRaise C W ta) := L2.ps_raise hc tk (pmk T hr ha hg hdb he hpl)
end
end MqE_place

namespace Mq
open PySem PySem.Spec PyProof.Rows L2
/-! ### sorted(xs), xs a list of tuples of whole numbers of any length -/
def intK (ns : List Int) : List (Int ⊕ List Nat) := ns.map Sum.inl
def ltIs (x y : List Int) : Bool := (PyProof.Rows.listOrd PyProof.Rows.itemOrd).blt (intK x) (intK y)
def rSortedIs (K : PySem.W.Frag) : List V → Hp → VK → Prop := fun xs H Q => ∃ (a : Addr) (as : List Addr) (f : Addr → List Int), xs = [.ref a] ∧ SqL K H a (as.map V.ref) ∧ (∀ b ∈ as, SqT K H b ((f b).map V.int)) ∧ (2 ≤ as.length → ∀ b ∈ as, f b ≠ []) ∧
  ∀ (qs : List Addr) (p : Addr), qs.Perm as → (∀ i j, i ≤ j → j < qs.length → ltIs (f (qs.getD j 0)) (f (qs.getD i 0)) = false) → H p = none → Q (.ref p) (upd H p (.lst (qs.map V.ref)))
theorem vals_ints : ∀ {ns : List Int} {us : List Value} {i : Nat}, Vals (ns.map V.int) us → PyProof.Rows.tupItems (fun _ => false) i us = some (intK ns)
  | [], _, _, .nil => rfl
  | n :: ns, _, i, @Paired.cons _ _ _ _ y _ us r rr => by
    obtain ⟨t, e⟩ : ∃ t, y = Value.int n t := r
    rw [e]
    show (if false = true then none else (PyProof.Rows.tupItems (fun _ => false) (i + 1) us).map (Sum.inl n :: ·)) = _
    rw [if_neg (by decide), vals_ints rr]
    rfl
section
variable {X : Cx}
theorem call_sortedIs : CallR X (.builtin "sorted") (rSortedIs X.K) := by
  intro pins s σ H xs us Q I r q
  obtain ⟨a, as, f, rfl, ha, h3, hne, q⟩ := q
  obtain ⟨u, rfl, rx⟩ := vals1 r
  cases rx
  obtain ⟨its, rv, hl, hz⟩ := I.list ha
  have ei : its = as.map Value.ref := vals_refs rv
  subst ei
  have obj : ∀ b ∈ as, ∃ (ob : Obj) (n : Nat) (ys : List Value), s.heap.get? b = some ob ∧ ob.cls = .type "tuple" ∧ ob.data = .seq ys.toArray n ∧ Vals ((f b).map V.int) ys := by
    intro b hb
    obtain ⟨ys, r2, ⟨ob, h1, h2, n, h4⟩, _⟩ := I.tuple (h3 b hb)
    exact ⟨ob, n, ys, h1, h2, h4, r2⟩
  have tups : (∀ b ∈ as, f b ≠ []) → ∀ l : List Addr, (∀ b ∈ l, b ∈ as) → ∃ fs, PyProof.Rows.TupsOf s.heap (fun _ => false) (l.map Value.ref) fs := by
    intro hn l
    induction l with
    | nil => intro _; exact ⟨[], .nil⟩
    | cons b l ih =>
      intro hl
      obtain ⟨fs, hf⟩ := ih fun x hx => hl x (List.mem_cons_of_mem _ hx)
      obtain ⟨ob, n, ys, h1, h2, h4, r2⟩ := obj b (hl b List.mem_cons_self)
      have hn := hn b (hl b List.mem_cons_self)
      cases e : f b with
      | nil => exact (hn e).elim
      | cons m ms =>
        rw [e] at r2
        cases r2 with
        | cons a1 r2 =>
          obtain ⟨t, rfl⟩ := a1
          exact ⟨_, .cons ⟨b, ob, _, n, rfl, h1, h2, h4, rfl, fun _ => ⟨_, _, rfl⟩, fun z => (by cases z)⟩ hf⟩
  have keyC : ∀ b ∈ as, PyProof.Rows.G.tupKeyC s.heap (fun _ => false) (.ref b) = some (intK (f b)) := by
    intro b hb
    obtain ⟨ob, n, ys, h1, h2, h4, r2⟩ := obj b hb
    have hT : PyProof.Rows.G.isTupObj s.heap (.ref b) = true := by
      simp [PyProof.Rows.G.isTupObj, h1, h2]
    unfold PyProof.Rows.G.tupKeyC
    rw [if_pos hT]
    simp only [PyProof.Rows.tupKey, h1, h4]
    exact vals_ints r2
  have hk : ∀ v, v ∈ as.map Value.ref → ∃ l, PyProof.Rows.G.tupKeyC s.heap (fun _ => false) v = some l := fun v hv => by
    obtain ⟨b, hb, rfl⟩ := List.mem_map.mp hv
    exact ⟨_, keyC b hb⟩
  refine PyProof.Rows.G.sortedG (κ := PyProof.Rows.G.tupKindC s.heap fun _ => false) (kd := tuples' true) (vs := as.map Value.ref) hl.isList (PyProof.Rows.G.tupKeys hk) (fun s₂ k => PyProof.Rows.G.tupC_ltAt (s := s₂) true k)
    (fun h2 A E s₂ Q' k hq => ?_) (by rw [List.length_map] at hz ⊢; exact hz) fun st' hp hs _ => ?_
  · have h2' : 2 ≤ as.length := by rw [List.length_map] at h2; exact h2
    obtain ⟨fs, hfs⟩ := tups (hne h2') as fun _ h => h
    exact PyProof.Rows.tup_kind (s := s₂) (by rw [PyProof.Rows.G.TupsOf.length hfs]; omega) (PyProof.Rows.G.TupsOf.keep k hfs) hq
  obtain ⟨e', he'⟩ := PyProof.Rows.sortedAll_at s.heap (as.map Value.ref) ((arrOf st').map (·.2))
  have mem : ∀ p ∈ (arrOf st').toList, p.1 = p.2 ∧ p.1 ∈ as.map Value.ref := fun p hp' => by
    have h1 := (hp.toList.mem_iff (a := p)).mp hp'
    rw [PyProof.Rows.pairsOf_toList] at h1
    exact PyProof.Rows.mem_zip_self h1
  obtain ⟨qs, hq1, hq2⟩ : ∃ qs : List Addr, (arrOf st').toList.map (·.2) = qs.map Value.ref ∧ qs.Perm as := by
    have h1 : ((arrOf st').toList.map (·.2)).Perm (as.map Value.ref) := by
      have h2 := hp.toList.map (fun p : Keyed => p.2)
      rw [PyProof.Rows.pairsOf_toList] at h2
      rw [List.map_snd_zip (Nat.le_refl _)] at h2
      exact h2
    exact perm_back h1
  have hql : qs.length = as.length := hq2.length_eq
  have harr : (arrOf st').toList.length = qs.length := by
    have h1 := congrArg List.length hq1
    rw [List.length_map, List.length_map] at h1
    exact h1
  have hkk : ∀ i, i < qs.length → PyProof.Rows.KK (PyProof.Rows.G.tupKindC s.heap fun _ => false) (arrOf st') i = intK (f (qs.getD i 0)) := by
    intro i hi
    have hi' : i < (arrOf st').toList.length := by omega
    have e1 : (arrOf st')[i]? = some (arrOf st').toList[i] := by
      rw [← Array.getElem?_toList, List.getElem?_eq_getElem hi']
    obtain ⟨m1, m2⟩ := mem _ (List.getElem_mem hi')
    have e2 : (arrOf st').toList[i].2 = .ref (qs.getD i 0) := by
      have h1 := congrArg (fun l => l[i]?) hq1
      simp only [List.getElem?_map, List.getElem?_eq_getElem hi', List.getElem?_eq_getElem hi, Option.map_some, Option.some.injEq] at h1
      rw [h1, List.getD_eq_getElem?_getD, List.getElem?_eq_getElem hi]
      rfl
    have hin : qs.getD i 0 ∈ as := hq2.mem_iff.mp (by rw [List.getD_eq_getElem?_getD, List.getElem?_eq_getElem hi]; exact List.getElem_mem hi)
    unfold PyProof.Rows.KK
    rw [e1]
    show (PyProof.Rows.G.tupKeyC _ _ (arrOf st').toList[i].1).getD _ = _
    rw [m1, e2, keyC _ hin]
    rfl
  have srt : ∀ i j, i ≤ j → j < qs.length → ltIs (f (qs.getD j 0)) (f (qs.getD i 0)) = false := by
    intro i j hij hj
    have h1 := hs i j hij (by rw [PyProof.Rows.pairsOf_size, List.length_map]; omega)
    rw [hkk i (by omega), hkk j hj] at h1
    exact h1
  have vals : ∀ l : List Addr, Vals (l.map V.ref) (l.map Value.ref) := fun l => by
    induction l with
    | nil => exact .nil
    | cons b l ih => exact .cons rfl ih
  have hout : ((arrOf st').map (·.2)).toList = qs.map Value.ref := by
    rw [Array.toList_map]
    exact hq1
  have hz2 : (qs.map V.ref).length ≤ sizeLine := by
    rw [List.length_map, hql]
    rw [List.length_map] at hz
    exact hz
  have fresh := I.hok.fresh (Nat.le_succ s.heap.objs.size)
  refine ⟨.ref (s.heap.objs.size + 1), upd H (s.heap.objs.size + 1) (.lst (qs.map V.ref)), ?_, rfl, q qs _ hq2 srt fresh⟩
  refine I.laid (t' := s.toks) (fun b u e => PyProof.Rows.sortedAll_old e) (Nat.le_succ _) ⟨hz2, qs.map Value.ref, e', vals qs, ?_⟩
  rw [← hout, Array.toArray_toList]
  exact he'
end
end Mq

namespace Mq
open PySem PySem.Spec PyProof.Rows L2
open PySem.W (EachIs AllAlike Sortable dataLe)
/-! ### sorted(xs), xs a list of data that are alike (whole numbers, truth values, texts, tuples and lists of these, nested): the items' own order -/
def rSortedD (K : PySem.W.Frag) : List V → Hp → VK → Prop := fun vs H Q => ∃ (β : Type) (enc : β → PyData) (Rv : V → β → Prop) (a : Addr) (xs : List V) (bs : List β), vs = [.ref a] ∧ SqL K H a xs ∧ EachIs (fun x b => Dp K H x (enc b) ∧ Rv x b) xs bs ∧
  AllAlike (bs.map enc) ∧ Sortable (bs.map enc) ∧ (∀ b ∈ bs, (enc b).depth ≤ 50) ∧ ∀ (ys : List V) (p : Addr), EachIs Rv ys (bs.mergeSort (dataLe false enc)) → H p = none → Q (.ref p) (upd H p (.lst ys))
theorem each_vals {β : Type} {R : V → β → Prop} : ∀ {xs : List V} {us : List Value} {bs : List β}, Vals xs us → EachIs R xs bs → EachIs (fun u b => ∃ x, RelV x u ∧ R x b) us bs
  | _, _, _, .nil, e => by
    cases e
    exact .nil
  | _, _, _, .cons r rr, e => by
    cases e with
    | cons h t => exact .cons ⟨_, r, h⟩ (each_vals rr t)
theorem vals_each {β : Type} {R : V → β → Prop} : ∀ {us : List Value} {bs : List β}, EachIs (fun u b => ∃ x, RelV x u ∧ R x b) us bs → ∃ xs, Vals xs us ∧ EachIs R xs bs
  | _, _, .nil => ⟨[], .nil, .nil⟩
  | _, _, .cons ⟨x, r, h⟩ t => by
    obtain ⟨xs, a, b⟩ := vals_each t
    exact ⟨x :: xs, .cons r a, .cons h b⟩
theorem each_mono {α β : Type} {R S : α → β → Prop} (f : ∀ a b, R a b → S a b) : ∀ {xs : List α} {bs : List β}, EachIs R xs bs → EachIs S xs bs
  | _, _, .nil => .nil
  | _, _, .cons h t => .cons (f _ _ h) (each_mono f t)
theorem each_len {α β : Type} {R : α → β → Prop} : ∀ {xs : List α} {bs : List β}, EachIs R xs bs → xs.length = bs.length
  | _, _, .nil => rfl
  | _, _, .cons _ t => by rw [List.length_cons, List.length_cons, each_len t]
section
variable {X : Cx}
theorem cr_sortedD (hu : X.A.units + 64 < cLine) : CallR X (.builtin "sorted") (rSortedD X.K) := by
  intro pins s σ H vs us Q I r h
  obtain ⟨β, enc, Rv, a, xs, bs, rfl, hs, he, hal, hk, hd, q⟩ := h
  obtain ⟨its, rv, hl, hz⟩ := I.list hs
  obtain ⟨u, rfl, ru⟩ := vals1 r
  obtain rfl : u = Value.ref a := ru
  have e1 := each_vals rv he
  have hlen : xs.length = bs.length := each_len he
  refine PySem.W.sorted_data (R := fun u b => ∃ x, RelV x u ∧ Rv x b) (enc := enc) hl.isList (each_mono (fun _ _ h => ⟨h.choose, h.choose_spec.1, h.choose_spec.2.2⟩) e1) (each_mono (fun u b h => ?_) e1) hal hk (by omega) (fun b hb => ?_) fun out ho hE => ?_
  · obtain ⟨x, h1, h2, _⟩ := h
    exact Dp.reads I _ _ _ h2 h1
  · have := hd b hb
    omega
  · obtain ⟨ys, hv, hys⟩ := vals_each hE
    obtain ⟨e', he'⟩ := PyProof.Rows.sortedAll_at s.heap its out.toArray
    have hyl : ys.length = out.length := hv.length
    refine ⟨.ref (s.heap.objs.size + 1), upd H (s.heap.objs.size + 1) (.lst ys), ?_, rfl, q ys _ hys (I.hok.fresh (Nat.le_succ _))⟩
    refine I.laid (t' := s.toks) (fun b u e => PyProof.Rows.sortedAll_old e) (Nat.le_succ _) ⟨by omega, out, e', hv, ?_⟩
    exact he'
end
end Mq

namespace Lw
open PySem PySem.Spec PyProof.Rows L2 Mq
open SX (S)
open PySem.W (EachIs)
open GxR (TabB TabG Tabbed)
/-! ### a course led -/
theorem each_at {α β : Type} {R : α → β → Prop} : ∀ {xs : List α} {bs : List β} {i : Nat} {x : α}, EachIs R xs bs → xs[i]? = some x → ∃ b, bs[i]? = some b ∧ R x b
  | _, _, 0, _, .cons a _, h => ⟨_, rfl, by cases h; exact a⟩
  | _, _, i + 1, _, .cons _ t, h => each_at (i := i) t h
abbrev intsV (ns : List Nat) : List V := ns.map fun n => V.int ((n : Nat) : Int)
def WfAt (K : PySem.W.Frag) (H : Hp) (v : V) (ws : List (List Nat)) : Prop := ∃ p, v = .ref p ∧ SqT K H p (txs ws)
theorem WfAt.kp {K : PySem.W.Frag} {H H' : Hp} {v : V} {ws : List (List Nat)} (h : WfAt K H v ws) (e : KpT K H H') : WfAt K H' v ws := let ⟨p, a, b⟩ := h; ⟨p, a, e _ _ b⟩
theorem wfs_kp {K : PySem.W.Frag} {H H' : Hp} {vs : List V} {wss : List (List (List Nat))} (h : EachIs (WfAt K H) vs wss) (e : KpT K H H') : EachIs (WfAt K H') vs wss := each_mono (fun _ _ z => z.kp e) h
theorem KpT.exn {K : PySem.W.Frag} {H H' : Hp} (e : ExN H H') : KpT K H H' := fun _ _ h => e.tup h
/-- a shelf at b -/
structure ShAt (K : PySem.W.Frag) (H : Hp) (b : Addr) (wss : List (List (List Nat))) : Prop where
  ex : ∃ ss, SqT K H b ss ∧ EachIs (WfAt K H) ss wss
  it : ∀ ws ∈ wss, (∀ u ∈ ws, ItK u) ∧ ws.length ≤ 10
theorem ShAt.kp {K : PySem.W.Frag} {H H' : Hp} {b : Addr} {wss : List (List (List Nat))} (h : ShAt K H b wss) (e : KpT K H H') : ShAt K H' b wss := let ⟨ss, a, c⟩ := h.ex; ⟨⟨ss, e _ _ a, wfs_kp c e⟩, h.it⟩
def crsM (gs : List Fd) (wss : List (List (List Nat))) : List Nat → List Nat → Option (List Nat)
  | l, [] => some l
  | l, n :: r => match ledM gs l (wss.getD n []) with
    | some l' => crsM gs wss l' r
    | none => none
theorem led_len {gs : List Fd} (h : zOk gs) : ∀ {ws : List (List Nat)} {l l' : List Nat}, ledM gs l ws = some l' → l'.length ≤ l.length + ws.length
  | [], l, l', e => by
    cases (show some l = some l' from e)
    exact Nat.le_refl _
  | it :: r, l, l', e => by
    have e : (if it.head? = some 63 then (if lookM l it = true then ledM gs l r else none) else ledM gs (laidM gs l (it.headD 0)) r) = some l' := e
    rw [List.length_cons]
    split at e
    · split at e
      · have := led_len h e
        omega
      · cases e
    · have := led_len h e
      have := laidz_len h l (it.headD 0)
      omega
def spLedBy (K : PySem.W.Frag) (C : Addr) : Sp := fun vs H Q _ => ∃ (r fa ta b p : Addr) (sg l ns : List Nat) (fs : List Fd) (wss : List (List (List Nat))), vs = [.ref r, .ref b, .str (S l), .ref p] ∧ BkAt H C r sg fs fa ta ∧ FsOk sg fs ∧ ShAt K H b wss ∧ SqT K H p (intsV ns) ∧ (∀ n ∈ ns, n < wss.length) ∧ l.length ≤ 1000 ∧ ns.length ≤ 500 ∧
  ∀ H', Same H H' → Q (optZ (crsM fs wss l ns)) H'
section
variable {P : Program} {w : World} {K : PySem.W.Frag} {mg : Str → Option Value} {base : Heap} {C CW CP c0 P0 : Addr}
theorem ok_led_by {f fR : Addr} {fd fdR : FuncData} (F : Fun K "led_by" "led_by" s_led_by f fd)
    (FR : Fun K "run_on" "run_on" s_run_on fR fdR) (gR : mg "run_on" = some (.ref fR)) (bR : Binds K fdR ["book", "weft", "web"] []) (GR : FnOk P w K mg base CX0 3 fR fdR ["book", "weft", "web"] (spRunOn K C)) : FnOk P w K mg base CX0 4 f fd ["book", "shelf", "web", "course"] (spLedBy K C) := by
  refine F.ok sc_led_by (fun vs H Q E h => ?_) (fun cdv A outer s H vs Q E hr h => ?_)
  · obtain ⟨_, _, _, _, _, _, _, _, _, _, rfl, _⟩ := h
    rfl
  · obtain ⟨r, fa, ta, b, p, sg, l, ns, fs, wss, rfl, hb, hfs, hsh, hp, hns, hl, hnl, q⟩ := h
    refine ⟨_, (pss_cons (ps_for PassesOwn.never rfl (pi_tup (pv 3)) (pg_name (i := 4) sc_led_by.nd rfl (Or.inl rfl))
      (pss_cons (ps_asg (pe_call GR (hr.mono (by decide)) (by rfl) gR FR.kp bR .nil pass0 (pa_cons (pv 0) (pa_cons (pe_ix ix_tup (pv 1) (pv 4) (fun _ _ => rfl)) (pa_cons (pv 2) pa_nil)))) (pg_tup rfl (pgs_cons (pg_name (i := 2) sc_led_by.nd rfl (Or.inl rfl)) (pgs_cons (pg_name (i := 5) sc_led_by.nd rfl (Or.inl rfl)) pgs_nil))))
      (pss_one (ps_if (pt_cmpR op_notN (pv 5) pe_non (nomark _)) (pss_one (ps_ret pe_non)) pss_nil))))
    (pss_one (ps_ret (pv 2)))), ?_⟩
    refine ⟨_, rfl, p, rfl, ⟨_, hp⟩, ?_⟩
    refine for_it (walk_tup (K := K) (a := p) (xs := intsV ns)) (fun i σ H' => Same H H' ∧ ∃ l' o4 o5, crsM fs wss l ns = crsM fs wss l' (ns.drop i) ∧ l'.length ≤ l.length + 10 * i ∧ σ = [some (.ref r), some (.ref b), some (.str (S l')), some (.ref p), o4, o5]) ⟨Same.refl _, l, _, _, rfl, Nat.le_refl _, rfl⟩ (fun i σ H' _ pp => Same.tup pp.1 hp) ?_ ?_
    · rintro i x σ H4 H5 hi ⟨s4, l', o4, o5, hl', hll, rfl⟩ ⟨rfl, hx⟩
      rw [List.length_map] at hi
      rw [List.getElem?_map, List.getElem?_eq_getElem hi] at hx
      cases hx
      have hn := hns _ (List.getElem_mem hi)
      rw [List.drop_eq_getElem_cons hi] at hl'
      generalize ns[i] = n at hl' hn ⊢
      obtain ⟨⟨ss, hss, hw⟩, hit⟩ := hsh.kp (KpT.same s4)
      have hsl := each_len hw
      have hnl2 : n < ss.length := by omega
      obtain ⟨ws, hws, q1, e1, hq1⟩ := each_at hw (List.getElem?_eq_getElem hnl2)
      have hm := List.mem_of_getElem? hws
      have hit := hit ws hm
      have hgd : wss.getD n [] = ws := by rw [List.getD_eq_getElem?_getD, hws]; rfl
      have hat : atI ss ((n : Nat) : Int) = some (.ref q1) := atI_nat (j := n) (by rw [List.getElem?_eq_getElem hnl2, e1])
      refine ⟨_, rfl, _, rfl, _, rfl, b, ss, _, _, rfl, rfl, hss, hat, _, rfl, r, fa, ta, q1, sg, l', fs, ws, rfl, hb.same s4, hfs, hq1, hit.1, by omega, by omega, fun H6 t s6 hr6 => ?_⟩
      have hl' : crsM fs wss l ns = (match ledM fs l' (wss.getD n []) with | some l' => crsM fs wss l' (ns.drop (i + 1)) | none => none) := hl'
      rw [hgd] at hl'
      cases el : ledM fs l' ws with
      | some z =>
        rw [el] at hl' hr6
        have hz := led_len hfs.z el
        have hr6 : SqT K H6 t [.str (S z), .non] := hr6
        refine ⟨t, _, rfl, hr6, rfl, _, _, rfl, _, _, rfl, rfl, ?_⟩
        exact ⟨_, rfl, rfl, _, rfl, ifF rfl ⟨s4.trans s6, _, _, _, hl', by omega, rfl⟩⟩
      | none =>
        rw [el] at hl' hr6
        obtain ⟨z, k, hr6⟩ := hr6
        refine ⟨t, _, rfl, hr6, rfl, _, _, rfl, _, _, rfl, rfl, ?_⟩
        have hl' : crsM fs wss l ns = none := hl'
        rw [hl'] at q
        exact ⟨_, rfl, rfl, _, rfl, ifT rfl (q H6 (s4.trans s6))⟩
    · rintro σ H4 ⟨s4, l', o4, o5, hl', hll, rfl⟩
      rw [List.length_map, List.drop_length] at hl'
      have hl' : crsM fs wss l ns = some l' := hl'
      rw [hl'] at q
      exact ⟨_, rfl, q H4 s4⟩
end
end Lw

namespace Lw
open PySem PySem.Spec PyProof.Rows L2 Mq
open SX (S)
open PySem.W (EachIs)
open GxR (TabB TabG Tabbed)
/-! ### course_led -/
theorem first_is {p : Nat → Bool} {n i : Nat} (h : firstN p n = some i) : i < n ∧ p i = true := by
  unfold firstN at h
  rw [List.find?_range_eq_some] at h
  exact ⟨List.mem_range.mp h.2.1, h.1⟩
theorem first_all {p : Nat → Bool} {n : Nat} (h : firstN p n = none) : ∀ j, j < n → p j = false := fun j hj => by
  unfold firstN at h
  rw [List.find?_eq_none] at h
  have := h j (List.mem_range.mpr hj)
  simpa using this
theorem all_nats {K : PySem.W.Frag} {H : Hp} {m : Nat} : ∀ {xs : List V} {ds : List PyData}, DgAll K H xs ds → (∀ j, j < ds.length → belowD m (ds.getD j .none) = true) → ∃ ns : List Nat, xs = intsV ns ∧ ds = ns.map (fun n => PyData.int ((n : Nat) : Int)) ∧ ∀ n ∈ ns, n < m
  | _, _, .nil, _ => ⟨[], rfl, rfl, fun _ h => nomatch h⟩
  | _, _, .cons (d := d) a b, h => by
    obtain ⟨ns, e1, e2, e3⟩ := all_nats b fun j hj => h (j + 1) (Nat.succ_lt_succ hj)
    have h0 := h 0 (Nat.succ_pos _)
    have h0 : belowD m d = true := h0
    cases d with
    | int i =>
      cases a
      have h0 : (decide (0 ≤ i) && decide (i < (m : Int))) = true := h0
      simp only [Bool.and_eq_true, decide_eq_true_eq] at h0
      obtain ⟨k, rfl⟩ : ∃ k : Nat, i = (k : Nat) := ⟨i.toNat, by omega⟩
      refine ⟨k :: ns, by rw [e1]; rfl, by rw [e2]; rfl, fun n hn => ?_⟩
      rcases List.mem_cons.mp hn with rfl | hn
      · omega
      · exact e3 n hn
    | _ => cases h0
/-- the numbers of a right course -/
theorem right_nats {K : PySem.W.Frag} {H : Hp} {m : Nat} {v : V} {d : PyData} (hd : Dg K H v d) (h : wrongM m d = .non) : ∃ (a : Addr) (ns : List Nat), v = .ref a ∧ SqT K H a (intsV ns) ∧ d = .tuple (ns.map fun n => PyData.int ((n : Nat) : Int)) ∧ ∀ n ∈ ns, n < m := by
  cases hd with
  | @tup a xs ds hz ha =>
    have h : optI (firstN (badAt m ds) ds.length) = .non := h
    have hf : firstN (badAt m ds) ds.length = none := by
      cases e : firstN (badAt m ds) ds.length with
      | none => rfl
      | some i => rw [e] at h; cases h
    obtain ⟨ns, e1, e2, e3⟩ := all_nats (m := m) ha fun j hj => by
      have := first_all hf j hj
      unfold badAt at this
      simpa using this
    exact ⟨a, ns, rfl, by rw [← e1]; exact hz, by rw [e2], e3⟩
  | non => cases h
  | bl b => cases h
  | int i => cases h
  | str x => cases h
  | lst n h1 a => cases h
  | dct h1 a => cases h
theorem wrong_or (m : Nat) (d : PyData) : wrongM m d = .non ∨ ∃ k : Int, wrongM m d = .int k := by
  unfold wrongM
  split
  · rename_i ds
    cases firstN (badAt m ds) ds.length with
    | none => exact Or.inl rfl
    | some i => exact Or.inr ⟨_, rfl⟩
  · exact Or.inr ⟨_, rfl⟩
def spCourse (K : PySem.W.Frag) (C CW CP P0 : Addr) : Sp := fun vs H Q E => ∃ (r fa ta b : Addr) (sg : List Nat) (fs : List Fd) (wss : List (List (List Nat))) (wv cv : V), vs = [.ref r, .ref b, wv, cv] ∧ BkAt H C r sg fs fa ta ∧ FsOk sg fs ∧ ShAt K H b wss ∧ TabG H P0 ∧
  ((WebBad K H sg wv ∧ ∀ H' dd, ExN H H' → TabG H' P0 → H' dd = none → E (.ref CW) (some dd) (upd H' dd (.xd [("thing", wv)]))) ∨
   ∃ (l : List Nat) (d : PyData), WebGood sg wv l ∧ l.length ≤ 1000 ∧ Dg K H cv d ∧ (∀ ds, d = .tuple ds → ds.length ≤ 500) ∧
    (∀ k : Int, wrongM wss.length d = .int k → ∀ H' dd, ExN H H' → TabG H' P0 → H' dd = none → E (.ref CP) (some dd) (upd H' dd (.xd [("place", .int k)]))) ∧
    (∀ ns : List Nat, wrongM wss.length d = .non → d = .tuple (ns.map fun n => PyData.int ((n : Nat) : Int)) → ∀ H', ExN H H' → TabG H' P0 → Q (optZ (crsM fs wss l ns)) H'))
theorem BkAt.exn {C : Addr} {H H' : Hp} {r fa ta : Addr} {sg : List Nat} {fs : List Fd} (h : BkAt H C r sg fs fa ta) (e : ExN H H') : BkAt H' C r sg fs fa ta := let ⟨⟨d, x⟩, y⟩ := h; ⟨⟨d, e _ _ x (fun _ z => nomatch z)⟩, e _ _ y (fun _ z => nomatch z)⟩
section
variable {P : Program} {w : World} {K : PySem.W.Frag} {mg : Str → Option Value} {base : Heap} {C CW CP c0 P0 : Addr}
theorem ok_course_led {f fC fW fL fB : Addr} {fd fdC fdW fdL : FuncData} (F : Fun K "course_led" "course_led" s_course_led f fd) (R : BkC K C)
    (FC : Fun K "check_web" "check_web" s_check_web fC fdC) (gC : mg "check_web" = some (.ref fC)) (bC : Binds K fdC ["letters", "thing"] []) (GC : FnOk P w K mg base (L2.CX P w) 3 fC fdC ["letters", "thing"] (spCheck K CW))
    (FW : Fun K "wrong_place" "wrong_place" s_wrong_place fW fdW) (gW : mg "wrong_place" = some (.ref fW)) (bW : Binds K fdW ["shelf", "thing"] []) (GW : FnOk P w K mg base CX0 4 fW fdW ["shelf", "thing"] (spWrong K P0))
    (FL : Fun K "led_by" "led_by" s_led_by fL fdL) (gL : mg "led_by" = some (.ref fL)) (bL : Binds K fdL ["book", "shelf", "web", "course"] []) (GL : FnOk P w K mg base CX0 4 fL fdL ["book", "shelf", "web", "course"] (spLedBy K C))
    (T : MqE_place.Txt K mg "BadCourse" "BadCourse.__init__" CP fB) : FnOk P w K mg base (L2.CX P w) 5 f fd ["book", "shelf", "web", "course"] (spCourse K C CW CP P0) := by
  refine F.okX sc_course_led (fun vs H Q E h => ?_) (fun cdv A outer s H vs Q E hr h => ?_)
  · obtain ⟨_, _, _, _, _, _, _, _, _, rfl, _⟩ := h
    rfl
  · obtain ⟨r, fa, ta, b, sg, fs, wss, wv, cv, rfl, hb, hfs, hsh, hT, h⟩ := h
    refine ⟨_, (pss_cons (ps_expr (pe_call GC (hr.mono (by decide)) (by rfl) gC FC.kp bC .nil (passes_call (takes_of rfl rfl rfl rfl) (fun _ _ _ _ z => z)) (pa_cons (pe_fld (pv 0) rfl) (pa_cons (pv 2) pa_nil))))
    (pss_cons (ps_set (i := 4) sc_course_led.nd rfl (Or.inl rfl) (pe_call GW (hr.mono (by decide)) (by rfl) gW FW.kp bW .nil pass0 (pa_cons (pv 1) (pa_cons (pv 3) pa_nil))))
    (pss_cons (ps_if (pt_cmpR op_notN (pv 4) pe_non (nomark _)) (pss_one (MqE_place.ps_raise rfl T hr (takes_of rfl rfl rfl rfl) (pa_cons (pv 4) pa_nil))) pss_nil)
    (pss_one (ps_ret (pe_call GL (hr.mono (by decide)) (by rfl) gL FL.kp bL .nil pass0 (pa_cons (pv 0) (pa_cons (pv 1) (pa_cons (pv 2) (pa_cons (pv 3) pa_nil)))))))))), ?_⟩
    obtain ⟨dx, h1⟩ := hb.1
    refine ⟨_, rfl, r, C, dx, _, _, rfl, h1, R.cls, R.nL, rfl, _, rfl, sg, wv, rfl, ?_⟩
    rcases h with ⟨hbad, q⟩ | ⟨l, d, hg, hl, hd, hdl, q1, q2⟩
    · exact Or.inr ⟨hbad, fun H' dd s' hn => q H' dd (ExN.of s') (Mq.TabG.same hT s') hn⟩
    · refine Or.inl ⟨l, hg, fun H1 s1 => ?_⟩
      obtain ⟨⟨ss, hss, hw⟩, hit⟩ := hsh
      have hsl := each_len hw
      refine ⟨_, rfl, _, rfl, b, ss, cv, d, rfl, Same.tup s1 hss, hd.same s1, Mq.TabG.same hT s1, fun H2 e2 t2 => ?_⟩
      have ex := (ExN.of s1).trans e2
      rw [hsl]
      rcases wrong_or wss.length d with hw0 | ⟨k, hw0⟩
      · rw [hw0]
        obtain ⟨a, ns, rfl, hz, ed, hns⟩ := right_nats hd hw0
        have hnl : ns.length ≤ 500 := by
          have := hdl _ ed
          rw [List.length_map] at this
          exact this
        refine ⟨_, rfl, rfl, _, rfl, ifF rfl ⟨_, rfl, _, rfl, _, rfl, _, rfl, r, fa, ta, b, a, sg, l, ns, fs, wss, by rw [hg.1]; rfl, hb.exn ex, hfs, ⟨⟨ss, ex.tup hss, wfs_kp hw (KpT.exn ex)⟩, hit⟩, ex.tup hz, hns, hl, hnl, fun H3 s3 => ?_⟩⟩
        exact q2 ns hw0 ed H3 (ex.trans (ExN.of s3)) (Mq.TabG.same t2 s3)
      · rw [hw0]
        refine ⟨_, rfl, rfl, _, rfl, ifT rfl ⟨_, rfl, ⟨_, rfl, fun dd hdd => q1 k hw0 H2 dd ex t2 hdd⟩⟩⟩
end
end Lw

namespace Mq
open PySem PySem.Spec PyProof.Rows L2
theorem op_neTup0 {X : Cx} (hu : X.A.units < cLine) : OpR X (compareOp .NotEq) (fun x y H Q => ∃ a b xs, x = .ref a ∧ y = .ref b ∧ SqT X.K H a xs ∧ SqT X.K H b [] ∧ Q (.bl (!xs.isEmpty)) H) := by
  intro pins s σ H x y v u Q I rx ry h
  obtain ⟨a, b, xs, rfl, rfl, ha, hb, q⟩ := h
  cases rx
  cases ry
  obtain ⟨us, r1, p1, _⟩ := I.tuple ha
  obtain ⟨ws, r2, p2, _⟩ := I.tuple hb
  have hl := r1.length
  cases r2
  refine PySem.W.cmp_ofNotEq ?_
  refine SeqAt.RcNeAt.tuples (e := fun _ => true) p1 p2 hu (fun j _ h2 => absurd h2 (by simp)) X.prog X.w _ _ ?_
  refine ⟨.bl (!xs.isEmpty), H, I, ?_, q⟩
  have e : ((List.range (min us.toArray.size ([] : List Value).toArray.size)).all (fun _ => true) && us.toArray.size == ([] : List Value).toArray.size) = xs.isEmpty := by
    rw [List.size_toArray, List.size_toArray, ← hl]
    cases xs <;> simp
  rw [e]
  rfl
end Mq

namespace Lw
open PySem PySem.Spec PyProof.Rows L2 Mq
open SX (S)
/-! ### shelves of any value -/
def shelfD (sg : List Nat) : PyData → Bool
  | .tuple es => !es.isEmpty && allI (weftD sg) es
  | _ => false
theorem shelfD_no {sg : List Nat} {d : PyData} (h : ∀ x, d ≠ .tuple x) : shelfD sg d = false := by
  cases d with
  | tuple x => exact absurd rfl (h x)
  | _ => rfl
def spShelfA (K : PySem.W.Frag) : Sp := fun vs H Q _ => ∃ (sg : List Nat) (v : V) (d : PyData), vs = [.str (S sg), v] ∧ Dg K H v d ∧ d.weight ≤ 100000 ∧ ∀ H', Same H H' → Q (.bl (shelfD sg d)) H'
section
variable {P : Program} {w : World} {K : PySem.W.Frag} {mg : Str → Option Value} {base : Heap}
theorem ok_shelfA {f fI : Addr} {fd fdI : FuncData} (F : Fun K "is_shelf" "is_shelf" s_is_shelf f fd) (B : Blt mg)
    (FI : Fun K "is_weft" "is_weft" s_is_weft fI fdI) (gI : mg "is_weft" = some (.ref fI)) (bI : Binds K fdI ["letters", "thing"] []) (GI : FnOk P w K mg base CX0 3 fI fdI ["letters", "thing"] (spWeftA K)) :
    FnOk P w K mg base CX0 4 f fd ["letters", "thing"] (spShelfA K) := by
  refine F.ok sc_is_shelf (fun vs H Q E h => ?_) (fun cdv A outer s H vs Q E hr h => ?_)
  · obtain ⟨_, _, _, rfl, _⟩ := h
    rfl
  · obtain ⟨sg, v, d, rfl, hd, hw, q⟩ := h
    have hu0 : (A.deeper (envOfC "is_shelf" (defScope s_is_shelf) s.heap.objs.size f cdv)).units < cLine := by
      have := hr.units
      omega
    refine ⟨_, (pss_one (ps_ret (pe_and (pe_callB call_isi (by rfl) B.isi (by decide +kernel) (pa_cons (pv 1) (pa_cons (pe_bltn (v := .ty "tuple") (by rfl) B.tuple (by decide +kernel) rfl) pa_nil))) (pe_and (pe_cmpR (op_neTup0 hu0) (pv 1) (pe_tup pa_nil) (nomark _)) (pe_one (pe_callB (cr_all rfl) (by rfl) B.all (by decide +kernel) (pa_cons (pe_lc (own := [("weft", 2)]) (g := gName 2) (tt := tYes) rfl sc_is_shelf.nd (pi_tup (pv 1)) (blkOk_by (own := [("weft", 2)]) (N := ["letters", "thing", "weft"]) (sc := defScope s_is_shelf) (by decide +kernel)) (fun _ _ _ _ _ => pg_name (i := 2) sc_is_shelf.nd rfl (Or.inl rfl)) (fun _ _ _ _ _ => pts_nil) (fun _ _ _ _ _ => (pe_call GI (hr.mono (by decide)) (by rfl) gI FI.kp bI .nil pass0 (pa_cons (pv 0) (pa_cons (pv 2) pa_nil))))) pa_nil))))))), ?_⟩
    rcases dg_tup hd with ⟨p, xs, es, rfl, rfl, hp, ha⟩ | ⟨⟨a, t, m', n'⟩, nx⟩
    rotate_left
    · rw [shelfD_no nx] at q
      exact ⟨_, rfl, _, .ty "tuple", _, _, false, rfl, .ty _, t, kit_noT m' n', false, rfl, iteF (q H (Same.refl H))⟩
    have hl := ha.len
    have q : ∀ H', Same H H' → Q (.bl (!es.isEmpty && allI (weftD sg) es)) H' := q
    have hwd : PyData.weightAll es ≤ 100000 := hw
    have hle : es.length ≤ 100000 := Nat.le_trans (weight_len es) hwd
    refine ⟨_, rfl, _, .ty "tuple", _, _, true, rfl, .ty _, ty_tup hp, kit_ty (by decide +kernel), true, rfl, iteT ?_⟩
    refine ⟨_, rfl, sz_le (n := 0) (by decide), fun z hz => ?_⟩
    have s0 := same_new (o := HO.tup []) hz
    have z0 : SqT K (upd H z (.tup [])) z [] := Or.inl (Or.inl upd_same)
    refine ⟨p, z, xs, rfl, rfl, Same.tup s0 hp, z0, ?_⟩
    have hemp : xs.isEmpty = es.isEmpty := by
      cases xs <;> cases es <;> first | rfl | cases hl
    rw [hemp]
    cases hem : es.isEmpty with
    | true =>
      rw [hem] at q
      exact ⟨_, rfl, iteF (q _ s0)⟩
    | false =>
    rw [hem] at q
    refine ⟨_, rfl, iteT ?_⟩
    generalize upd H z (.tup []) = H1 at s0 ⊢
    have hp := Same.tup s0 hp
    unfold tCB tCons
    dsimp only
    refine lc_mapJ (n := es.length) (Y := YAt xs) (fun k => .bl (weftD sg (es.getD k .none))) (by omega) (fun R k => ?_) ?_ ?_
    · refine ⟨.ref p, rfl, ?_⟩
      have hwk := walk_tup (K := K) (a := p) (xs := xs)
      rw [hl] at hwk
      exact ⟨p, rfl, ⟨_, hp⟩, k _ _ _ hwk (fun H' g e => Same.tup e g) (Same.refl H1) hp⟩
    · rintro i x H' H'' R hi sm ⟨rfl, hx⟩ k
      have hi2 : i < xs.length := by omega
      have hx' : x = xs[i] := by
        have h1 : xs[i]? = some x := hx
        rw [List.getElem?_eq_getElem hi2] at h1
        exact (Option.some.inj h1).symm
      have hg : Dg K H'' x (es.getD i .none) := by
        rw [hx']
        exact ((dgall_at ha hi2).same s0).same sm
      have wi2 : (es.getD i .none).weight ≤ 100000 := by
        rw [List.getD_eq_getElem?_getD, List.getElem?_eq_getElem (by omega : i < es.length)]
        exact Nat.le_trans (weight_mem (List.getElem_mem _)) hwd
      exact ⟨rfl, _, rfl, _, rfl, sg, x, _, rfl, hg, wi2, fun H3 s3 => k _ s3⟩
    · intro D H' hD sm hl'
      refine ⟨D, (List.range es.length).map fun k => weftD sg (es.getD k .none), rfl, SqL.of ?_, q _ (s0.trans sm)⟩
      rw [List.map_map]
      exact hl'
end
end Lw

namespace Mq
open PySem PySem.Spec PyProof.Rows L2
/-! ### comprehensions of two fors -/
/-- the inner loop, from where it begins to where Nx is reached -/
def InL (J1 : It) (H4 : Hp) (g1 : TG) (tt1 : TT) (te : TE) (vs1 : List Nat) (σ2 : L2.St) (D : Addr) (Nx : Hp → Prop) : Prop :=
  ∃ W1 : Nat → Nat → Hp → Prop, (∃ m, W1 0 m H4) ∧ ∀ j k H, W1 j k H →
    (J1.stop j H ∧ Nx H) ∨ (J1.go j H ∧ ∃ Nx1 : Hp → Prop, (∀ H', Nx1 H' → ∃ k', k' < k ∧ W1 (j + 1) k' H') ∧ ∀ x H', J1.yld j H x H' → g1 x (wipe σ2 vs1) H' fun σ3 H5 => wipe σ3 vs1 = wipe σ2 vs1 ∧ tt1 σ3 H5 fun b H6 =>
      if b = true then te σ3 H6 fun y H7 => ∃ acc, H7 D = some (.lst acc) ∧ acc.length < sizeLine ∧ Nx1 (upd H7 D (.lst (acc ++ [y]))) else Nx1 H6)
theorem yes_if {σ2 : L2.St} {H2 : Hp} {A B : Hp → Prop} (h : A H2) : tYes σ2 H2 fun b H3 => if b = true then A H3 else B H3 := by
  show (if true = true then A H2 else B H2)
  rw [if_pos rfl]
  exact h
theorem inL_it {J1 : It} {n1 : Nat} {G1 : Hp → Prop} {Y1 : Nat → Hp → V → Hp → Prop} (w : Walk J1 n1 G1 Y1) {H4 : Hp} {g1 : TG} {tt1 : TT} {te : TE} {vs1 : List Nat} {σ2 : L2.St} {D : Addr} {Nx : Hp → Prop} (Pv : Nat → Hp → Prop) (h0 : Pv 0 H4) (hG : ∀ i H, i ≤ n1 → Pv i H → G1 H)
    (hs : ∀ j x H H', j < n1 → Pv j H → Y1 j H x H' → g1 x (wipe σ2 vs1) H' fun σ3 H5 => wipe σ3 vs1 = wipe σ2 vs1 ∧ tt1 σ3 H5 fun b H6 =>
      if b = true then te σ3 H6 fun y H7 => ∃ acc, H7 D = some (.lst acc) ∧ acc.length < sizeLine ∧ Pv (j + 1) (upd H7 D (.lst (acc ++ [y]))) else Pv (j + 1) H6) (hd : ∀ H, Pv n1 H → Nx H) : InL J1 H4 g1 tt1 te vs1 σ2 D Nx := by
  refine ⟨fun i m H => m = n1 - i ∧ i ≤ n1 ∧ Pv i H, ⟨n1, by simp, Nat.zero_le _, h0⟩, ?_⟩
  rintro i m H ⟨rfl, hi, p⟩
  have q := hG i H hi p
  by_cases hlt : i < n1
  · refine .inr ⟨w.goes i H hlt q, Pv (i + 1), fun H' p' => ⟨n1 - (i + 1), by omega, rfl, hlt, p'⟩, fun x H' y => hs i x H H' hlt p (w.yields i H x H' hlt q y)⟩
  · have e : i = n1 := by omega
    subst e
    exact .inl ⟨w.stops H q, hd H p⟩
theorem lc2_it {J : It} {n : Nat} {G : Hp → Prop} {Y : Nat → Hp → V → Hp → Prop} (w : Walk J n G Y) {g : TG} {wi1 : TI} {g1 : TG} {tt1 : TT} {te : TE} {vs vs1 : List Nat} {σ : L2.St} {H1 : Hp} {D : Addr} {Qd : Hp → Prop} (Pv : Nat → Hp → Prop)
    (h0 : Pv 0 (upd H1 D (.lst []))) (hG : ∀ i H, i ≤ n → Pv i H → G H)
    (hs : ∀ i x H H', i < n → Pv i H → Y i H x H' → g x (wipe σ vs) H' fun σ2 H2 => wipe σ2 vs = wipe σ vs ∧ wi1 σ2 H2 fun J1 H4 => InL J1 H4 g1 tt1 te vs1 σ2 D (Pv (i + 1))) (hd : ∀ H, Pv n H → Qd H)
    (mono : ∀ i x H H' (F F' : L2.St → Hp → Prop), Y i H x H' → (∀ σ2 H2, F σ2 H2 → F' σ2 H2) → g x (wipe σ vs) H' F → g x (wipe σ vs) H' F') :
    ∃ W : Nat → Nat → Hp → Prop, (∃ m, W 0 m (upd H1 D (.lst []))) ∧ ∀ i m H, W i m H →
      (J.stop i H ∧ Qd H) ∨ (J.go i H ∧ ∃ Nx : Hp → Prop, (∀ H', Nx H' → ∃ m', m' < m ∧ W (i + 1) m' H') ∧ ∀ x H', J.yld i H x H' → g x (wipe σ vs) H' fun σ2 H2 => wipe σ2 vs = wipe σ vs ∧ tYes σ2 H2 fun b H3 =>
        if b = true then wi1 σ2 H3 fun J1 H4 => InL J1 H4 g1 tt1 te vs1 σ2 D Nx else Nx H3) := by
  refine ⟨fun i m H => m = n - i ∧ i ≤ n ∧ Pv i H, ⟨n, by simp, Nat.zero_le _, h0⟩, ?_⟩
  rintro i m H ⟨rfl, hi, p⟩
  have q := hG i H hi p
  by_cases hlt : i < n
  · refine .inr ⟨w.goes i H hlt q, Pv (i + 1), fun H' p' => ⟨n - (i + 1), by omega, rfl, hlt, p'⟩, fun x H' y => ?_⟩
    have y' := w.yields i H x H' hlt q y
    refine mono i x H H' _ _ y' (fun σ2 H2 h => ⟨h.1, ?_⟩) (hs i x H H' hlt p y')
    exact yes_if h.2
  · have e : i = n := by omega
    subst e
    exact .inl ⟨w.stops H q, hd H p⟩
theorem push_same0 {H0 H : Hp} {L : Addr} {o : HO} (hn : H0 L = none) (s : Same H0 H) : Same H0 (upd H L o) := by
  intro b u e
  rw [upd_ne (ne_of_none e hn)]
  exact s b u e
/-- two walks over tuples or lists, nothing changed but the list that is made: what stands in it at the end -/
theorem lc2_flat {J : It} {n : Nat} {G : Hp → Prop} {Y : Nat → Hp → V → Hp → Prop} (w : Walk J n G Y) {i0 i1 : Nat} {wi1 : TI} {te : TE} {vs vs1 : List Nat} {σ : L2.St} {H1 : Hp} {D : Addr} {Qd : Hp → Prop} (R : Nat → List V)
    (hD : H1 D = none) (hG : ∀ H, Same H1 H → G H) (hz : ∀ i, i ≤ n → (((List.range i).map R).flatten).length ≤ 1000000)
    (hs : ∀ i x H H', i < n → Same H1 H → Y i H x H' → gName i0 x (wipe σ vs) H' fun σ2 H2 => H2 = H ∧ wipe σ2 vs = wipe σ vs ∧ ∀ F : It → Hp → Prop,
      (∀ (J1 : It) (G1 : Hp → Prop) (Y1 : Nat → Hp → V → Hp → Prop), Walk J1 (R i).length G1 Y1 → (∀ H', Same H1 H' → G1 H') →
        (∀ j x1 H5 H6, j < (R i).length → Same H1 H5 → Y1 j H5 x1 H6 → gName i1 x1 (wipe σ2 vs1) H6 fun σ3 H7 => H7 = H5 ∧ wipe σ3 vs1 = wipe σ2 vs1 ∧ ∀ Fv : VK, (∀ y, (R i)[j]? = some y → Fv y H5) → te σ3 H7 Fv) → F J1 H) → wi1 σ2 H2 F)
    (hd : ∀ H, Same H1 H → H D = some (.lst (((List.range n).map R).flatten)) → Qd H) :
    ∃ W : Nat → Nat → Hp → Prop, (∃ m, W 0 m (upd H1 D (.lst []))) ∧ ∀ i m H, W i m H →
      (J.stop i H ∧ Qd H) ∨ (J.go i H ∧ ∃ Nx : Hp → Prop, (∀ H', Nx H' → ∃ m', m' < m ∧ W (i + 1) m' H') ∧ ∀ x H', J.yld i H x H' → gName i0 x (wipe σ vs) H' fun σ2 H2 => wipe σ2 vs = wipe σ vs ∧ tYes σ2 H2 fun b H3 =>
        if b = true then wi1 σ2 H3 fun J1 H4 => InL J1 H4 (gName i1) tYes te vs1 σ2 D Nx else Nx H3) := by
  refine lc2_it w (fun i H => Same H1 H ∧ H D = some (.lst (((List.range i).map R).flatten))) ⟨same_new hD, upd_same⟩ (fun i H _ p => hG H p.1) ?_ (fun H p => hd H p.1 p.2) (fun i x H H' F F' _ m h => m _ _ h)
  rintro i x H H' hi ⟨s, hd1⟩ y
  obtain ⟨rfl, h2, h3⟩ := hs i x H H' hi s y
  refine ⟨h2, h3 _ fun J1 G1 Y1 w1 hG1 hs1 => ?_⟩
  refine inL_it w1 (fun j H5 => Same H1 H5 ∧ H5 D = some (.lst (((List.range i).map R).flatten ++ (R i).take j))) ⟨s, by rw [hd1, List.take_zero, List.append_nil]⟩ (fun j H5 _ p => hG1 H5 p.1) ?_ ?_
  · rintro j x1 H5 H6 hj ⟨s5, hd5⟩ y1
    obtain ⟨rfl, h5, h6⟩ := hs1 j x1 H5 H6 hj s5 y1
    refine ⟨h5, ?_⟩
    refine yes_if (h6 _ fun y hy => ?_)
    refine ⟨_, hd5, ?_, push_same0 hD s5, ?_⟩
    · have h1 := hz (i + 1) hi
      rw [List.range_succ, List.map_append, List.flatten_append, List.length_append] at h1
      rw [List.length_append, List.length_take]
      have h2 : ([i].map R).flatten.length = (R i).length := by simp
      rw [h2] at h1
      refine Nat.lt_of_le_of_lt (m := 1000000) ?_ (by decide)
      omega
    · rw [upd_same, List.append_assoc, List.take_add_one, hy]
      rfl
  · rintro H5 ⟨s5, hd5⟩
    refine ⟨s5, ?_⟩
    rw [hd5, List.take_length, List.range_succ, List.map_append, List.flatten_append]
    simp
end Mq

namespace Lw
open PySem PySem.Spec PyProof.Rows L2 Mq
open SX (S)
/-! ### the law's own wefts and shelves -/
theorem call_isiKK {X : Cx} {K : PySem.W.Frag} (h : X.K = K) : CallR X (.builtin "isinstance") (rIsi K) := h ▸ call_isi
theorem op_notIn_seqK {X : Cx} {K : PySem.W.Frag} (h : X.K = K) : OpR X (compareOp .NotIn) (rIn K true) := h ▸ op_notIn_seq
def allN (p : Nat → Bool) (n : Nat) : Bool := (List.range n).all p
theorem allN_succ (p : Nat → Bool) (n : Nat) : allN p (n + 1) = (allN p n && p n) := by
  unfold allN
  rw [List.range_succ, List.all_append, List.all_cons, List.all_nil, Bool.and_true]
theorem allI_N (p : PyData → Bool) (es : List PyData) : allI p es = allN (fun k => p (es.getD k .none)) es.length := by
  unfold allI allN
  rw [List.all_map]
  rfl
def strD : PyData → Bool
  | .str _ => true
  | _ => false
def everyI (sg : List Nat) : List (List Nat) := sg.map (fun c => [c]) ++ [[63, 45]] ++ sg.map fun c => [63, c]
theorem mem_every (sg l : List Nat) : decide (l ∈ everyI sg) = itemB sg l := by
  unfold everyI itemB
  rw [Bool.eq_iff_iff, decide_eq_true_eq]
  simp only [List.mem_append, List.mem_map, List.mem_singleton, Bool.or_eq_true, Bool.and_eq_true, decide_eq_true_eq]
  constructor
  · rintro ((⟨c, hc, rfl⟩ | rfl) | ⟨c, hc, rfl⟩)
    · exact Or.inl (decide_eq_true hc)
    · exact Or.inr (Or.inl rfl)
    · exact Or.inr (Or.inr ⟨rfl, decide_eq_true hc⟩)
  · rintro (h | rfl | ⟨h1, h2⟩)
    · obtain ⟨c, rfl, hc⟩ := letB_one h
      exact Or.inl (Or.inl ⟨c, hc, rfl⟩)
    · exact Or.inl (Or.inr rfl)
    · obtain ⟨c, e, hc⟩ := letB_one h2
      refine Or.inr ⟨c, hc, ?_⟩
      rw [← List.take_append_drop 1 l, h1, e]
      rfl
theorem flat_txs (ws : List (List Nat)) : (txs ws).all flatV = true := by
  unfold txs
  rw [List.all_map, List.all_eq_true]
  intro c _
  rfl
theorem inV_txs (l : List Nat) (ws : List (List Nat)) : inV (.str (S l)) (txs ws) = decide (l ∈ ws) := by
  unfold inV txs
  rw [List.any_map, Bool.eq_iff_iff, List.any_eq_true, decide_eq_true_eq]
  constructor
  · rintro ⟨u, hu, e⟩
    have e : (S u == S l) = true := e
    have e2 := SX.S_inj (beq_iff_eq.mp e)
    rw [← e2]
    exact hu
  · intro h
    exact ⟨l, h, beq_self_eq_true (S l)⟩
def spLWeft (K : PySem.W.Frag) : Sp := fun vs H Q _ => ∃ (sg : List Nat) (v : V) (d : PyData), vs = [.str (S sg), v] ∧ sg.length ≤ 1000 ∧ Dg K H v d ∧ d.weight ≤ 100000 ∧ ∀ H', Same H H' → Q (.bl (weftD sg d)) H'
def spLShelf (K : PySem.W.Frag) : Sp := fun vs H Q _ => ∃ (sg : List Nat) (v : V) (d : PyData), vs = [.str (S sg), v] ∧ sg.length ≤ 1000 ∧ Dg K H v d ∧ d.weight ≤ 100000 ∧ ∀ H', Same H H' → Q (.bl (shelfD sg d)) H'
section
variable {P : Program} {w : World} {K : PySem.W.Frag} {mg : Str → Option Value} {base : Heap}
theorem ok_lweft {f : Addr} {fd : FuncData} (F : Fun K "_law_is_weft" "_law_is_weft" s__law_is_weft f fd) (B : Blt mg) : FnOk P w K mg base CX0 1 f fd ["_law_letters", "_law_it"] (spLWeft K) := by
  refine F.ok sc__law_is_weft (fun vs H Q E h => ?_) (fun cdv A outer s H vs Q E hr h => ?_)
  · obtain ⟨_, _, _, rfl, _⟩ := h
    rfl
  · obtain ⟨sg, v, d, rfl, hsg, hd, hw, q⟩ := h
    have hu0 : (A.deeper (envOfC "_law_is_weft" (defScope s__law_is_weft) s.heap.objs.size f cdv)).units < cLine := by
      have := hr.units
      omega
    refine ⟨_, (pss_cons (ps_if (PW.pt (pw_or (pt_not (pt_val (pe_callB call_isi (by rfl) B.isi (by decide +kernel) (pa_cons (pv 1) (pa_cons (pe_bltn (v := .ty "tuple") (by rfl) B.tuple (by decide +kernel) rfl) pa_nil))))) (pw_or1 (pt_cmpR (op_neNil hu0) (pe_lc (own := [("_law_item", 4)]) (g := gName 4) rfl sc__law_is_weft.nd (pi_tup (pv 1)) (blkOk_by (own := [("_law_item", 4)]) (N := ["_law_letters", "_law_it", "_law_every", "_law_sign", "_law_item"]) (sc := defScope s__law_is_weft) (by decide +kernel)) (fun _ _ _ _ _ => pg_name (i := 4) sc__law_is_weft.nd rfl (Or.inl rfl)) (fun _ _ _ _ _ => pts_one (pt_not (pt_val (pe_callB (call_isiKK (K := K) rfl) (by rfl) B.isi (by decide +kernel) (pa_cons (pv 4) (pa_cons (pe_bltn (v := .ty "str") (by rfl) B.str (by decide +kernel) rfl) pa_nil)))))) (fun _ _ _ _ _ => (pv 4))) (Mq.pe_ls pa_nil) (nomark _))))) (pss_one (ps_ret pe_bl)) pss_nil)
    (pss_cons (ps_set (i := 2) sc__law_is_weft.nd rfl (Or.inr rfl) (pe_op op_cat (pe_op op_cat (pe_callTy (call_listTx rfl) (by rfl) B.list (by decide +kernel) (pa_cons (pv 0) pa_nil)) (Mq.pe_ls (pa_cons pe_str pa_nil))) (pe_lc (own := [("_law_sign", 3)]) (g := gName 3) (tt := tYes) rfl sc__law_is_weft.nd (pi_str (pv 0)) (blkOk_by (own := [("_law_sign", 3)]) (N := ["_law_letters", "_law_it", "_law_every", "_law_sign", "_law_item"]) (sc := defScope s__law_is_weft) (by decide +kernel)) (fun _ _ _ _ _ => pg_name (i := 3) sc__law_is_weft.nd rfl (Or.inl rfl)) (fun _ _ _ _ _ => pts_nil) (fun _ _ _ _ _ => (pe_op op_add_str pe_str (pv 3))))))
    (pss_one (ps_ret (pe_cmpR (op_eqNil hu0) (pe_lc (own := [("_law_item", 4)]) (g := gName 4) rfl sc__law_is_weft.nd (pi_tup (pv 1)) (blkOk_by (own := [("_law_item", 4)]) (N := ["_law_letters", "_law_it", "_law_every", "_law_sign", "_law_item"]) (sc := defScope s__law_is_weft) (by decide +kernel)) (fun _ _ _ _ _ => pg_name (i := 4) sc__law_is_weft.nd rfl (Or.inl rfl)) (fun _ _ _ _ _ => pts_one (pt_cmpR (op_notIn_seqK (K := K) rfl) (pv 4) (pv 2) rfl)) (fun _ _ _ _ _ => (pv 4))) (Mq.pe_ls pa_nil) (nomark _)))))), ?_⟩
    rcases dg_tup hd with ⟨p, xs, es, rfl, rfl, hp, ha⟩ | ⟨⟨a, t, m', n'⟩, nx⟩
    rotate_left
    · rw [weftD_no nx] at q
      exact ⟨_, rfl, _, .ty "tuple", _, _, false, rfl, .ty _, t, kit_noT m' n', false, rfl, iteT (ifT rfl (q H (Same.refl H)))⟩
    have hl := ha.len
    have q : ∀ H', Same H H' → Q (.bl (allI (itemD sg) es)) H' := q
    rw [allI_N] at q
    have hwd : PyData.weightAll es ≤ 100000 := hw
    have hle : es.length ≤ 100000 := Nat.le_trans (weight_len es) hwd
    refine ⟨_, rfl, _, .ty "tuple", _, _, true, rfl, .ty _, ty_tup hp, kit_ty (by decide +kernel), true, rfl, iteF ?_⟩
    refine ⟨_, rfl, p, rfl, ⟨_, hp⟩, fun M hM => ?_⟩
    refine lc_it (walk_tup (K := K) (a := p) (xs := xs)) (fun i H' => Same H H' ∧ ∃ ys, H' M = some (.lst ys) ∧ ys.length ≤ i ∧ ys.isEmpty = allN (fun k => strD (es.getD k .none)) i) ⟨same_new hM, [], upd_same, Nat.le_refl 0, rfl⟩ (fun _ _ _ pp => Same.tup pp.1 hp) ?_ ?_
    · rintro i x H2 H2' hi ⟨s2, ys, zM, hyl, hye⟩ ⟨rfl, hx⟩
      rw [List.getElem?_eq_getElem hi] at hx
      cases hx
      have hg : Dg K H2' xs[i] (es.getD i .none) := (dgall_at ha hi).same s2
      rw [allN_succ]
      rcases dg_str hg with ⟨z, e1, e2⟩ | ⟨⟨a, t, m, n⟩, nx⟩
      · refine ⟨rfl, _, rfl, _, .ty "str", _, _, true, rfl, .ty _, by rw [e1]; exact .base (.str _), kit_self, true, rfl, ifF rfl ⟨s2, ys, zM, by omega, ?_⟩⟩
        rw [e2]
        show _ = (_ && true)
        rw [Bool.and_true]
        exact hye
      · have e3 : strD (es.getD i .none) = false := by
          cases e : es.getD i .none with
          | str x => exact absurd e (nx x)
          | _ => rfl
        refine ⟨rfl, _, rfl, _, .ty "str", _, _, false, rfl, .ty _, t, kit_no m n, false, rfl, ifT rfl ⟨_, rfl, ys, zM, sz_lt (by omega), push_same0 hM s2, ys ++ [xs[i]], upd_same, by rw [List.length_append]; exact Nat.succ_le_succ hyl, ?_⟩⟩
        rw [e3, Bool.and_false]
        cases ys <;> rfl
    rintro H2 ⟨s2, ys, zM, hyl, hye⟩
    rw [hl] at hye
    refine ⟨sz_le (n := 0) (by decide), fun E0 hE0 _ => ?_⟩
    have s3 := same_new (o := HO.lst []) hE0
    refine ⟨M, E0, ys, rfl, rfl, SqL.of (s3 _ _ zM), SqL.of upd_same, _, rfl, ?_⟩
    have s23 := s2.trans s3
    generalize upd H2 E0 (.lst []) = H3 at s23 ⊢
    rw [hye]
    cases hst : allN (fun k => strD (es.getD k .none)) es.length with
    | false =>
      have e4 : allN (fun k => itemD sg (es.getD k .none)) es.length = false := by
        cases e : allN (fun k => itemD sg (es.getD k .none)) es.length with
        | false => rfl
        | true =>
          have h1 := List.all_eq_true.mp (show (List.range es.length).all _ = true from e)
          have : allN (fun k => strD (es.getD k .none)) es.length = true := List.all_eq_true.mpr fun k hk => by
            have h2 : itemD sg (es.getD k .none) = true := h1 k hk
            show strD (es.getD k .none) = true
            cases e5 : es.getD k .none with
            | str x => rfl
            | _ => rw [e5] at h2; cases h2
          rw [this] at hst
          cases hst
      rw [e4] at q
      exact ifT rfl (q H3 s23)
    | true =>
      refine ifF rfl ?_
      have hstr := List.all_eq_true.mp (show (List.range es.length).all _ = true from hst)
      have hsz : (S sg).cps.size ≤ sizeLine := sz_le (n := sg.length) (by omega)
      refine ⟨_, rfl, S sg, rfl, hsz, fun L1 hL1 _ => ?_⟩
      have e1 : ((S sg).cps.toList.map fun c => V.str ⟨#[c]⟩) = txs (sg.map fun c => [c]) := by
        unfold txs
        rw [List.map_map]
        rfl
      rw [e1]
      have t1 := same_new (o := HO.lst (txs (sg.map fun c => [c]))) hL1
      have z1 : upd H3 L1 (.lst (txs (sg.map fun c => [c]))) L1 = some (.lst (txs (sg.map fun c => [c]))) := upd_same
      generalize upd H3 L1 (.lst (txs (sg.map fun c => [c]))) = H4 at t1 z1 ⊢
      refine ⟨sz_le (n := 1) (by decide), fun L2 hL2 _ => ?_⟩
      have t2 := same_new (o := HO.lst [V.str "?-"]) hL2
      have z2 : upd H4 L2 (.lst [V.str "?-"]) L2 = some (.lst [V.str "?-"]) := upd_same
      have z1 := t2 _ _ z1
      generalize upd H4 L2 (.lst [V.str "?-"]) = H5 at t2 z1 z2 ⊢
      have lsg : (txs (sg.map fun c => [c])).length = sg.length := by unfold txs; rw [List.length_map, List.length_map]
      refine ⟨L1, L2, _, _, rfl, rfl, z1, z2, by rw [lsg]; exact sz_le (n := sg.length + 1) (by omega), fun L3 hL3 => ?_⟩
      have t3 := same_new (o := HO.lst (txs (sg.map fun c => [c]) ++ [V.str "?-"])) hL3
      have z3 : upd H5 L3 (.lst (txs (sg.map fun c => [c]) ++ [V.str "?-"])) L3 = some (.lst (txs (sg.map fun c => [c]) ++ [V.str "?-"])) := upd_same
      generalize upd H5 L3 (.lst (txs (sg.map fun c => [c]) ++ [V.str "?-"])) = H6 at t3 z3 ⊢
      have s36 := s23.trans (t1.trans (t2.trans t3))
      clear z1 z2 t1 t2 t3 zM
      have eq : ("?" : Str) = S [63] := by decide +kernel
      have e2 : ("?-" : Str) = S [63, 45] := by decide +kernel
      refine ⟨_, rfl, S sg, rfl, fun M4 hM4 => ?_⟩
      refine lc_yes (walk_S sg) (fun i H' => Same H6 H' ∧ H' M4 = some (.lst (txs ((sg.take i).map fun c => [63, c])))) ⟨same_new hM4, upd_same⟩ (fun _ _ _ _ => trivial) ?_ ?_
      · rintro i y H7 H8 hi ⟨s7, zM⟩ ⟨rfl, rfl⟩
        refine ⟨rfl, _, rfl, _, _, rfl, rfl, sz_le (n := 2) (by decide), ?_⟩
        rw [eq, SX.S_cat]
        refine ⟨_, zM, ?_, push_same0 hM4 s7, ?_⟩
        · unfold txs
          rw [List.length_map, List.length_map, List.length_take]
          exact sz_lt (by omega)
        · rw [upd_same, List.take_add_one, List.getElem?_eq_getElem hi, List.getD_eq_getElem?_getD, List.getElem?_eq_getElem hi]
          show some (HO.lst (txs ((sg.take i).map fun c => [63, c]) ++ [V.str (S [63, sg[i]])])) = some (HO.lst (txs ((sg.take i ++ [sg[i]]).map fun c => [63, c])))
          rw [List.map_append]
          exact congrArg (fun z => some (HO.lst z)) (List.map_append (f := fun l : List Nat => V.str (S l)) (l₂ := [[63, sg[i]]])).symm
      rintro H7 ⟨s7, zM4⟩
      rw [List.take_length] at zM4
      have lsg2 : (txs (sg.map fun c => [63, c])).length = sg.length := by unfold txs; rw [List.length_map, List.length_map]
      refine ⟨L3, M4, _, _, rfl, rfl, s7 _ _ z3, zM4, by rw [List.length_append, lsg, lsg2]; exact sz_le (n := sg.length + 1 + sg.length) (by omega), fun L4 hL4 => ?_⟩
      have ev : txs (sg.map fun c => [c]) ++ [V.str "?-"] ++ txs (sg.map fun c => [63, c]) = txs (everyI sg) := by
        unfold everyI txs
        rw [List.map_append, List.map_append, e2]
        rfl
      rw [ev]
      have t4 := same_new (o := HO.lst (txs (everyI sg))) hL4
      have z4 : upd H7 L4 (.lst (txs (everyI sg))) L4 = some (.lst (txs (everyI sg))) := upd_same
      have s9 := s36.trans (s7.trans t4)
      generalize upd H7 L4 (.lst (txs (everyI sg))) = H9 at z4 s9 ⊢
      have hp := Same.tup s9 hp
      refine ⟨_, rfl, p, rfl, ⟨_, hp⟩, fun M5 hM5 => ?_⟩
      refine lc_it (walk_tup (K := K) (a := p) (xs := xs)) (fun i H' => Same H9 H' ∧ ∃ ys, H' M5 = some (.lst ys) ∧ ys.length ≤ i ∧ ys.isEmpty = allN (fun k => itemD sg (es.getD k .none)) i) ⟨same_new hM5, [], upd_same, Nat.le_refl 0, rfl⟩ (fun _ _ _ pp => Same.tup pp.1 hp) ?_ ?_
      · rintro i x Ha Ha' hi ⟨sa, ys, zM, hyl, hye⟩ ⟨rfl, hx⟩
        rw [List.getElem?_eq_getElem hi] at hx
        cases hx
        have hg : Dg K Ha' xs[i] (es.getD i .none) := ((dgall_at ha hi).same s9).same sa
        have hs1 : strD (es.getD i .none) = true := hstr i (List.mem_range.mpr (by omega))
        rw [allN_succ]
        rcases dg_str hg with ⟨z, e1, e2⟩ | ⟨_, nx⟩
        · have e6 : itemD sg (es.getD i .none) = decide (z ∈ everyI sg) := by
            rw [e2, mem_every]
            rfl
          rw [e6, e1]
          refine ⟨rfl, _, rfl, _, rfl, L4, _, rfl, Or.inl (SqL.of (sa _ _ z4)), rfl, flat_txs _, _, rfl, ?_⟩
          rw [inV_txs]
          cases em : decide (z ∈ everyI sg) with
          | true =>
            refine ifF rfl ⟨sa, ys, zM, by omega, ?_⟩
            rw [Bool.and_true]
            exact hye
          | false =>
            refine ifT rfl ⟨_, rfl, ys, zM, sz_lt (by omega), push_same0 hM5 sa, ys ++ [V.str (S z)], upd_same, by rw [List.length_append]; exact Nat.succ_le_succ hyl, ?_⟩
            rw [Bool.and_false]
            cases ys <;> rfl
        · cases e5 : es.getD i .none with
          | str x => exact absurd e5 (nx x)
          | _ => rw [e5] at hs1; cases hs1
      rintro Ha ⟨sa, ys, zM, hyl, hye⟩
      rw [hl] at hye
      refine ⟨sz_le (n := 0) (by decide), fun E1 hE1 _ => ?_⟩
      have s3 := same_new (o := HO.lst []) hE1
      refine ⟨M5, E1, ys, rfl, rfl, SqL.of (s3 _ _ zM), SqL.of upd_same, ?_⟩
      rw [hye]
      exact q _ (s9.trans (sa.trans s3))
theorem ok_lshelf {f fW : Addr} {fd fdW : FuncData} (F : Fun K "_law_is_shelf" "_law_is_shelf" s__law_is_shelf f fd) (B : Blt mg)
    (FW : Fun K "_law_is_weft" "_law_is_weft" s__law_is_weft fW fdW) (gW : mg "_law_is_weft" = some (.ref fW)) (bW : Binds K fdW ["_law_letters", "_law_it"] []) : FnOk P w K mg base CX0 2 f fd ["_law_letters", "_law_it"] (spLShelf K) := by
  have GW : FnOk P w K mg base CX0 1 fW fdW ["_law_letters", "_law_it"] (spLWeft K) := ok_lweft FW B
  refine F.ok sc__law_is_shelf (fun vs H Q E h => ?_) (fun cdv A outer s H vs Q E hr h => ?_)
  · obtain ⟨_, _, _, rfl, _⟩ := h
    rfl
  · obtain ⟨sg, v, d, rfl, hsg, hd, hw, q⟩ := h
    have hu0 : (A.deeper (envOfC "_law_is_shelf" (defScope s__law_is_shelf) s.heap.objs.size f cdv)).units < cLine := by
      have := hr.units
      omega
    refine ⟨_, (pss_one (ps_ret (pe_and (pe_callB call_isi (by rfl) B.isi (by decide +kernel) (pa_cons (pv 1) (pa_cons (pe_bltn (v := .ty "tuple") (by rfl) B.tuple (by decide +kernel) rfl) pa_nil))) (pe_and (pe_cmpR (op_neTup0 hu0) (pv 1) (pe_tup pa_nil) (nomark _)) (pe_one (pe_cmpR (op_eqNil hu0) (pe_lc (own := [("_law_weft_here", 2)]) (g := gName 2) rfl sc__law_is_shelf.nd (pi_tup (pv 1)) (blkOk_by (own := [("_law_weft_here", 2)]) (N := ["_law_letters", "_law_it", "_law_weft_here"]) (sc := defScope s__law_is_shelf) (by decide +kernel)) (fun _ _ _ _ _ => pg_name (i := 2) sc__law_is_shelf.nd rfl (Or.inl rfl)) (fun _ _ _ _ _ => pts_one (pt_not (pt_val (pe_call GW (hr.mono (by decide)) (by rfl) gW FW.kp bW .nil pass0 (pa_cons (pv 0) (pa_cons (pv 2) pa_nil)))))) (fun _ _ _ _ _ => (pv 2))) (Mq.pe_ls pa_nil) (nomark _))))))), ?_⟩
    rcases dg_tup hd with ⟨p, xs, es, rfl, rfl, hp, ha⟩ | ⟨⟨a, t, m', n'⟩, nx⟩
    rotate_left
    · rw [shelfD_no nx] at q
      exact ⟨_, rfl, _, .ty "tuple", _, _, false, rfl, .ty _, t, kit_noT m' n', false, rfl, iteF (q H (Same.refl H))⟩
    have hl := ha.len
    have q : ∀ H', Same H H' → Q (.bl (!es.isEmpty && allI (weftD sg) es)) H' := q
    rw [allI_N] at q
    have hwd : PyData.weightAll es ≤ 100000 := hw
    have hle : es.length ≤ 100000 := Nat.le_trans (weight_len es) hwd
    refine ⟨_, rfl, _, .ty "tuple", _, _, true, rfl, .ty _, ty_tup hp, kit_ty (by decide +kernel), true, rfl, iteT ?_⟩
    refine ⟨_, rfl, sz_le (n := 0) (by decide), fun z hz => ?_⟩
    have s0 := same_new (o := HO.tup []) hz
    have z0 : SqT K (upd H z (.tup [])) z [] := Or.inl (Or.inl upd_same)
    refine ⟨p, z, xs, rfl, rfl, Same.tup s0 hp, z0, ?_⟩
    have hemp : xs.isEmpty = es.isEmpty := by
      cases xs <;> cases es <;> first | rfl | cases hl
    rw [hemp]
    cases hem : es.isEmpty with
    | true =>
      rw [hem] at q
      exact ⟨_, rfl, iteF (q _ s0)⟩
    | false =>
    rw [hem] at q
    refine ⟨_, rfl, iteT ?_⟩
    generalize upd H z (.tup []) = H1 at s0 ⊢
    have hp := Same.tup s0 hp
    refine ⟨_, rfl, p, rfl, ⟨_, hp⟩, fun M hM => ?_⟩
    refine lc_it (walk_tup (K := K) (a := p) (xs := xs)) (fun i H' => Same H1 H' ∧ ∃ ys, H' M = some (.lst ys) ∧ ys.length ≤ i ∧ ys.isEmpty = allN (fun k => weftD sg (es.getD k .none)) i) ⟨same_new hM, [], upd_same, Nat.le_refl 0, rfl⟩ (fun _ _ _ pp => Same.tup pp.1 hp) ?_ ?_
    · rintro i x H2 H2' hi ⟨s2, ys, zM, hyl, hye⟩ ⟨rfl, hx⟩
      rw [List.getElem?_eq_getElem hi] at hx
      cases hx
      have hg : Dg K H2' xs[i] (es.getD i .none) := ((dgall_at ha hi).same s0).same s2
      have wi2 : (es.getD i .none).weight ≤ 100000 := by
        rw [List.getD_eq_getElem?_getD, List.getElem?_eq_getElem (by omega : i < es.length)]
        exact Nat.le_trans (weight_mem (List.getElem_mem _)) hwd
      rw [allN_succ]
      refine ⟨rfl, _, rfl, _, rfl, sg, _, _, rfl, hsg, hg, wi2, fun H3 s3 => ⟨_, rfl, ?_⟩⟩
      have zM := s3 _ _ zM
      cases ew : weftD sg (es.getD i .none) with
      | true =>
        refine ifF rfl ⟨s2.trans s3, ys, zM, by omega, ?_⟩
        rw [Bool.and_true]
        exact hye
      | false =>
        refine ifT rfl ⟨_, rfl, ys, zM, sz_lt (by omega), push_same0 hM (s2.trans s3), ys ++ [xs[i]], upd_same, by rw [List.length_append]; exact Nat.succ_le_succ hyl, ?_⟩
        rw [Bool.and_false]
        cases ys <;> rfl
    rintro H2 ⟨s2, ys, zM, hyl, hye⟩
    rw [hl] at hye
    refine ⟨sz_le (n := 0) (by decide), fun E0 hE0 _ => ?_⟩
    have s3 := same_new (o := HO.lst []) hE0
    refine ⟨M, E0, ys, rfl, rfl, SqL.of (s3 _ _ zM), SqL.of upd_same, ?_⟩
    rw [hye]
    exact q _ (s0.trans (s2.trans s3))
end
end Lw

namespace Lw
open PySem PySem.Spec PyProof.Rows L2 Mq
open SX (S)
/-! ### the law's own look for a wrong place -/
theorem first_head (p : Nat → Bool) (n : Nat) : firstN p n = ((List.range n).filter p).head? := by
  unfold firstN
  rw [List.head?_filter]
def spFault (K : PySem.W.Frag) : Sp := fun vs H Q _ => ∃ (b : Addr) (ss : List V) (v : V) (d : PyData), vs = [.ref b, v] ∧ SqT K H b ss ∧ Dg K H v d ∧ d.weight ≤ 100000 ∧ ∀ H', Same H H' → Q (wrongM ss.length d) H'
section
variable {P : Program} {w : World} {K : PySem.W.Frag} {mg : Str → Option Value} {base : Heap}
theorem ok_fault {f : Addr} {fd : FuncData} (F : Fun K "_law_fault" "_law_fault" s__law_fault f fd) (B : Blt mg) : FnOk P w K mg base CX0 1 f fd ["_law_shelf_here", "_law_it"] (spFault K) := by
  refine F.ok sc__law_fault (fun vs H Q E h => ?_) (fun cdv A outer s H vs Q E hr h => ?_)
  · obtain ⟨_, _, _, _, rfl, _⟩ := h
    rfl
  · obtain ⟨b, ss, v, d, rfl, hb, hd, hw, q⟩ := h
    have hu0 : (A.deeper (envOfC "_law_fault" (defScope s__law_fault) s.heap.objs.size f cdv)).units < cLine := by
      have := hr.units
      omega
    refine ⟨_, (pss_cons (ps_if (pt_not (pt_val (pe_callB call_isi (by rfl) B.isi (by decide +kernel) (pa_cons (pv 1) (pa_cons (pe_bltn (v := .ty "tuple") (by rfl) B.tuple (by decide +kernel) rfl) pa_nil))))) (pss_one (ps_ret (pe_un un_neg pe_int))) pss_nil)
    (pss_cons (ps_setLc (i := 2) (own := [("_law_k", 3), ("_law_x", 4)]) (g := gTup K 2 (gCons (gName 3) (gCons (gName 4) gNil))) rfl sc__law_fault.nd rfl rfl (sw_true rfl rfl rfl (by decide +kernel)) (pi_enumT (by rfl) B.enumerate (pa_cons (pv 1) pa_nil)) (blkOk_by (own := [("_law_k", 3), ("_law_x", 4)]) (N := ["_law_shelf_here", "_law_it", "_law_bad", "_law_k", "_law_x"]) (sc := defScope s__law_fault) (by decide +kernel)) (fun _ _ _ _ _ => pg_tup rfl (pgs_cons (pg_name (i := 3) sc__law_fault.nd rfl (Or.inl rfl)) (pgs_cons (pg_name (i := 4) sc__law_fault.nd rfl (Or.inl rfl)) pgs_nil))) (fun _ _ _ _ _ => pts_one (PW.pt (pw_or (pt_not (pt_val (pe_callB (call_isiKK (K := K) rfl) (by rfl) B.isi (by decide +kernel) (pa_cons (pv 4) (pa_cons (pe_bltn (v := .ty "int") (by rfl) B.int (by decide +kernel) rfl) pa_nil))))) (pw_or (pt_val (pe_callB (call_isiKK (K := K) rfl) (by rfl) B.isi (by decide +kernel) (pa_cons (pv 4) (pa_cons (pe_bltn (v := .ty "bool") (by rfl) B.bool (by decide +kernel) rfl) pa_nil)))) (pw_or1 (pt_not (pt_chain op_le op_lt pe_int (pv 4) (pe_callB (call_lenKK (K := K) rfl) (by rfl) B.len (by decide +kernel) (pa_cons (pv 0) pa_nil))))))))) (fun _ _ _ _ _ => (pv 3)))
    (pss_one (ps_ret (pe_ifExp (pt_cmpR (op_neNil hu0) (pv 2) (Mq.pe_ls pa_nil) (nomark _)) (pe_ix ix_list (pv 2) pe_int (fun _ _ => rfl)) pe_non))))), ?_⟩
    rcases dg_tup hd with ⟨a, xs, ds, rfl, rfl, hz, ha⟩ | ⟨⟨a, t, m', n'⟩, nx⟩
    rotate_left
    · have ed : wrongM ss.length d = .int (-1) := by
        cases d with
        | tuple ds => exact absurd rfl (nx ds)
        | _ => rfl
      rw [ed] at q
      exact ⟨_, rfl, _, .ty "tuple", _, _, false, rfl, .ty _, t, kit_noT m' n', false, rfl, ifT rfl ⟨_, rfl, q H (Same.refl H)⟩⟩
    have hl := ha.len
    have hle : ds.length ≤ 100000 := Nat.le_trans (weight_len ds) hw
    refine ⟨_, rfl, _, .ty "tuple", _, _, true, rfl, .ty _, ty_tup hz, kit_ty (by decide +kernel), true, rfl, ifF rfl ?_⟩
    refine ⟨_, rfl, a, xs, rfl, hz, fun M hM => ?_⟩
    refine lc_it (walk_enumT (K := K) (a := a) (xs := xs)) (fun i H' => Same H H' ∧ H' M = some (.lst (intsV ((List.range i).filter (badAt ss.length ds))))) ⟨same_new hM, upd_same⟩ (fun _ _ _ pp => Same.tup pp.1 hz) ?_ ?_
    · rintro i x H2 H3 hi ⟨s2, zM⟩ ⟨T, y1, y2, rfl, hT, rfl, hy1, hy2⟩
      cases hy1
      have hy2 : xs[i]? = some y2 := hy2
      rw [List.getElem?_eq_getElem hi] at hy2
      cases hy2
      have st := same_new (o := HO.tup [V.int (i : Nat), xs[i]]) hT
      have zM := st _ _ zM
      have s3 := s2.trans st
      have hg : Dg K (upd H2 T (.tup [V.int (i : Nat), xs[i]])) xs[i] (ds.getD i .none) := (dgall_at ha hi).same s3
      refine ⟨T, _, rfl, Or.inl (Or.inl upd_same), rfl, _, _, rfl, _, _, rfl, rfl, rfl, ?_⟩
      generalize upd H2 T (.tup [V.int (i : Nat), xs[i]]) = H4 at s3 zM hg ⊢
      have ef : (List.range (i + 1)).filter (badAt ss.length ds) = (List.range i).filter (badAt ss.length ds) ++ (if badAt ss.length ds i = true then [i] else []) := by
        rw [List.range_succ, List.filter_append, List.filter_cons, List.filter_nil]
      rw [ef]
      have fin : ∀ bb, bb = badAt ss.length ds i → if bb = true then tVar 3 [some (V.ref b), some (.ref a), none, some (.int (i : Nat)), some xs[i]] H4 (fun y H5 => ∃ acc, H5 M = some (.lst acc) ∧ acc.length < sizeLine ∧ Same H (upd H5 M (.lst (acc ++ [y]))) ∧ upd H5 M (.lst (acc ++ [y])) M = some (.lst (intsV ((List.range i).filter (badAt ss.length ds) ++ (if badAt ss.length ds i = true then [i] else []))))) else Same H H4 ∧ H4 M = some (.lst (intsV ((List.range i).filter (badAt ss.length ds) ++ (if badAt ss.length ds i = true then [i] else [])))) := by
        rintro bb rfl
        cases e : badAt ss.length ds i with
        | true =>
          refine ifT rfl ⟨_, rfl, _, zM, ?_, push_same0 hM s3, ?_⟩
          · rw [List.length_map]
            have := List.length_filter_le (badAt ss.length ds) (List.range i)
            rw [List.length_range] at this
            exact sz_lt (by omega)
          · rw [upd_same]
            exact congrArg (fun z => some (HO.lst z)) (List.map_append (f := fun n : Nat => V.int ((n : Nat) : Int)) (l₂ := [i])).symm
        | false =>
          refine ifF rfl ⟨s3, ?_⟩
          rw [zM]
          show _ = some (HO.lst (intsV (_ ++ [])))
          rw [List.append_nil]
      rcases dg_int hg with ⟨z, e1, e2⟩ | ⟨bb, e1, e2⟩ | ⟨⟨ty, t, kt⟩, e2⟩
      · have eb : badAt ss.length ds i = !(decide (0 ≤ z) && decide (z < ((ss.length : Nat) : Int))) := by
          unfold badAt
          rw [e2]
          rfl
        have t1 : TyX K H4 xs[i] (.type "int") := by rw [e1]; exact .base (.int _)
        refine ⟨_, rfl, _, .ty "int", _, _, true, rfl, .ty _, t1, kit_ty (by decide +kernel), true, rfl, iteF ⟨_, rfl, _, .ty "bool", _, _, false, rfl, .ty _, t1, kit_ty (by decide +kernel), false, rfl, iteF ⟨_, rfl, 0, z, rfl, e1, _, rfl, ?_⟩⟩⟩
        cases e0 : decide (0 ≤ z) with
        | false =>
          rw [e0] at eb
          exact iteF ⟨_, rfl, fin _ eb.symm⟩
        | true =>
          rw [e0] at eb
          exact iteT ⟨_, rfl, _, _, rfl, len_tup (Same.tup s3 hb), z, _, e1, rfl, _, rfl, fin _ eb.symm⟩
      · have eb : badAt ss.length ds i = true := by
          unfold badAt
          rw [e2]
          rfl
        have t1 : TyX K H4 xs[i] (.type "bool") := by rw [e1]; exact .base (.bl _)
        refine ⟨_, rfl, _, .ty "int", _, _, true, rfl, .ty _, t1, kit_ty (by decide +kernel), true, rfl, iteF ⟨_, rfl, _, .ty "bool", _, _, true, rfl, .ty _, t1, kit_ty (by decide +kernel), true, rfl, iteT (fin _ eb.symm)⟩⟩
      · have eb : badAt ss.length ds i = true := by
          unfold badAt
          rw [e2]
          rfl
        exact ⟨_, rfl, _, .ty "int", _, _, false, rfl, .ty _, t, kt, false, rfl, iteT (fin _ eb.symm)⟩
    · rintro H2 ⟨s2, zM⟩
      rw [hl] at zM
      refine ⟨_, rfl, sz_le (n := 0) (by decide), fun E0 hE0 _ => ?_⟩
      have s3 := same_new (o := HO.lst []) hE0
      have zM := s3 _ _ zM
      refine ⟨M, E0, _, rfl, rfl, SqL.of zM, SqL.of upd_same, _, rfl, ?_⟩
      have q : ∀ H', Same H H' → Q (optI (firstN (badAt ss.length ds) ds.length)) H' := q
      rw [first_head] at q
      cases e : (List.range ds.length).filter (badAt ss.length ds) with
      | nil =>
        rw [e] at q
        exact ifF rfl (q _ (s2.trans s3))
      | cons k ks =>
        rw [e] at q zM
        exact ifT rfl ⟨_, rfl, M, _, 0, _, rfl, rfl, SqL.of zM, atI_nat (j := 0) rfl, q _ (s2.trans s3)⟩
end
end Lw

namespace Mq
open PySem PySem.Spec PyProof.Rows L2
/-! ### list(d), d's keys being pairs of texts -/
def rListDT : List V → Hp → VK → Prop := fun xs H Q => ∃ (a : Addr) (kvs : List (List Key × V)) (ks : List (Str × Str)), xs = [.ref a] ∧ Rd H a (.dT kvs) ∧ kvs.map (·.1) = ks.map (fun x => [Sum.inr x.1, Sum.inr x.2]) ∧
  ∀ (as : List Addr) (p : Addr), as.map (prOf H) = ks → (∀ b ∈ as, Is2 H b) → H p = none → Q (.ref p) (upd H p (.lst (as.map V.ref)))
theorem call_listDT {X : Cx} (hcalm : X.calm = true) : CallR X (.type "list") rListDT := by
  intro pins s σ H xs us Q I r q
  obtain ⟨a, kvs, ks, rfl, hd, hks, q⟩ := q
  obtain ⟨u, rfl, rx⟩ := vals1 r
  cases rx
  obtain ⟨z, lo, vs, rel, o, es, ep, ho, hx, hdat, hes, nd⟩ := (show ObjOk X.prog X.w H s.heap a (.dT kvs) from rd_of I.hok hd)
  obtain ⟨k1, k2⟩ := keys_rel rel hks
  have hlen : es.size = vs.length := by
    rw [← Array.length_toList, hes, List.length_map]
  have hz : kvs.length = vs.length := Paired.length rel
  refine PySem.W.kdl_call (src_keys lo hx hdat) (I.ok.hd hcalm) ho (by omega) fun h' tk acc c' hk hD hacc => ?_
  have hacc' : acc.toList = (vs.map fun q => q.2.1).map Value.ref := by
    refine List.ext_getElem? fun j => ?_
    rw [List.map_map, List.getElem?_map]
    have e1 : acc.toList[j]? = acc[j]? := Array.getElem?_toList
    rw [e1]
    cases h1 : acc[j]? with
    | none =>
      have h2 : acc.size ≤ j := Array.getElem?_eq_none_iff.mp h1
      rw [hacc.1, hlen] at h2
      rw [List.getElem?_eq_none h2]
      rfl
    | some v =>
      obtain ⟨en, h2, rfl⟩ := hacc.2 j v h1
      have h3 : es.toList[j]? = some en := by rw [Array.getElem?_toList]; exact h2
      rw [hes, List.getElem?_map] at h3
      cases h4 : vs[j]? with
      | none => rw [h4] at h3; cases h3
      | some y =>
        rw [h4] at h3
        cases h3
        rfl
  generalize vs.map (fun q => q.2.1) = as at k1 k2 hacc'
  have hal : as.length ≤ sizeLine := by
    have e : acc.toList.length = as.length := by rw [hacc', List.length_map]
    rw [Array.length_toList, hacc.1] at e
    omega
  refine ⟨.ref s.heap.objs.size, upd H s.heap.objs.size (.lst (as.map V.ref)), I.laid (t' := tk) hk (Nat.le_refl _) ⟨by rw [List.length_map]; exact hal, acc.toList, c', ?_, by rw [Array.toArray_toList]; exact hD⟩, rfl, q as _ k1 k2 (I.hok.fresh (Nat.le_refl _))⟩
  rw [hacc']
  clear hacc' hal k1 k2
  induction as with
  | nil => exact .nil
  | cons b bs ih => exact .cons rfl ih
end Mq

namespace Mq
open PySem PySem.Spec PyProof.Rows L2
/-! ### a value that is only read from here on -/
def tFrz (te : TE) : TE := fun σ H Q => te σ H fun x H1 => ∃ d u, x = .ref d ∧ H1 d = some u ∧ Mut (some u) ∧ ∀ od, Q (.ref d) (upd H1 d (.frz od u))
theorem pe_frz {X : Cx} {e : Expr} {te : TE} (h : PE X e te) : PE X e (tFrz te) := by
  refine ⟨fun pins s σ H Q I hw => ?_⟩
  refine thn (h.run pins s σ H _ I hw) fun v s1 ⟨x, H1, I1, r, d, u, ex, hd, mu, q⟩ => ?_
  subst ex
  obtain ⟨od, I2⟩ := I1.lock hd mu
  exact ⟨.ref d, _, I2, r, q od⟩
end Mq

namespace Lw
open PySem PySem.Spec PyProof.Rows L2 Mq
open SX (S)
/-! ### folds in order -/
theorem ltSS_irr (x : Str × Str) : ltSS x x = false := (PyProof.Rows.listOrd PyProof.Rows.itemOrd).irrefl (txt2 x)
theorem ltSS_trans {x y z : Str × Str} (h1 : ltSS x y = true) (h2 : ltSS y z = true) : ltSS x z = true := (PyProof.Rows.listOrd PyProof.Rows.itemOrd).trans (txt2 x) (txt2 y) (txt2 z) h1 h2
def AscP (fs : List Fd) : Prop := fs.Pairwise fun a b => ltSS (keyF a) (keyF b) = true
theorem asc_uniq : ∀ {l m : List Fd}, AscP l → AscP m → l.Perm m → l = m
  | [], m, _, _, h => h.nil_eq
  | a :: l, [], _, _, h => h.eq_nil
  | a :: l, b :: m, hl, hm, h => by
    obtain ⟨h1, h2⟩ := List.pairwise_cons.mp hl
    obtain ⟨h3, h4⟩ := List.pairwise_cons.mp hm
    have e : a = b := by
      rcases List.mem_cons.mp (h.mem_iff.mp (List.mem_cons_self (a := a) (l := l))) with e | e
      · exact e
      · rcases List.mem_cons.mp (h.mem_iff.mpr (List.mem_cons_self (a := b) (l := m))) with e2 | e2
        · exact e2.symm
        · have := ltSS_trans (h1 b e2) (h3 a e)
          rw [ltSS_irr] at this
          cases this
    subst e
    rw [asc_uniq h2 h4 h.cons_inv]
theorem key_apart {f g : Fd} (h : keyN f ≠ keyN g) : keyF f ≠ keyF g := fun e => h (by
  have e' : (S [f.x], S [f.y]) = (S [g.x], S [g.y]) := e
  injection e' with a b
  exact Prod.ext (S_one.mp a) (S_one.mp b))
theorem perm_lift {α β : Type} {f : α → β} {l m : List β} (h : l.Perm m) : ∀ {gs : List α}, m = gs.map f → ∃ fs : List α, l = fs.map f ∧ fs.Perm gs := by
  induction h with
  | nil =>
    intro gs e
    cases gs with
    | nil => exact ⟨[], rfl, .nil⟩
    | cons g gs => cases e
  | cons x _ ih =>
    intro gs e
    cases gs with
    | nil => cases e
    | cons g gs =>
      injection e with e1 e2
      obtain ⟨fs, a, b⟩ := ih e2
      exact ⟨g :: fs, by rw [a, e1]; rfl, b.cons g⟩
  | swap x y l =>
    intro gs e
    match gs, e with
    | [], e => cases e
    | [g], e => cases e
    | g1 :: g2 :: gs, e =>
      injection e with e1 e2
      injection e2 with e2 e3
      exact ⟨g2 :: g1 :: gs, by rw [e1, e2, e3]; rfl, .swap g1 g2 gs⟩
  | trans _ _ ih1 ih2 =>
    intro gs e
    obtain ⟨fs, a, b⟩ := ih2 e
    obtain ⟨fs', a', b'⟩ := ih1 a
    exact ⟨fs', a', b'.trans b⟩
theorem Apart.perm {fs gs : List Fd} (h : Apart gs) (p : fs.Perm gs) : Apart fs := (p.pairwise_iff fun h e => h e.symm).mpr h
theorem sorted_fds {H : Hp} {gs : List Fd} {as qs : List Addr} (hg : Apart gs) (h1 : as.map (prOf H) = gs.map keyF) (h3 : qs.Perm as)
    (h4 : ∀ i j, i ≤ j → j < qs.length → ltSS (prOf H (qs.getD j 0)) (prOf H (qs.getD i 0)) = false) : ∃ fs : List Fd, fs.Perm gs ∧ AscP fs ∧ qs.map (prOf H) = fs.map keyF := by
  have h5 : (qs.map (prOf H)).Perm (gs.map keyF) := by
    rw [← h1]
    exact h3.map _
  obtain ⟨fs, e, p⟩ := perm_lift h5 rfl
  have ap := List.pairwise_iff_getElem.mp (hg.perm p)
  have hl : qs.length = fs.length := by
    have := congrArg List.length e
    rwa [List.length_map, List.length_map] at this
  have at' : ∀ i (h : i < fs.length), prOf H (qs.getD i 0) = keyF fs[i] := by
    intro i h
    have e1 : (qs.map (prOf H))[i]? = (fs.map keyF)[i]? := by rw [e]
    rw [List.getElem?_map, List.getElem?_map, List.getElem?_eq_getElem h, List.getElem?_eq_getElem (by omega)] at e1
    rw [List.getD_eq_getElem?_getD, List.getElem?_eq_getElem (by omega)]
    exact Option.some.inj e1
  refine ⟨fs, p, List.pairwise_iff_getElem.mpr fun i j hi hj hij => ?_, e⟩
  have h := h4 i j (by omega) (by omega)
  rw [at' i hi, at' j hj] at h
  exact lt_of h (fun z => key_apart (ap i j hi hj hij) z.symm)
theorem fs_ok {sg : List Nat} {fs gs : List Fd} (h : GsOk sg gs) (p : fs.Perm gs) (a : AscP fs) : FsOk sg fs := by
  refine ⟨by rw [p.length_eq]; exact h.few, fun f hf => h.ok f (p.mem_iff.mp hf), fun i j hij hj f g hf hg => ?_⟩
  have := List.pairwise_iff_getElem.mp a i j (by omega) hj hij
  rw [List.getElem?_eq_getElem hj] at hg
  rw [List.getElem?_eq_getElem (by omega)] at hf
  cases hf
  cases hg
  exact this
theorem tab_at : ∀ {gs : List Fd}, Apart gs → ∀ {f : Fd}, f ∈ gs → valV (tabF gs) [Sum.inr (S [f.x]), Sum.inr (S [f.y])] = some (.str (S f.z))
  | [], _, f, hf => by cases hf
  | g :: gs, h, f, hf => by
    obtain ⟨h1, h2⟩ := List.pairwise_cons.mp h
    unfold valV tabF
    rw [List.map_cons]
    by_cases e : keyN g = keyN f
    · have e2 : g = f := by
        rcases List.mem_cons.mp hf with r | r
        · exact r.symm
        · exact absurd e (h1 f r)
      subst e2
      simp [List.find?_cons]
    · have e3 : f ∈ gs := by
        rcases List.mem_cons.mp hf with r | r
        · rw [r] at e
          exact absurd rfl e
        · exact r
      rw [List.find?_cons_of_neg]
      · exact tab_at h2 e3
      · intro z
        have z' := of_decide_eq_true z
        injection z' with z1 z2
        injection z2 with z2 _
        exact e (Prod.ext (S_one.mp (Sum.inr.inj z1)) (S_one.mp (Sum.inr.inj z2)))
theorem find_mem : ∀ {gs : List Fd}, Apart gs → ∀ {f : Fd}, f ∈ gs → leftM gs f.x f.y = .some f.z
  | [], _, f, hf => by cases hf
  | g :: gs, h, f, hf => by
    obtain ⟨h1, h2⟩ := List.pairwise_cons.mp h
    unfold leftM
    by_cases e : keyN g = keyN f
    · have e2 : g = f := by
        rcases List.mem_cons.mp hf with r | r
        · exact r.symm
        · exact absurd e (h1 f r)
      subst e2
      rw [List.find?_cons_of_pos (by rw [decide_eq_true rfl, decide_eq_true rfl]; rfl)]
      rfl
    · have e3 : f ∈ gs := by
        rcases List.mem_cons.mp hf with r | r
        · rw [r] at e
          exact absurd rfl e
        · exact r
      rw [List.find?_cons_of_neg]
      · exact find_mem h2 e3
      · intro z
        obtain ⟨z1, z2⟩ := Bool.and_eq_true_iff.mp z
        exact e (Prod.ext (of_decide_eq_true z1) (of_decide_eq_true z2))
theorem left_some {gs : List Fd} {x y : Nat} {z : List Nat} (h : leftM gs x y = .some z) : ∃ f ∈ gs, f.x = x ∧ f.y = y ∧ f.z = z := by
  unfold leftM at h
  cases hf : gs.find? fun f => decide (f.x = x) && decide (f.y = y) with
  | none => rw [hf] at h; cases h
  | some f =>
    rw [hf] at h
    cases h
    have h2 := List.find?_some hf
    obtain ⟨z1, z2⟩ := Bool.and_eq_true_iff.mp h2
    exact ⟨f, List.mem_of_find?_eq_some hf, of_decide_eq_true z1, of_decide_eq_true z2, rfl⟩
theorem left_eq {fs gs : List Fd} (h : Apart gs) (p : fs.Perm gs) (x y : Nat) : leftM fs x y = leftM gs x y := by
  cases e : leftM fs x y with
  | some z =>
    obtain ⟨f, hf, rfl, rfl, rfl⟩ := left_some e
    exact (find_mem h (p.mem_iff.mp hf)).symm
  | none =>
    cases e2 : leftM gs x y with
    | none => rfl
    | some z =>
      obtain ⟨f, hf, rfl, rfl, rfl⟩ := left_some e2
      rw [find_mem (h.perm p) (p.mem_iff.mpr hf)] at e
      cases e
theorem laid_eq {fs gs : List Fd} (h : Apart gs) (p : fs.Perm gs) : laidM fs = laidM gs := by
  funext w y
  unfold laidM
  simp only [left_eq h p]
theorem led_eq {fs gs : List Fd} (h : Apart gs) (p : fs.Perm gs) : ∀ (ws : List (List Nat)) (l : List Nat), ledM fs l ws = ledM gs l ws
  | [], _ => rfl
  | it :: r, l => by
    show (if it.head? = some 63 then (if lookM l it = true then ledM fs l r else none) else ledM fs (laidM fs l (it.headD 0)) r) = (if it.head? = some 63 then (if lookM l it = true then ledM gs l r else none) else ledM gs (laidM gs l (it.headD 0)) r)
    rw [led_eq h p r l, laid_eq h p, led_eq h p r]
theorem make_same {H H' : Hp} {x dx CR : Addr} (hx : H x = none) (hdx : H dx = none) (hne : dx ≠ x) (k : ∀ b o, upd (upd H dx (.own x)) x (.ins CR dx []) b = some o → b ≠ x → H' b = some o) : Same H H' := by
  intro b o e
  have e1 : b ≠ x := ne_of_none e hx
  have e2 : b ≠ dx := ne_of_none e hdx
  exact k b o ((upd_ne e1).trans ((upd_ne e2).trans e)) e1
theorem FdAll.snoc {K : PySem.W.Frag} {H : Hp} : ∀ {vs : List V} {fs : List Fd} {v : V} {f : Fd}, FdAll K H vs fs → FdAt K H v f → FdAll K H (vs ++ [v]) (fs ++ [f])
  | _, _, _, _, .nil, h => .cons h .nil
  | _, _, _, _, .cons a b, h => .cons a (FdAll.snoc b h)
def spCode (K : PySem.W.Frag) (C : Addr) : Sp := fun vs H Q _ => ∃ (wd ld : Addr) (sg : List Nat) (gs : List Fd), vs = [.ref wd] ∧ WAt H wd ld sg gs ∧ GsOk sg gs ∧ SgOk sg ∧
  ∀ H' r fa ta fs xs, fs.Perm gs → AscP fs → FsOk sg fs → BkAt H' C r sg fs fa ta → SqT K H' fa xs → FdAll K H' xs fs → Same H H' → Q (.ref r) H'
section
variable {P : Program} {w : World} {K : PySem.W.Frag} {mg : Str → Option Value} {base : Heap} {C : Addr}
theorem ok_code {f fB : Addr} {fd fdB : FuncData} (F : Fun K "_law_code" "_law_code" s__law_code f fd) (B : Blt mg) (bS : mg "sorted" = none)
    (gC : mg "Book" = some (.ref C)) (M : Mk K C fB) (bB : Binds K fdB ["self", "letters", "folds"] []) (GB : FnOk P w K mg base CX0 3 fB fdB ["self", "letters", "folds"] (spBook K C)) :
    FnOk P w K mg base CX0 5 f fd ["_law_w"] (spCode K C) := by
  refine F.ok sc__law_code (fun vs H Q E h => ?_) (fun cdv A outer s H vs Q E hr h => ?_)
  · obtain ⟨_, _, _, _, rfl, _⟩ := h
    rfl
  · obtain ⟨wd, ld, sg, gs, rfl, hw, hgs, hs, q⟩ := h
    have hu1 : (A.deeper (envOfC "_law_code" (defScope s__law_code) s.heap.objs.size f cdv)).units + 1 < cLine := by
      have := hr.units
      omega
    refine ⟨_, pss_one (ps_ret (pe_make M GB (hr.mono (by decide)) (by rfl) gC bB .nil pass0 (pa_cons (pe_dget hu1 (pv 0) pe_str (fun _ _ => rfl)) (pa_cons (pe_callTy call_tuple_of (by rfl) B.tuple (by decide +kernel) (pa_cons (pe_lc (own := [("_law_x", 1), ("_law_y", 2)]) (g := gTup K 2 (gCons (gName 1) (gCons (gName 2) gNil))) (tt := tYes) rfl sc__law_code.nd (pi_list (pe_callB call_sorted2 (by rfl) bS (by decide +kernel) (pa_cons (pe_callTy (call_listDT rfl) (by rfl) B.list (by decide +kernel) (pa_cons (pe_dget hu1 (pv 0) pe_str (fun _ _ => rfl)) pa_nil)) pa_nil))) (blkOk_by (own := [("_law_x", 1), ("_law_y", 2)]) (N := ["_law_w", "_law_x", "_law_y"]) (sc := defScope s__law_code) (by decide +kernel)) (fun _ _ _ _ _ => pg_tup rfl (pgs_cons (pg_name (i := 1) sc__law_code.nd rfl (Or.inl rfl)) (pgs_cons (pg_name (i := 2) sc__law_code.nd rfl (Or.inl rfl)) pgs_nil))) (fun _ _ _ _ _ => pts_nil) (fun _ _ _ _ _ => (pe_tup (pa_cons (pv 1) (pa_cons (pv 2) (pa_cons (pe_dget hu1 (pe_dget hu1 (pv 0) pe_str (fun _ _ => rfl)) (pe_tup (pa_cons (pv 1) (pa_cons (pv 2) pa_nil))) (fun _ _ => rfl)) pa_nil)))))) pa_nil)) pa_nil)))), ?_⟩
    have ek : (tabF gs).map (·.1) = (gs.map keyF).map (fun x => [Sum.inr x.1, Sum.inr x.2]) := by
      unfold tabF
      rw [List.map_map, List.map_map]
      rfl
    refine ⟨_, rfl, wd, _, rfl, DGet.k (k := .inr "letters") hw.w, ?_⟩
    refine ⟨_, rfl, wd, _, rfl, DGet.k (k := .inr "folds") hw.w, ld, tabF gs, gs.map keyF, rfl, .inl hw.l, ek, fun as p0 h1 h2 hp0 => ?_⟩
    have s0 := same_new (o := HO.lst (as.map V.ref)) hp0
    have zp0 : upd H p0 (.lst (as.map V.ref)) p0 = some (.lst (as.map V.ref)) := upd_same
    have hpr : ∀ b ∈ as, prOf (upd H p0 (.lst (as.map V.ref))) b = prOf H b := fun b hb => by
      unfold prOf
      rw [upd_ne (ne_of_none (h2 b hb) hp0)]
    have h1 : as.map (prOf (upd H p0 (.lst (as.map V.ref)))) = gs.map keyF := by
      rw [← h1]
      exact List.map_congr_left hpr
    have h2 : ∀ b ∈ as, Is2 (upd H p0 (.lst (as.map V.ref))) b := fun b hb => by
      unfold Is2
      rw [hpr b hb]
      exact s0 _ _ (h2 b hb)
    clear hpr
    generalize upd H p0 (.lst (as.map V.ref)) = Hy at s0 zp0 h1 h2 ⊢
    have hw := hw.same s0
    have q := fun H' r fa ta fs xs a b c d e f (g : Same Hy H') => q H' r fa ta fs xs a b c d e f (s0.trans g)
    refine ⟨p0, as, rfl, SqL.of zp0, h2, fun qs p h3 h4 hp => ?_⟩
    obtain ⟨fs, fp, fa, fe⟩ := sorted_fds hgs.nd h1 h3 h4
    have hfs := fs_ok hgs fp fa
    have hql : qs.length = fs.length := by
      have := congrArg List.length fe
      rwa [List.length_map, List.length_map] at this
    have hat : ∀ (i : Nat) (b : Addr) (f : Fd), qs[i]? = some b → fs[i]? = some f → Hy b = some (.tup [.str (S [f.x]), .str (S [f.y])]) := by
      intro i b f e1 e2
      have e3 := h2 b (h3.mem_iff.mp (List.mem_of_getElem? e1))
      have e4 : (qs.map (prOf Hy))[i]? = (fs.map keyF)[i]? := by rw [fe]
      rw [List.getElem?_map, List.getElem?_map, e1, e2] at e4
      have e5 : prOf Hy b = keyF f := Option.some.inj e4
      unfold Is2 at e3
      rw [e5] at e3
      exact e3
    have s1 := same_new (o := HO.lst (qs.map V.ref)) hp
    have hp1 : upd Hy p (.lst (qs.map V.ref)) p = some (.lst (qs.map V.ref)) := upd_same
    generalize upd Hy p (.lst (qs.map V.ref)) = H1 at s1 hp1 ⊢
    refine ⟨p, rfl, ⟨_, SqL.of hp1⟩, fun L hL => ?_⟩
    refine lc_yes (walk_list (K := K) (a := p) (xs := qs.map V.ref)) (fun i H' => Same H1 H' ∧ ∃ xs, H' L = some (.lst xs) ∧ FdAll K H' xs (fs.take i)) ⟨same_new hL, [], upd_same, .nil⟩ (fun i H' _ q => SqL.of (q.1 _ _ hp1)) ?_ ?_
    · rintro i x H2 H3 hi ⟨s2, xs, hL2, hall⟩ ⟨rfl, hx⟩
      obtain ⟨b, hb, rfl⟩ : ∃ b, qs[i]? = some b ∧ x = .ref b := by
        rw [List.getElem?_map] at hx
        cases h : qs[i]? with
        | none => rw [h] at hx; cases hx
        | some b => rw [h] at hx; cases hx; exact ⟨b, rfl, rfl⟩
      have hif : i < fs.length := by
        rw [List.length_map] at hi
        omega
      have hf : fs[i]? = some fs[i] := List.getElem?_eq_getElem hif
      have hb2 := s2 _ _ (s1 _ _ (hat i b _ hb hf))
      have hmem : fs[i] ∈ gs := fp.mem_iff.mp (List.getElem_mem hif)
      generalize fs[i] = fo at hf hb2 hmem
      refine ⟨b, _, rfl, Or.inl (Or.inl hb2), rfl, _, _, rfl, _, _, rfl, rfl, rfl, ?_⟩
      have hw2 := (hw.same s1).same s2
      refine ⟨_, rfl, _, rfl, _, rfl, wd, _, rfl, DGet.k (k := .inr "folds") hw2.w, _, rfl, _, rfl, sz_le (n := 2) (by decide), fun p2 hp2 => ?_⟩
      have s3 := same_new (o := HO.tup [V.str (S [fo.x]), V.str (S [fo.y])]) hp2
      have g : DGet (upd H3 p2 (.tup [V.str (S [fo.x]), V.str (S [fo.y])])) ld (.ref p2) (some (.str (S fo.z))) := by
        rw [← tab_at hgs.nd hmem]
        exact DGet.t (k := [Sum.inr (S [fo.x]), Sum.inr (S [fo.y])]) (s3 _ _ hw2.l) upd_same
      refine ⟨ld, _, rfl, g, sz_le (n := 3) (by decide), fun p3 hp3 => ?_⟩
      have s4 := s3.trans (same_new (o := HO.tup [V.str (S [fo.x]), V.str (S [fo.y]), V.str (S fo.z)]) hp3)
      have h3' : upd (upd H3 p2 (.tup [V.str (S [fo.x]), V.str (S [fo.y])])) p3 (.tup [V.str (S [fo.x]), V.str (S [fo.y]), V.str (S fo.z)]) p3 = some (.tup (fdV fo)) := upd_same
      generalize upd (upd H3 p2 (.tup [V.str (S [fo.x]), V.str (S [fo.y])])) p3 (.tup [V.str (S [fo.x]), V.str (S [fo.y]), V.str (S fo.z)]) = H4 at s4 h3' ⊢
      have hL4 := s4 _ _ hL2
      have hlx : xs.length ≤ 200 := by
        rw [hall.len, List.length_take]
        have := hfs.few
        omega
      refine ⟨xs, hL4, sz_lt (by omega), ?_, xs ++ [.ref p3], upd_same, ?_⟩
      · intro b o e
        rw [upd_ne (ne_of_none e hL)]
        exact s4 b o (s2 b o e)
      · have e6 : fs.take (i + 1) = fs.take i ++ [fo] := by
          rw [List.take_add_one, hf]
          rfl
        rw [e6]
        have kp : KpT K H4 (upd H4 L (.lst (xs ++ [.ref p3]))) := KpT.lst hL4
        exact ((hall.kp (KpT.same s4)).kp kp).snoc ⟨p3, rfl, kp _ _ (Or.inl (Or.inl h3'))⟩
    · rintro H2 ⟨s2, xs, hL2, hall⟩
      rw [List.length_map, hql, List.take_length] at hall
      refine ⟨L, xs, rfl, Or.inl ⟨SqL.of hL2, fun fa' hfa => ?_⟩⟩
      have s3 := same_new (o := HO.tup xs) hfa
      have hf3 : SqT K (upd H2 fa' (.tup xs)) fa' xs := Or.inl (Or.inl upd_same)
      have hall3 := hall.kp (KpT.same s3)
      have s03 := (s1.trans s2).trans s3
      generalize upd H2 fa' (.tup xs) = H3 at hf3 hall3 s03 ⊢
      refine fun x dx hx hdx hne => ⟨x, dx, fa', sg, fs, xs, rfl, upd_same, ?_, ?_, hfs, hs, fun H4 ta hbk keep => ⟨rfl, ?_⟩⟩
      · exact Same.tup (same_new ((upd_ne (Ne.symm hne)).trans hx)) (Same.tup (same_new hdx) hf3)
      · exact (hall3.kp (KpT.same (same_new hdx))).kp (KpT.same (same_new ((upd_ne (Ne.symm hne)).trans hx)))
      · have s4 := make_same hx hdx hne keep
        exact q H4 x fa' ta fs xs fp fa hfs hbk (Same.tup s4 hf3) (hall3.kp (KpT.same s4)) (s03.trans s4)
end
end Lw

namespace Lw
open PySem PySem.Spec PyProof.Rows L2 Mq
open SX (S)
open PySem.W (EachIs)
/-! ### the law's own course -/
def crsO (gs : List Fd) (wss : List (List (List Nat))) : Option (List Nat) → List Nat → Option (List Nat)
  | none, _ => none
  | some l, ns => crsM gs wss l ns
theorem crsO_nil (gs : List Fd) (wss : List (List (List Nat))) (o : Option (List Nat)) : crsO gs wss o [] = o := by cases o <;> rfl
def stepO (gs : List Fd) (wss : List (List (List Nat))) (o : Option (List Nat)) (n : Nat) : Option (List Nat) := match o with
  | none => none
  | some l => ledM gs l (wss.getD n [])
theorem crsO_cons (gs : List Fd) (wss : List (List (List Nat))) (o : Option (List Nat)) (n : Nat) (r : List Nat) : crsO gs wss o (n :: r) = crsO gs wss (stepO gs wss o n) r := by
  cases o with
  | none => rfl
  | some l =>
    show (match ledM gs l (wss.getD n []) with | some l' => crsM gs wss l' r | none => none) = crsO gs wss (ledM gs l (wss.getD n [])) r
    cases ledM gs l (wss.getD n []) <;> rfl
def spLCrs (K : PySem.W.Frag) : Sp := fun vs H Q _ => ∃ (wd ld b p : Addr) (sg l ns : List Nat) (gs : List Fd) (wss : List (List (List Nat))), vs = [.ref wd, .ref b, .str (S l), .ref p] ∧ WAt H wd ld sg gs ∧ zOk gs ∧ ShAt K H b wss ∧ SqT K H p (intsV ns) ∧ (∀ n ∈ ns, n < wss.length) ∧ l.length ≤ 1000 ∧ ns.length ≤ 500 ∧
  ∀ H', Same H H' → Q (optZ (crsM gs wss l ns)) H'
theorem ShAt.get {K : PySem.W.Frag} {H : Hp} {b : Addr} {wss : List (List (List Nat))} (h : ShAt K H b wss) {n : Nat} (hn : n < wss.length) : ∃ ss q, SqT K H b ss ∧ atI ss ((n : Nat) : Int) = some (.ref q) ∧ SqT K H q (txs (wss.getD n [])) ∧ (∀ u ∈ wss.getD n [], ItK u) ∧ (wss.getD n []).length ≤ 10 := by
  obtain ⟨⟨ss, hss, hw⟩, hit⟩ := h
  have hsl := each_len hw
  have hnl2 : n < ss.length := by omega
  obtain ⟨ws, hws, q1, e1, hq1⟩ := each_at hw (List.getElem?_eq_getElem hnl2)
  have hgd : wss.getD n [] = ws := by rw [List.getD_eq_getElem?_getD, hws]; rfl
  have hi := hit ws (List.mem_of_getElem? hws)
  rw [hgd]
  exact ⟨ss, q1, hss, atI_nat (j := n) (by rw [List.getElem?_eq_getElem hnl2, e1]), hq1, hi.1, hi.2⟩
section
variable {P : Program} {w : World} {K : PySem.W.Frag} {mg : Str → Option Value} {base : Heap}
theorem ok_lcourse {f fL : Addr} {fd fdL : FuncData} (F : Fun K "_law_course" "_law_course" s__law_course f fd)
    (FL : Fun K "_law_led" "_law_led" s__law_led fL fdL) (gL : mg "_law_led" = some (.ref fL)) (bL : Binds K fdL ["_law_w", "_law_web", "_law_items"] []) (GL : FnOk P w K mg base CX0 2 fL fdL ["_law_w", "_law_web", "_law_items"] (spLawLed K)) :
    FnOk P w K mg base CX0 3 f fd ["_law_w", "_law_shelf_here", "_law_web", "_law_course_here"] (spLCrs K) := by
  refine F.ok sc__law_course (fun vs H Q E h => ?_) (fun cdv A outer s H vs Q E hr h => ?_)
  · obtain ⟨_, _, _, _, _, _, _, _, _, rfl, _⟩ := h
    rfl
  · obtain ⟨wd, ld, b, p, sg, l, ns, gs, wss, rfl, hw, hz, hsh, hp, hns, hl, hnl, q⟩ := h
    refine ⟨_, (pss_cons (ps_for PassesOwn.never rfl (pi_tup (pv 3)) (pg_name (i := 4) sc__law_course.nd rfl (Or.inl rfl))
      (pss_one (ps_set (i := 2) sc__law_course.nd rfl (Or.inl rfl) (pe_ifExp (pt_cmpR op_isN (pv 2) pe_non (nomark _)) pe_non (pe_call GL (hr.mono (by decide)) (by rfl) gL FL.kp bL .nil pass0 (pa_cons (pv 0) (pa_cons (pv 2) (pa_cons (pe_ix ix_tup (pv 1) (pv 4) (fun _ _ => rfl)) pa_nil))))))))
    (pss_one (ps_ret (pv 2)))), ?_⟩
    refine ⟨_, rfl, p, rfl, ⟨_, hp⟩, ?_⟩
    refine for_it (walk_tup (K := K) (a := p) (xs := intsV ns)) (fun i σ H' => Same H H' ∧ ∃ o o4, crsM gs wss l ns = crsO gs wss o (ns.drop i) ∧ (∀ l', o = some l' → l'.length ≤ l.length + 10 * i) ∧ σ = [some (.ref wd), some (.ref b), some (optZ o), some (.ref p), o4]) ⟨Same.refl _, some l, _, rfl, fun l' e => by cases e; exact Nat.le_refl _, rfl⟩ (fun i σ H' _ pp => Same.tup pp.1 hp) ?_ ?_
    · rintro i x σ H4 H5 hi ⟨s4, o, o4, ho, hll, rfl⟩ ⟨rfl, hx⟩
      rw [List.length_map] at hi
      rw [List.getElem?_map, List.getElem?_eq_getElem hi] at hx
      cases hx
      have hn := hns _ (List.getElem_mem hi)
      rw [List.drop_eq_getElem_cons hi, crsO_cons] at ho
      generalize ns[i] = n at ho hn ⊢
      cases o with
      | none => exact ⟨_, rfl, rfl, _, rfl, ifT rfl ⟨s4, none, _, ho, (fun l' e => nomatch e), rfl⟩⟩
      | some l' =>
        have hl' := hll l' rfl
        obtain ⟨ss, q1, hss, hat, hq1, hit, hwl⟩ := (hsh.kp (KpT.same s4)).get hn
        refine ⟨_, rfl, rfl, _, rfl, ifF rfl ⟨_, rfl, _, rfl, _, rfl, _, rfl, b, ss, _, _, rfl, rfl, hss, hat, wd, ld, q1, sg, l', gs, wss.getD n [], rfl, hw.same s4, hz, by omega, hq1, by omega, hit, fun H6 s6 => ?_⟩⟩
        refine ⟨s4.trans s6, ledM gs l' (wss.getD n []), some (V.int ((n : Nat) : Int)), ho, fun z e => ?_, ?_⟩
        · have := led_len hz e
          omega
        · cases ledM gs l' (wss.getD n []) <;> rfl
    · rintro σ H4 ⟨s4, o, o4, ho, hll, rfl⟩
      rw [List.length_map, List.drop_length, crsO_nil] at ho
      rw [ho] at q
      exact ⟨_, rfl, q H4 s4⟩
end
end Lw

namespace Lw
open PySem PySem.Spec PyProof.Rows L2 Mq
open SX (S)
/-! ### a walk that can be gone -/
theorem crs_snoc (gs : List Fd) (wss : List (List (List Nat))) : ∀ (ns : List Nat) (l l' l2 : List Nat) (k : Nat), crsM gs wss l ns = some l' → ledM gs l' (wss.getD k []) = some l2 → crsM gs wss l (ns ++ [k]) = some l2
  | [], l, l', l2, k, h1, h2 => by
    cases (show some l = some l' from h1)
    show (match ledM gs l (wss.getD k []) with | some l' => crsM gs wss l' [] | none => none) = some l2
    rw [h2]
    rfl
  | n :: ns, l, l', l2, k, h1, h2 => by
    have h1 : (match ledM gs l (wss.getD n []) with | some l' => crsM gs wss l' ns | none => none) = some l' := h1
    show (match ledM gs l (wss.getD n []) with | some l' => crsM gs wss l' (ns ++ [k]) | none => none) = some l2
    cases e : ledM gs l (wss.getD n []) with
    | none => rw [e] at h1; cases h1
    | some z =>
      rw [e] at h1
      exact crs_snoc gs wss ns z l' l2 k h1 h2
theorem crs_len {gs : List Fd} (h : zOk gs) {wss : List (List (List Nat))} (hw : ∀ n, n < wss.length → (wss.getD n []).length ≤ 10) : ∀ (ns : List Nat) (l l' : List Nat), (∀ n ∈ ns, n < wss.length) → crsM gs wss l ns = some l' → l'.length ≤ l.length + 10 * ns.length
  | [], l, l', _, e => by
    cases (show some l = some l' from e)
    exact Nat.le_refl _
  | n :: ns, l, l', hn, e => by
    have e : (match ledM gs l (wss.getD n []) with | some l' => crsM gs wss l' ns | none => none) = some l' := e
    rw [List.length_cons]
    cases e1 : ledM gs l (wss.getD n []) with
    | none => rw [e1] at e; cases e
    | some z =>
      rw [e1] at e
      have h1 := crs_len h hw ns z l' (fun m hm => hn m (List.mem_cons_of_mem _ hm)) e
      have h2 := led_len h e1
      have h3 := hw n (hn n List.mem_cons_self)
      omega
def spWalk (K : PySem.W.Frag) : Sp := fun vs H Q _ => ∃ (D C wd ld b : Addr) (T : Nat) (sg l : List Nat) (gs : List Fd) (wss : List (List (List Nat))), vs = [.ref D, .ref wd, .ref b, .str (S l), .int 8] ∧ DeckAt D C T H ∧ T ≤ 800000 ∧ WAt H wd ld sg gs ∧ zOk gs ∧ ShAt K H b wss ∧ wss.length ≤ 100 ∧ l.length ≤ 100 ∧
  ∀ H' t ns, SqT K H' t (intsV ns) → ns.length ≤ 8 → (∀ n ∈ ns, n < wss.length) → DeckAt D C (T + 10) H' → Off D C H H' → Q (.ref t) H'
section
variable {P : Program} {w : World} {K : PySem.W.Frag} {mg : Str → Option Value} {base : Heap}
theorem ok_walk {f fD fP fC fL : Addr} {fd fdD fdP fdC fdL : FuncData} (F : Fun K "_law_walk" "_law_walk" s__law_walk f fd) (B : Blt mg)
    (FD : Fun K "_law_draw" "_law_draw" s__law_draw fD fdD) (gD : mg "_law_draw" = some (.ref fD)) (bD : Binds K fdD ["_law_deck_here", "_law_below"] []) (GD : FnOk P w K mg base CX0 1 fD fdD ["_law_deck_here", "_law_below"] spDraw)
    (FP : Fun K "_law_pick" "_law_pick" s__law_pick fP fdP) (gP : mg "_law_pick" = some (.ref fP)) (bP : Binds K fdP ["_law_deck_here", "_law_some"] []) (GP : FnOk P w K mg base CX0 2 fP fdP ["_law_deck_here", "_law_some"] spPick)
    (FC : Fun K "_law_course" "_law_course" s__law_course fC fdC) (gC : mg "_law_course" = some (.ref fC)) (bC : Binds K fdC ["_law_w", "_law_shelf_here", "_law_web", "_law_course_here"] []) (GC : FnOk P w K mg base CX0 3 fC fdC ["_law_w", "_law_shelf_here", "_law_web", "_law_course_here"] (spLCrs K))
    (FL : Fun K "_law_led" "_law_led" s__law_led fL fdL) (gL : mg "_law_led" = some (.ref fL)) (bL : Binds K fdL ["_law_w", "_law_web", "_law_items"] []) (GL : FnOk P w K mg base CX0 2 fL fdL ["_law_w", "_law_web", "_law_items"] (spLawLed K)) :
    FnOk P w K mg base CX0 4 f fd ["_law_deck_here", "_law_w", "_law_shelf_here", "_law_web", "_law_most"] (spWalk K) := by
  refine F.ok sc__law_walk (fun vs H Q E h => ?_) (fun cdv A outer s H vs Q E hr h => ?_)
  · obtain ⟨_, _, _, _, _, _, _, _, _, _, rfl, _⟩ := h
    rfl
  · obtain ⟨D, C, wd, ld, b, T, sg, l, gs, wss, rfl, hdk, hT, hw, hz, hsh, hwl, hl, q⟩ := h
    have hu0 : (A.deeper (envOfC "_law_walk" (defScope s__law_walk) s.heap.objs.size f cdv)).units < cLine := by
      have := hr.units
      omega
    refine ⟨_, (pss_cons (ps_set (i := 5) sc__law_walk.nd rfl (Or.inl rfl) (pe_tup pa_nil))
    (pss_cons (ps_for PassesOwn.never rfl (pi_range1 (by rfl) B.range (pa_cons (pe_call GD (hr.mono (by decide)) (by rfl) gD FD.kp bD .nil pass0 (pa_cons (pv 0) (pa_cons (pe_op op_add (pv 4) pe_int) pa_nil))) pa_nil)) (pg_name (i := 6) sc__law_walk.nd rfl (Or.inl rfl))
      (pss_cons (ps_set (i := 7) sc__law_walk.nd rfl (Or.inr rfl) (pe_call GC (hr.mono (by decide)) (by rfl) gC FC.kp bC .nil pass0 (pa_cons (pv 1) (pa_cons (pv 2) (pa_cons (pv 3) (pa_cons (pv 5) pa_nil))))))
      (pss_cons (ps_setLc (i := 8) (own := [("_law_k", 9)]) (g := gName 9) rfl sc__law_walk.nd rfl rfl (sw_true rfl rfl rfl (by decide +kernel)) (pi_range1 (by rfl) B.range (pa_cons (pe_callB call_len (by rfl) B.len (by decide +kernel) (pa_cons (pv 2) pa_nil)) pa_nil)) (blkOk_by (own := [("_law_k", 9)]) (N := ["_law_deck_here", "_law_w", "_law_shelf_here", "_law_web", "_law_most", "_law_found", "_law_go", "_law_here", "_law_some", "_law_k"]) (sc := defScope s__law_walk) (by decide +kernel)) (fun _ _ _ _ _ => pg_name (i := 9) sc__law_walk.nd rfl (Or.inl rfl)) (fun _ _ _ _ _ => pts_one (pt_cmpR op_notN (pe_call GL (hr.mono (by decide)) (by rfl) gL FL.kp bL .nil pass0 (pa_cons (pv 1) (pa_cons (pv 7) (pa_cons (pe_ix (ix_tupK (K := K) rfl) (pv 2) (pv 9) (fun _ _ => rfl)) pa_nil)))) pe_non (nomark _))) (fun _ _ _ _ _ => (pv 9)))
      (pss_one (ps_set (i := 5) sc__law_walk.nd rfl (Or.inl rfl) (pe_op op_catN (pv 5) (pe_ifExp (pt_cmpR (op_neNil hu0) (pv 8) (Mq.pe_ls pa_nil) (nomark _)) (pe_tup (pa_cons (pe_call GP (hr.mono (by decide)) (by rfl) gP FP.kp bP .nil pass0 (pa_cons (pv 0) (pa_cons (pv 8) pa_nil))) pa_nil)) (pe_tup pa_nil))))))))
    (pss_one (ps_ret (pv 5))))), ?_⟩
    refine ⟨sz_le (n := 0) (by decide), fun t0 ht0 => ?_⟩
    have s0 := same_new (o := HO.tup []) ht0
    have z0 : SqT K (upd H t0 (.tup [])) t0 (intsV []) := Or.inl (Or.inl upd_same)
    have off0 : Off D C H (upd H t0 (.tup [])) := Off.same s0
    have dk0 := hdk.same s0
    have hw0 := hw.same s0
    have hsh0 := hsh.kp (KpT.same s0)
    generalize upd H t0 (.tup []) = H0 at z0 off0 dk0 hw0 hsh0 ⊢
    refine ⟨_, rfl, _, rfl, 8, 1, rfl, rfl, D, C, T, 9, rfl, dk0, by omega, by decide, by decide, fun H1 r hr9 dk1 off1 => ⟨(r : Int), rfl, by omega, by omega, ?_⟩⟩
    have z1 := off1.tup dk0 z0
    have hw1 := hw0.off off1 dk0
    have hsh1 := hsh0.kp (KpT.off off1 dk0)
    have hwl10 : ∀ n, n < wss.length → (wss.getD n []).length ≤ 10 := fun n hn => by
      obtain ⟨_, _, _, _, _, _, h⟩ := hsh.get hn
      exact h
    refine for_it (walk_rng (n := r)) (fun go σ H' => DeckAt D C (T + 1 + go) H' ∧ Off D C H1 H' ∧ ∃ t ns l' o6 o7 o8, SqT K H' t (intsV ns) ∧ ns.length ≤ go ∧ (∀ n ∈ ns, n < wss.length) ∧ crsM gs wss l ns = some l' ∧ σ = [some (.ref D), some (.ref wd), some (.ref b), some (.str (S l)), some (.int 8), some (.ref t), o6, o7, o8, none]) ⟨dk1, Off.refl _ _ _, t0, [], l, _, _, _, z1, Nat.le_refl 0, (fun _ h => nomatch h), rfl, rfl⟩ (fun _ _ _ _ _ => trivial) ?_ ?_
    · rintro go x σ H2 H2' hgo ⟨dk2, off2, t, ns, l', o6, o7, o8, zt, hnl, hns, hcr, rfl⟩ ⟨rfl, rfl⟩
      have hw2 := hw1.off off2 dk1
      have hsh2 := hsh1.kp (KpT.off off2 dk1)
      have hl' := crs_len hz hwl10 ns l l' hns hcr
      refine ⟨_, rfl, _, rfl, _, rfl, _, rfl, wd, ld, b, t, sg, l, ns, gs, wss, rfl, hw2, hz, hsh2, zt, hns, by omega, by omega, fun H3 s3 => ?_⟩
      rw [hcr]
      have dk3 := dk2.same s3
      have hw3 := hw2.same s3
      have hsh3 := hsh2.kp (KpT.same s3)
      have zt := Same.tup s3 zt
      have off3 : Off D C H1 H3 := off2.trans (Off.same s3)
      obtain ⟨⟨ss, hss, hwf⟩, _⟩ := id hsh3
      have hsl := each_len hwf
      refine ⟨_, rfl, _, _, rfl, len_tup hss, ((ss.length : Nat) : Int), rfl, by omega, by omega, fun M hM => ?_⟩
      rw [hsl]
      refine lc_it (walk_rng (n := wss.length)) (fun i H' => Same H3 H' ∧ ∃ ks : List Nat, H' M = some (.lst (intsV ks)) ∧ ks.length ≤ i ∧ ∀ k ∈ ks, k < wss.length ∧ ∃ l2, ledM gs l' (wss.getD k []) = some l2) ⟨same_new hM, [], upd_same, Nat.le_refl 0, fun _ h => nomatch h⟩ (fun _ _ _ _ => trivial) ?_ ?_
      · rintro i x H4 H4' hi ⟨s4, ks, zM, hkl, hks⟩ ⟨rfl, rfl⟩
        obtain ⟨ss', q1, hss', hat, hq1, hit, hwl'⟩ := (hsh3.kp (KpT.same s4)).get hi
        refine ⟨rfl, _, rfl, _, rfl, _, rfl, _, rfl, b, ss', _, _, rfl, rfl, hss', hat, wd, ld, q1, sg, l', gs, wss.getD i [], rfl, hw3.same s4, hz, by omega, hq1, by omega, hit, fun H5 s5 => ⟨rfl, _, rfl, ?_⟩⟩
        have zM := s5 _ _ zM
        cases el : ledM gs l' (wss.getD i []) with
        | none => exact ifF rfl ⟨s4.trans s5, ks, zM, by omega, hks⟩
        | some l2 =>
          refine ifT rfl ⟨_, rfl, _, zM, ?_, push_same0 hM (s4.trans s5), ks ++ [i], ?_, by rw [List.length_append]; exact Nat.succ_le_succ hkl, fun k hk => ?_⟩
          · rw [List.length_map]
            exact sz_lt (by omega)
          · rw [upd_same]
            exact congrArg (fun z => some (HO.lst z)) (List.map_append (f := fun n : Nat => V.int ((n : Nat) : Int)) (l₂ := [i])).symm
          · rcases List.mem_append.mp hk with hk | hk
            · exact hks k hk
            · rw [List.mem_singleton.mp hk]
              exact ⟨hi, l2, el⟩
      rintro H4 ⟨s4, ks, zM, hkl, hks⟩
      have nM : H3 M = none := hM
      have dk4 := dk3.same s4
      have zt := Same.tup s4 zt
      have off4 : Off D C H1 H4 := off3.trans (Off.same s4)
      refine ⟨_, rfl, _, rfl, sz_le (n := 0) (by decide), fun E0 hE0 _ => ?_⟩
      have s5 := same_new (o := HO.lst []) hE0
      have zM := s5 _ _ zM
      refine ⟨M, E0, _, rfl, rfl, SqL.of zM, SqL.of upd_same, _, rfl, ?_⟩
      have dk5 := dk4.same s5
      have zt := Same.tup s5 zt
      have off5 : Off D C H1 (upd H4 E0 (.lst [])) := off4.trans (Off.same s5)
      have nMC := (new_ne dk3 nM).2
      generalize upd H4 E0 (.lst []) = H5 at zM dk5 zt off5 ⊢
      cases ks with
      | nil =>
        refine ifF rfl ⟨sz_le (n := 0) (by decide), fun t1 ht1 => ?_⟩
        have s6 := same_new (o := HO.tup []) ht1
        refine ⟨t, t1, _, _, rfl, rfl, Same.tup s6 zt, Or.inl (Or.inl upd_same), by rw [List.length_map]; exact sz_le (n := ns.length + 0) (by omega), fun t2 H6 s7 zt2 => ?_⟩
        rw [List.append_nil] at zt2
        exact ⟨((dk5.same s6).same s7).mono (by omega), off5.trans (Off.same (s6.trans s7)), t2, ns, l', _, _, _, zt2, by omega, hns, hcr, rfl⟩
      | cons k0 kr =>
        have hkl' : (k0 :: kr).length ≤ 1000 := by omega
        refine ifT rfl ⟨_, rfl, _, rfl, D, C, _, .ref M, rfl, dk5, by omega, Or.inr ⟨M, _, rfl, zM, nMC, by simp, by rw [List.length_map]; exact hkl', fun H6 v hv dk6 off6 => ?_⟩⟩
        obtain ⟨k, hk, rfl⟩ := List.mem_map.mp hv
        obtain ⟨hk1, l2, hk2⟩ := hks k hk
        refine ⟨sz_le (n := 1) (by decide), fun t1 ht1 => ?_⟩
        have s6 := same_new (o := HO.tup [V.int ((k : Nat) : Int)]) ht1
        refine ⟨t, t1, _, _, rfl, rfl, Same.tup s6 (off6.tup dk5 zt), Or.inl (Or.inl upd_same), by rw [List.length_map]; exact sz_le (n := ns.length + 1) (by omega), fun t2 H7 s7 zt2 => ?_⟩
        have e1 : intsV ns ++ [V.int ((k : Nat) : Int)] = intsV (ns ++ [k]) := (List.map_append (f := fun n : Nat => V.int ((n : Nat) : Int)) (l₂ := [k])).symm
        rw [e1] at zt2
        refine ⟨((dk6.same s6).same s7).mono (by omega), off5.trans (off6.trans (Off.same (s6.trans s7))), t2, ns ++ [k], l2, _, _, _, zt2, by rw [List.length_append]; exact Nat.succ_le_succ hnl, fun n hn => ?_, crs_snoc gs wss ns l l' l2 k hcr hk2, rfl⟩
        rcases List.mem_append.mp hn with hn | hn
        · exact hns n hn
        · rw [List.mem_singleton.mp hn]
          exact hk1
    · rintro σ H2 ⟨dk2, off2, t, ns, l', o6, o7, o8, zt, hnl, hns, hcr, rfl⟩
      exact ⟨_, rfl, q H2 t ns zt (by omega) hns (dk2.mono (by omega)) (off0.trans (off1.trans off2))⟩
end
end Lw

namespace Mq
open PySem PySem.Spec PyProof.Rows L2
open SX (S)
/-! ### small whole numbers in bounds -/
theorem okD_int {k : Nat} (h : k ≤ 4100) : OkD 20 0 (.int (k : Nat)) := by
  have h0 : ((List.range 4101).all fun n => decide ((PyData.int (n : Nat)).shown.length ≤ 13) && ((PyData.int (n : Nat)).showable && decide ((PyData.int (n : Nat)).weight ≤ 20))) = true := by decide +kernel
  have h1 := List.all_eq_true.mp h0 k (List.mem_range.mpr (by omega))
  obtain ⟨a, b⟩ := Bool.and_eq_true_iff.mp h1
  obtain ⟨b, c⟩ := Bool.and_eq_true_iff.mp b
  refine ⟨⟨b, Nat.le_refl 0, of_decide_eq_true c, ?_⟩, rfl⟩
  show decide ((PyData.int (k : Nat)).shown.length ≤ 60) = true
  have := of_decide_eq_true a
  exact decide_eq_true (by omega)
end Mq

namespace Mq
open PySem PySem.Spec PyProof.Rows L2
open SX (S)
/-! ### bools among whole numbers, ahead -/
def bI (b : Bool) : Int := if b = true then 1 else 0
section
variable {X : Cx}
theorem op_addB : OpR X (binaryOp .Add) (fun x y H Q => ∃ k i, x = .bl k ∧ y = .int i ∧ Q (.int (bI k + i)) H) := by
  intro pins s σ H x y v u Q I rx ry h
  obtain ⟨k, i, rfl, rfl, q⟩ := h
  obtain ⟨t, rfl⟩ := ry
  cases rx
  exact PySem.IntBool.add_bool_int ⟨.int (bI k + i), H, I.tok _, ⟨_, rfl⟩, q⟩
theorem op_subB : OpR X (binaryOp .Sub) (fun x y H Q => ∃ k i, x = .bl k ∧ y = .int i ∧ Q (.int (bI k - i)) H) := by
  intro pins s σ H x y v u Q I rx ry h
  obtain ⟨k, i, rfl, rfl, q⟩ := h
  obtain ⟨t, rfl⟩ := ry
  cases rx
  exact PySem.IntBool.sub_bool_int ⟨.int (bI k - i), H, I.tok _, ⟨_, rfl⟩, q⟩
theorem op_eqB : OpR X (compareOp .Eq) (fun x y H Q => ∃ k i, x = .bl k ∧ y = .int i ∧ Q (.bl (bI k == i)) H) := by
  intro pins s σ H x y v u Q I rx ry h
  obtain ⟨k, i, rfl, rfl, q⟩ := h
  obtain ⟨t, rfl⟩ := ry
  cases rx
  exact PySem.EqBoolInt.eq_bool_int (fin_bl I q rfl)
theorem call_strB : CallR X (.type "str") (fun xs H Q => ∃ k, xs = [.bl k] ∧ Q (.str (if k then "True" else "False")) H) := by
  intro pins s σ H xs us Q I r h
  obtain ⟨k, rfl, q⟩ := h
  obtain ⟨u, rfl, e⟩ := vals1 r
  cases e
  exact PySem.P.str_of_bool ⟨.str _, H, I.tok _, ⟨_, rfl⟩, q⟩
theorem cr_or {v : Value} {r1 r2 : List V → Hp → VK → Prop} (h1 : CallR X v r1) (h2 : CallR X v r2) : CallR X v (fun xs H Q => r1 xs H Q ∨ r2 xs H Q) := by
  intro pins s σ H xs us Q I r h
  rcases h with h | h
  · exact h1 pins s σ H xs us Q I r h
  · exact h2 pins s σ H xs us Q I r h
end
/-! ### whole numbers in bounds, at any depth -/
mutual
def intB (b : Nat) : PyData → Bool
  | .int i => decide (-(b : Int) ≤ i) && decide (i ≤ (10 ^ 39 : Nat) + 6 * (b : Int))
  | .tuple ds => intAll b ds
  | _ => true
def intAll (b : Nat) : List PyData → Bool
  | [] => true
  | d :: ds => intB b d && intAll b ds
end
theorem intAll_of {b : Nat} : ∀ {ds : List PyData}, (∀ d ∈ ds, intB b d = true) → intAll b ds = true
  | [], _ => rfl
  | d :: ds, h => by
    show (intB b d && intAll b ds) = true
    rw [h d List.mem_cons_self, intAll_of fun x hx => h x (List.mem_cons_of_mem _ hx)]
    rfl
theorem intAll_mem {b : Nat} : ∀ {ds : List PyData}, intAll b ds = true → ∀ d ∈ ds, intB b d = true
  | d :: ds, h, x, hx => by
    obtain ⟨h1, h2⟩ := Bool.and_eq_true_iff.mp (show (intB b d && intAll b ds) = true from h)
    rcases List.mem_cons.mp hx with rfl | hx
    · exact h1
    · exact intAll_mem h2 x hx
theorem intAll_app {b : Nat} {ds es : List PyData} (h : intAll b ds = true) (k : intAll b es = true) : intAll b (ds ++ es) = true :=
  intAll_of fun d hd => (List.mem_append.mp hd).elim (intAll_mem h d) (intAll_mem k d)
theorem intAll_sub {b : Nat} {ds es : List PyData} (s : es.Sublist ds) (h : intAll b ds = true) : intAll b es = true := intAll_of fun d hd => intAll_mem h d (s.subset hd)
theorem intAll_rev {b : Nat} {ds : List PyData} (h : intAll b ds = true) : intAll b ds.reverse = true := intAll_of fun d hd => intAll_mem h d (List.mem_reverse.mp hd)
mutual
theorem intB_mono {b c : Nat} (hbc : b ≤ c) : ∀ d : PyData, intB b d = true → intB c d = true
  | .int i, h => by
    obtain ⟨h1, h2⟩ := Bool.and_eq_true_iff.mp (show (decide (-(b : Int) ≤ i) && decide (i ≤ (10 ^ 39 : Nat) + 6 * (b : Int))) = true from h)
    have h1 := of_decide_eq_true h1
    have h2 := of_decide_eq_true h2
    show (decide (-(c : Int) ≤ i) && decide (i ≤ (10 ^ 39 : Nat) + 6 * (c : Int))) = true
    rw [decide_eq_true (by omega), decide_eq_true (by omega)]
    rfl
  | .tuple ds, h => intAll_mono hbc ds h
  | .none, _ => rfl
  | .bool _, _ => rfl
  | .str _, _ => rfl
  | .list _, _ => rfl
  | .dict _, _ => rfl
theorem intAll_mono {b c : Nat} (hbc : b ≤ c) : ∀ ds : List PyData, intAll b ds = true → intAll c ds = true
  | [], _ => rfl
  | d :: ds, h => by
    obtain ⟨h1, h2⟩ := Bool.and_eq_true_iff.mp (show (intB b d && intAll b ds) = true from h)
    show (intB c d && intAll c ds) = true
    rw [intB_mono hbc d h1, intAll_mono hbc ds h2]
    rfl
end
theorem intB_int {b : Nat} {i : Int} (h1 : -(b : Int) ≤ i) (h2 : i ≤ (10 ^ 39 : Nat) + 6 * (b : Int)) : intB b (.int i) = true := by
  show (decide (-(b : Int) ≤ i) && decide (i ≤ (10 ^ 39 : Nat) + 6 * (b : Int))) = true
  rw [decide_eq_true h1, decide_eq_true h2]
  rfl
theorem intB_get {b : Nat} {i : Int} (h : intB b (.int i) = true) : -(b : Int) ≤ i ∧ i ≤ (10 ^ 39 : Nat) + 6 * (b : Int) := by
  obtain ⟨h1, h2⟩ := Bool.and_eq_true_iff.mp (show (decide (-(b : Int) ≤ i) && decide (i ≤ (10 ^ 39 : Nat) + 6 * (b : Int))) = true from h)
  exact ⟨of_decide_eq_true h1, of_decide_eq_true h2⟩
/-- the text of such a number -/
theorem int_text {i : Int} (h1 : -30 ≤ i) (h2 : i ≤ (10 ^ 40 : Nat)) : ∃ l : List Nat, Str.ofString (toString i) = S l ∧ l.length ≤ 45 ∧ ∀ c ∈ l, c < 128 := by
  by_cases h : i < 0
  · have key : ((List.range 30).all fun k => decide ((Str.ofString (toString (-((k : Int) + 1)))).cps.toList.length ≤ 45) && (Str.ofString (toString (-((k : Int) + 1)))).cps.toList.all fun c => decide (c < 128)) = true := by decide +kernel
    have h3 := List.all_eq_true.mp key (-i - 1).toNat (List.mem_range.mpr (by omega))
    have e : (-((((-i - 1).toNat : Nat) : Int) + 1)) = i := by omega
    rw [e] at h3
    obtain ⟨a, b⟩ := Bool.and_eq_true_iff.mp h3
    exact ⟨_, (S_of _).symm, of_decide_eq_true a, fun c hc => of_decide_eq_true (List.all_eq_true.mp b c hc)⟩
  · obtain ⟨n, rfl⟩ : ∃ n : Nat, i = (n : Int) := ⟨i.toNat, by omega⟩
    refine ⟨TL.numL n, SX.num_S n, Nat.le_trans (TL.numL_len (k := 41) (by decide) ?_) (by decide), fun c hc => ?_⟩
    · have h3 : n ≤ 10 ^ 40 := by omega
      have h4 : (10 ^ 40 : Nat) < 10 ^ 41 := by decide
      omega
    · by_cases hh : c < 48 ∨ 57 < c
      · exact (TL.numL_free hh hc).elim
      · omega
theorem int_log {i : Int} (h1 : -30 ≤ i) (h2 : i ≤ (10 ^ 40 : Nat)) : i.natAbs.log2 < 140 := by
  have h3 : i.natAbs < 2 ^ 140 := by
    have h4 : (10 ^ 40 : Nat) < 2 ^ 140 := by decide
    have h5 : (30 : Nat) < 2 ^ 140 := by decide
    omega
  rcases Nat.eq_zero_or_pos i.natAbs with h | h
  · rw [h]
    decide
  · exact (Nat.log2_lt (by omega)).mpr h3
theorem okD_intW {i : Int} (h1 : -30 ≤ i) (h2 : i ≤ (10 ^ 40 : Nat)) : OkD 150 0 (.int i) := by
  have hl := int_log h1 h2
  obtain ⟨l, e, hn, _⟩ := int_text h1 h2
  refine ⟨⟨?_, Nat.le_refl 0, ?_, ?_⟩, rfl⟩
  · show decide (i.natAbs.log2 < 1920) = true
    exact decide_eq_true (by omega)
  · show (if (i == 0) = true then 0 else i.natAbs.log2 + 1) ≤ 150
    split
    · exact Nat.zero_le _
    · omega
  · show decide ((Str.ofString (toString i)).length ≤ 60) = true
    refine decide_eq_true ?_
    rw [e, SX.S_len]
    omega
theorem intAll_one {b : Nat} {ds : List PyData} (h : intAll b ds = true) : intAll b [.tuple ds] = true := by
  show (intAll b ds && true) = true
  rw [h]
  rfl
theorem intAll_zero (b : Nat) : intAll b [.int 0] = true := by
  show (intB b (.int 0) && true) = true
  rw [intB_int (by omega) (by omega)]
  rfl
theorem boolS_text (k : Bool) : ∃ l : List Nat, (if k then "True" else "False" : Str) = S l ∧ l.length ≤ 45 ∧ ∀ c ∈ l, c < 128 := by
  cases k with
  | true => exact ⟨[84, 114, 117, 101], by decide +kernel, by decide, by decide⟩
  | false => exact ⟨[70, 97, 108, 115, 101], by decide +kernel, by decide, by decide⟩
theorem mem_twice {α : Type} {xs : List α} {x : α} (h : x ∈ (List.replicate (2 : Int).toNat xs).flatten) : x ∈ xs := by
  obtain ⟨l, h1, h2⟩ := List.mem_flatten.mp h
  rw [(List.mem_replicate.mp h1).2] at h2
  exact h2
/-- a value and its data, in bounds, its whole numbers too -/
def OdI (K : PySem.W.Frag) (N : Addr → Prop) (w n b : Nat) (H : Hp) (v : V) : Prop := ∃ d, Dv K N H v d ∧ OkD w n d ∧ intB b d = true
section
variable {K : PySem.W.Frag} {N N' : Addr → Prop} {H H' : Hp} {w n b w' n' b' : Nat} {v : V}
theorem OdI.same (h : OdI K N w n b H v) (e : Same H H') : OdI K N w n b H' v := let ⟨d, a, b, c⟩ := h; ⟨d, a.same e, b, c⟩
theorem OdI.mono (h : OdI K N w n b H v) (hN : ∀ a, N a → N' a) (hw : w ≤ w') (hn : n ≤ n') (hb : b ≤ b') : OdI K N' w' n' b' H v := let ⟨d, x, y, z⟩ := h; ⟨d, x.mono hN, y.mono hw hn, intB_mono hb d z⟩
theorem OdI.kp (h : OdI K N w n b H v) (e1 : ∀ a o, N a → H a = some o → H' a = some o) (e2 : ∀ a xs, SqT K H a xs → SqT K H' a xs) : OdI K N w n b H' v := let ⟨d, x, y, z⟩ := h; ⟨d, x.kp e1 e2, y, z⟩
end
end Mq

namespace Mq
open PySem PySem.Spec PyProof.Rows L2
open SX (S)
/-! ### whole numbers and tuples in bounds, at any depth (both ways) -/
mutual
def boxB (b : Nat) : PyData → Bool
  | .int i => decide (i.natAbs ≤ 10 ^ 39 + 6 * b)
  | .tuple ds => decide (ds.length ≤ b + 4) && boxAll b ds
  | _ => true
def boxAll (b : Nat) : List PyData → Bool
  | [] => true
  | d :: ds => boxB b d && boxAll b ds
end
theorem boxAll_of {b : Nat} : ∀ {ds : List PyData}, (∀ d ∈ ds, boxB b d = true) → boxAll b ds = true
  | [], _ => rfl
  | d :: ds, h => by
    show (boxB b d && boxAll b ds) = true
    rw [h d List.mem_cons_self, boxAll_of fun x hx => h x (List.mem_cons_of_mem _ hx)]
    rfl
theorem boxAll_mem {b : Nat} : ∀ {ds : List PyData}, boxAll b ds = true → ∀ d ∈ ds, boxB b d = true
  | d :: ds, h, x, hx => by
    obtain ⟨h1, h2⟩ := Bool.and_eq_true_iff.mp (show (boxB b d && boxAll b ds) = true from h)
    rcases List.mem_cons.mp hx with rfl | hx
    · exact h1
    · exact boxAll_mem h2 x hx
theorem boxB_tup {b : Nat} {ds : List PyData} : boxB b (.tuple ds) = true ↔ ds.length ≤ b + 4 ∧ boxAll b ds = true := by
  show (decide (ds.length ≤ b + 4) && boxAll b ds) = true ↔ _
  rw [Bool.and_eq_true, decide_eq_true_eq]
mutual
theorem boxB_mono {b c : Nat} (hbc : b ≤ c) : ∀ d : PyData, boxB b d = true → boxB c d = true
  | .int i, h => by
    have h1 := of_decide_eq_true (show decide (i.natAbs ≤ 10 ^ 39 + 6 * b) = true from h)
    show decide (i.natAbs ≤ 10 ^ 39 + 6 * c) = true
    exact decide_eq_true (by omega)
  | .tuple ds, h => by
    obtain ⟨h1, h2⟩ := boxB_tup.mp h
    exact boxB_tup.mpr ⟨by omega, boxAll_mono hbc ds h2⟩
  | .none, _ => rfl
  | .bool _, _ => rfl
  | .str _, _ => rfl
  | .list _, _ => rfl
  | .dict _, _ => rfl
theorem boxAll_mono {b c : Nat} (hbc : b ≤ c) : ∀ ds : List PyData, boxAll b ds = true → boxAll c ds = true
  | [], _ => rfl
  | d :: ds, h => by
    obtain ⟨h1, h2⟩ := Bool.and_eq_true_iff.mp (show (boxB b d && boxAll b ds) = true from h)
    show (boxB c d && boxAll c ds) = true
    rw [boxB_mono hbc d h1, boxAll_mono hbc ds h2]
    rfl
end
theorem boxB_int {b : Nat} {i : Int} (h : i.natAbs ≤ 10 ^ 39 + 6 * b) : boxB b (.int i) = true := decide_eq_true h
theorem boxB_get {b : Nat} {i : Int} (h : boxB b (.int i) = true) : i.natAbs ≤ 10 ^ 39 + 6 * b := of_decide_eq_true h
/-- tuples made of a tuple -/
theorem boxT_sub {b : Nat} {ds es : List PyData} (s : es.Sublist ds) (h : boxB b (.tuple ds) = true) : boxB (b + 1) (.tuple es) = true := by
  obtain ⟨h1, h2⟩ := boxB_tup.mp h
  have h3 := s.length_le
  exact boxB_tup.mpr ⟨by omega, boxAll_of fun d hd => boxB_mono (Nat.le_succ b) d (boxAll_mem h2 d (s.subset hd))⟩
theorem boxT_more {b : Nat} {ds es : List PyData} (s : es.Sublist ds) (hz : es.length ≤ 1) (h : boxB b (.tuple ds) = true) : boxB (b + 1) (.tuple (ds ++ es)) = true := by
  obtain ⟨h1, h2⟩ := boxB_tup.mp h
  exact boxB_tup.mpr ⟨by rw [List.length_append]; omega, boxAll_of fun d hd => boxB_mono (Nat.le_succ b) d (boxAll_mem h2 d ((List.mem_append.mp hd).elim id fun z => s.subset z))⟩
theorem boxT_rev {b : Nat} {ds : List PyData} (h : boxB b (.tuple ds) = true) : boxB (b + 1) (.tuple ds.reverse) = true := by
  obtain ⟨h1, h2⟩ := boxB_tup.mp h
  exact boxB_tup.mpr ⟨by rw [List.length_reverse]; omega, boxAll_of fun d hd => boxB_mono (Nat.le_succ b) d (boxAll_mem h2 d (List.mem_reverse.mp hd))⟩
theorem boxT_one {b : Nat} {d : PyData} (h : boxB b d = true) : boxB (b + 1) (.tuple [d]) = true :=
  boxB_tup.mpr ⟨by show 1 ≤ _; omega, boxAll_of fun x hx => by rw [List.mem_singleton.mp hx]; exact boxB_mono (Nat.le_succ b) d h⟩
/-- the text of such a number -/
theorem neg_text (m : Nat) : Str.ofString (toString (Int.negSucc m)) = S (45 :: TL.numL (m + 1)) := by
  refine TL.ext_tl ?_
  rw [TL.tl_ofString, show toString (Int.negSucc m) = "-" ++ toString (m + 1) from rfl, String.toList_append, List.map_append]
  have h := TL.tl_num (m + 1)
  rw [TL.tl_ofString] at h
  show 45 :: _ = 45 :: TL.numL (m + 1)
  rw [← h]
  rfl
theorem int_text2 {i : Int} (h : i.natAbs ≤ 10 ^ 40) : ∃ l : List Nat, Str.ofString (toString i) = S l ∧ l.length ≤ 45 ∧ ∀ c ∈ l, c < 128 := by
  have h4 : (10 ^ 40 : Nat) < 10 ^ 41 := by decide
  have low : ∀ n c, c ∈ TL.numL n → c < 128 := fun n c hc => by
    by_cases hh : c < 48 ∨ 57 < c
    · exact (TL.numL_free hh hc).elim
    · omega
  cases i with
  | ofNat n =>
    have hn : n ≤ 10 ^ 40 := h
    exact ⟨TL.numL n, SX.num_S n, Nat.le_trans (TL.numL_len (k := 41) (by decide) (by omega)) (by decide), low n⟩
  | negSucc m =>
    have hn : m + 1 ≤ 10 ^ 40 := h
    refine ⟨45 :: TL.numL (m + 1), neg_text m, ?_, fun c hc => ?_⟩
    · have := TL.numL_len (n := m + 1) (k := 41) (by decide) (by omega)
      rw [List.length_cons]
      omega
    · rcases List.mem_cons.mp hc with rfl | hc
      · decide
      · exact low _ c hc
theorem int_log2 {i : Int} (h : i.natAbs ≤ 10 ^ 40) : i.natAbs.log2 < 140 := by
  have h3 : i.natAbs < 2 ^ 140 := by
    have h4 : (10 ^ 40 : Nat) < 2 ^ 140 := by decide
    omega
  rcases Nat.eq_zero_or_pos i.natAbs with h | h
  · rw [h]
    decide
  · exact (Nat.log2_lt (by omega)).mpr h3
theorem okD_int2 {i : Int} (h : i.natAbs ≤ 10 ^ 40) : OkD 150 0 (.int i) := by
  have hl := int_log2 h
  obtain ⟨l, e, hn, _⟩ := int_text2 h
  refine ⟨⟨?_, Nat.le_refl 0, ?_, ?_⟩, rfl⟩
  · show decide (i.natAbs.log2 < 1920) = true
    exact decide_eq_true (by omega)
  · show (if (i == 0) = true then 0 else i.natAbs.log2 + 1) ≤ 150
    split
    · exact Nat.zero_le _
    · omega
  · show decide ((Str.ofString (toString i)).length ≤ 60) = true
    refine decide_eq_true ?_
    rw [e, SX.S_len]
    omega
theorem mem_rep {α : Type} {n : Nat} {xs : List α} {x : α} (h : x ∈ (List.replicate n xs).flatten) : x ∈ xs := by
  obtain ⟨l, h1, h2⟩ := List.mem_flatten.mp h
  rw [(List.mem_replicate.mp h1).2] at h2
  exact h2
theorem rep_len {α : Type} (xs : List α) : ∀ n : Nat, (List.replicate n xs).flatten.length = n * xs.length
  | 0 => by simp
  | n + 1 => by
    rw [List.replicate_succ, List.flatten_cons, List.length_append, rep_len xs n, Nat.add_mul]
    omega
theorem last_cut (xs : List V) : (cutV xs (some (-1)) none).length ≤ 1 := by
  unfold cutV
  rw [List.length_take, List.length_drop]
  have e1 : HT.sIx xs.length 0 (some (-1)) = xs.length - 1 := by
    show (if (-1 : Int) < 0 then ((-1 : Int) + (xs.length : Int)).toNat else min (-1 : Int).toNat xs.length) = _
    rw [if_pos (by decide)]
    omega
  rw [e1]
  omega
/-- a text's signs, each a text -/
theorem chars_ok : ∀ {l : List Nat}, (∀ c ∈ l, c < 128) → LsOk (2 * l.length) 0 (l.map fun c => PyData.str (S [c]))
  | [], _ => LsOk.nil
  | c :: l, h => by
    have h1 := LsOk.cons (okD_str (l := [c]) (w := 1) (fun x hx => by rw [List.mem_singleton.mp hx]; exact h c List.mem_cons_self) (Nat.le_refl _)) (chars_ok fun x hx => h x (List.mem_cons_of_mem _ hx))
    exact h1.mono (by rw [List.length_cons]; omega) (Nat.le_refl _)
theorem chars_dv {K : PySem.W.Frag} {N : Addr → Prop} {H : Hp} : ∀ l : List Nat, DvAll K N H (l.map fun c => V.str (S [c])) (l.map fun c => PyData.str (S [c]))
  | [] => .nil
  | c :: l => .cons (.str _) (chars_dv l)
/-- a value and its data, in bounds -/
def OdX (K : PySem.W.Frag) (N : Addr → Prop) (w n b : Nat) (H : Hp) (v : V) : Prop := ∃ d, Dv K N H v d ∧ OkD w n d ∧ boxB b d = true
section
variable {K : PySem.W.Frag} {N N' : Addr → Prop} {H H' : Hp} {w n b w' n' b' : Nat} {v : V}
theorem OdX.same (h : OdX K N w n b H v) (e : Same H H') : OdX K N w n b H' v := let ⟨d, a, b, c⟩ := h; ⟨d, a.same e, b, c⟩
theorem OdX.mono (h : OdX K N w n b H v) (hN : ∀ a, N a → N' a) (hw : w ≤ w') (hn : n ≤ n') (hb : b ≤ b') : OdX K N' w' n' b' H v := let ⟨d, x, y, z⟩ := h; ⟨d, x.mono hN, y.mono hw hn, boxB_mono hb d z⟩
theorem OdX.kp (h : OdX K N w n b H v) (e1 : ∀ a o, N a → H a = some o → H' a = some o) (e2 : ∀ a xs, SqT K H a xs → SqT K H' a xs) : OdX K N w n b H' v := let ⟨d, x, y, z⟩ := h; ⟨d, x.kp e1 e2, y, z⟩
end
end Mq

namespace Mq
open PySem PySem.Spec PyProof.Rows L2
open PySem.MeetsSeq PySem.MeetsSeq2 PySem.MeetsSeq3
/-- a list twice over: the new one is told to stand elsewhere than the modules -/
def rTwo : R2 := fun x y H Q => ∃ l xs, x = .ref l ∧ y = .int 2 ∧ H l = some (.lst xs) ∧ xs.length * 2 ≤ 100000 ∧ ∀ p, H p = none → p ≠ sysModules → Q (.ref p) (upd H p (.lst (xs ++ xs)))
theorem op_two {X : Cx} : OpR X (binaryOp .Mult) rTwo := by
  intro pins s σ H x y v u Q I rx ry h
  obtain ⟨l, xs, rfl, rfl, hl, hz, q⟩ := h
  cases rx
  obtain ⟨t, rfl⟩ := ry
  obtain ⟨z, its, n, r, hn, e⟩ := I.lstM hl
  have hs : its.toArray.size * (2 : Int).toNat ≤ sizeLine := by
    rw [List.size_toArray, ← hn, sizeLine_eq]
    show xs.length * 2 ≤ _
    omega
  have c1 : ¬ its.toArray.size * (2 : Int).toNat > (2 ^ 63 - 1) / 8 := fun c => by
    have : (sizeLine : Nat) ≤ (2 ^ 63 - 1) / 8 := by decide
    omega
  have c2 : ¬ (!Builtin.List.listFitsIndex 2) = true := by decide
  have c3 : ¬ Builtin.List.listTooLong (its.toArray.size * (2 : Int).toNat) = true := by
    rw [notLongL hs]
    exact Bool.false_ne_true
  have two : List.foldl (fun a b => a ++ b) #[] (List.replicate (if its.toArray.isEmpty = true then 0 else (2 : Int).toNat) its.toArray) = (its ++ its).toArray := by
    cases its with
    | nil => rfl
    | cons a b =>
      rw [if_neg (by simp)]
      show ((#[] ++ (a :: b).toArray) ++ (a :: b).toArray : Array Value) = _
      simp
  refine wpAny_binaryOp_repeat_ref (T := "list") (U := "int") (by decide) ⟨_, e, rfl⟩ (fun s' => typeIs_int s' 2 t) noFill_list_mul F.fills_int_mul F.slot_int_rmul repeat_list F.slot_int_index.lookup
    (call_meets F.slot_int_rmul (typeIs_int s 2 t) F.entry_int_rmul (F.args_int_rmul_2 _ _) (int___rmul___int_list 2 t l its.toArray n)
      ⟨e, rfl, ⟨_, e, rfl⟩, call_meets F.slot_list_mul ⟨_, e, rfl⟩ F.entry_list_mul (F.args_list_mul_2 _ _) (AutoListH.list___mul___list_int_3 l its.toArray n 2 t c2 c1 c3) ⟨e, ?_⟩⟩)
  rw [two]
  refine ⟨.ref _, _, I.lnew (t' := s.toks) (r.append r) ?_, rfl, q _ I.fresh (Nat.ne_of_gt (Inv.low I))⟩
  rw [List.length_append, sizeLine_eq]
  omega
/-- two lists one behind the other: the new one is told to stand elsewhere than the modules -/
def rJoin2 : R2 := fun x y H Q => ∃ l m xs ys, x = .ref l ∧ y = .ref m ∧ H l = some (.lst xs) ∧ H m = some (.lst ys) ∧ xs.length + ys.length ≤ 100000 ∧ ∀ p, H p = none → p ≠ sysModules → Q (.ref p) (upd H p (.lst (xs ++ ys)))
theorem op_join2 {X : Cx} : OpR X (binaryOp .Add) rJoin2 := by
  intro pins s σ H x y v u Q I rx ry h
  obtain ⟨l, m, xs, ys, rfl, rfl, hl, hm, hz, q⟩ := h
  cases rx
  cases ry
  obtain ⟨_, its, n, r, hn, e⟩ := I.lstM hl
  obtain ⟨_, jts, k, t, hk, d⟩ := I.lstM hm
  refine PySem.P.add_list e d ?_ (by rw [List.size_toArray, List.size_toArray, sizeLine_eq]; omega)
  have one : its.toArray ++ jts.toArray = (its ++ jts).toArray := by simp
  rw [one]
  exact ⟨.ref _, _, I.lnew (t' := s.toks) (r.append t) (by rw [List.length_append, sizeLine_eq]; omega), rfl, q _ I.fresh (Nat.ne_of_gt (Inv.low I))⟩
end Mq

namespace Lw
open PySem PySem.Spec PyProof.Rows L2 Mq
open SX (S)
/-! ### wefts and shelves drawn -/
theorem Off.put {D C : Addr} {H H' : Hp} {q : Addr} {o : HO} (a : Off D C H H') (h : H q = none) : Off D C H (upd H' q o) := by
  intro b u e1 e2 e3
  rw [upd_ne (ne_of_none e3 h)]
  exact a b u e1 e2 e3
theorem DeckAt.put {D C : Addr} {T : Nat} {H : Hp} {q : Addr} {o : HO} (a : DeckAt D C T H) (h1 : q ≠ D) (h2 : q ≠ C) : DeckAt D C T (upd H q o) := by
  obtain ⟨m, t, js, a1, a2, a3, a4⟩ := a.ex
  exact ⟨m, t, js, (upd_ne (Ne.symm h1)).trans a1, (upd_ne (Ne.symm h2)).trans a2, a3, a4⟩
theorem off_none {D C : Addr} {T : Nat} {H H' : Hp} {q : Addr} (a : Off D C H H') (k : DeckAt D C T H') (h : H' q = none) : H q = none := by
  obtain ⟨n1, n2⟩ := new_ne k h
  cases q0 : H q with
  | none => rfl
  | some o =>
    have z := a q o n1 n2 q0
    rw [h] at z
    cases z

def ItF (sg it : List Nat) : Prop := (∃ c ∈ sg, it = [c]) ∨ ∃ c, it = [63, c] ∧ (c ∈ sg ∨ c = 45)
def looksW (sg : List Nat) : List (List Nat) := [[63, 45]] ++ ((sg.map fun c => [63, c]) ++ sg.map fun c => [63, c])
theorem looks_it (sg : List Nat) : ∀ u ∈ looksW sg, ItF sg u := by
  intro u hu
  unfold looksW at hu
  rcases List.mem_append.mp hu with h | h
  · rw [List.mem_singleton.mp h]
    exact Or.inr ⟨45, rfl, Or.inr rfl⟩
  · rcases List.mem_append.mp h with h | h <;> obtain ⟨c, hc, rfl⟩ := List.mem_map.mp h <;> exact Or.inr ⟨c, rfl, Or.inl hc⟩
theorem looks_len (sg : List Nat) : (looksW sg).length = 1 + (sg.length + sg.length) := by
  unfold looksW
  rw [List.length_append, List.length_append, List.length_map]
  rfl
theorem txs_app (a b : List (List Nat)) : txs a ++ txs b = txs (a ++ b) := (List.map_append).symm
theorem txs_len (a : List (List Nat)) : (txs a).length = a.length := List.length_map _
/-- how the list begins -/
def tStart : TE := fun σ H Q => ∃ (D C L : Addr) (T m : Nat) (sg : List Nat) (ls : List (List Nat)), σ = [some (.ref D), some (.str (S sg)), some (.int (m : Nat)), some (.ref L), none, none, none] ∧ DeckAt D C T H ∧ T ≤ 900000 ∧ H L = some (.lst (txs ls)) ∧ L ≠ C ∧ 0 < ls.length ∧ ls.length ≤ 100 ∧ (∀ u ∈ ls, ItF sg u) ∧
  ∀ H' M ws, H' M = some (.lst (txs ws)) → ws.length ≤ 1 → (∀ u ∈ ws, ItF sg u) → M ≠ D → M ≠ C → H M = none → DeckAt D C (T + 2) H' → Off D C H H' → Q (.ref M) H'
/-- how it ends -/
def tFin (K : PySem.W.Frag) : TE := fun σ H Q => ∃ (D C M : Addr) (T m : Nat) (ws : List (List Nat)), σ[0]? = some (some (.ref D)) ∧ σ[4]? = some (some (.ref M)) ∧ σ[2]? = some (some (.int (m : Nat))) ∧ DeckAt D C T H ∧ T ≤ 900000 ∧ H M = some (.lst (txs ws)) ∧ M ≠ D ∧ M ≠ C ∧ m ≤ 3 ∧
  ∀ H' t us, SqT K H' t (txs us) → us.length ≤ 3 → (∀ u ∈ us, u ∈ ws) → DeckAt D C (T + 1) H' → Off D C H H' → Q (.ref t) H'
def spWft (K : PySem.W.Frag) : Sp := fun vs H Q _ => ∃ (D C : Addr) (T m : Nat) (sg : List Nat), vs = [.ref D, .str (S sg), .int (m : Nat)] ∧ DeckAt D C T H ∧ T ≤ 800000 ∧ 0 < sg.length ∧ sg.length ≤ 3 ∧ 2 ≤ m ∧ m ≤ 3 ∧
  ∀ H' t ws, SqT K H' t (txs ws) → ws.length ≤ 3 → (∀ u ∈ ws, ItF sg u) → DeckAt D C (T + 20) H' → Off D C H H' → Q (.ref t) H'
section
variable {P : Program} {w : World} {K : PySem.W.Frag} {mg : Str → Option Value} {base : Heap}
theorem ok_weft {f fD fP : Addr} {fd fdD fdP : FuncData} (F : Fun K "_law_weft" "_law_weft" s__law_weft f fd) (B : Blt mg) (bM : mg "max" = none)
    (FD : Fun K "_law_draw" "_law_draw" s__law_draw fD fdD) (gD : mg "_law_draw" = some (.ref fD)) (bD : Binds K fdD ["_law_deck_here", "_law_below"] []) (GD : FnOk P w K mg base CX0 1 fD fdD ["_law_deck_here", "_law_below"] spDraw)
    (FP : Fun K "_law_pick" "_law_pick" s__law_pick fP fdP) (gP : mg "_law_pick" = some (.ref fP)) (bP : Binds K fdP ["_law_deck_here", "_law_some"] []) (GP : FnOk P w K mg base CX0 2 fP fdP ["_law_deck_here", "_law_some"] spPick) :
    FnOk P w K mg base CX0 3 f fd ["_law_deck_here", "_law_letters", "_law_most"] (spWft K) := by
  refine F.ok sc__law_weft (fun vs H Q E h => ?_) (fun cdv A outer s H vs Q E hr h => ?_)
  · obtain ⟨_, _, _, _, _, rfl, _⟩ := h
    rfl
  · obtain ⟨D, C, T, m, sg, rfl, hdk, hT, h0, h3, hm2, hm3, q⟩ := h
    refine ⟨_, (pss_cons (ps_set (i := 3) sc__law_weft.nd rfl (Or.inl rfl) (pe_op op_cat (Mq.pe_ls (pa_cons pe_str pa_nil)) (pe_op op_two (pe_lc (own := [("_law_sign", 6)]) (g := gName 6) (tt := tYes) rfl sc__law_weft.nd (pi_str (pv 1)) (blkOk_by (own := [("_law_sign", 6)]) (N := ["_law_deck_here", "_law_letters", "_law_most", "_law_looks", "_law_weft_here", "_law_go", "_law_sign"]) (sc := defScope s__law_weft) (by decide +kernel)) (fun _ _ _ _ _ => pg_name (i := 6) sc__law_weft.nd rfl (Or.inl rfl)) (fun _ _ _ _ _ => pts_nil) (fun _ _ _ _ _ => (pe_op op_add_str pe_str (pv 6)))) pe_int)))
    (pss_cons (ps_set (i := 4) sc__law_weft.nd rfl (Or.inl rfl) (PE_imp (t' := tStart) (pe_ifExp (PW.pt (pw_and (pt_cmpR op_lt (pe_call GD (hr.mono (by decide)) (by rfl) gD FD.kp bD .nil pass0 (pa_cons (pv 0) (pa_cons pe_int pa_nil))) pe_int (nomark _)) (pw_and1 (pt_cmpR op_gt (pv 2) pe_int (nomark _))))) (Mq.pe_ls (pa_cons (pe_call GP (hr.mono (by decide)) (by rfl) gP FP.kp bP .nil pass0 (pa_cons (pv 0) (pa_cons (pv 3) pa_nil))) pa_nil)) (Mq.pe_ls pa_nil)) (fun σ H Q h => by
        obtain ⟨D, C, L, T, m, sg, ls, rfl, hdk, hT, zL, nL, hl0, hl, hit, q⟩ := h
        refine ⟨_, rfl, D, C, T, 5, rfl, hdk, by omega, by decide, by decide, fun H1 r hr5 dk1 off1 => ⟨_, _, rfl, rfl, _, rfl, ?_⟩⟩
        have none_ : ∀ H2, DeckAt D C (T + 1) H2 → Off D C H H2 → (sz : (0 : Nat) ≤ sizeLine) → ∀ M, H2 M = none → M ≠ sysModules → Q (.ref M) (upd H2 M (.lst [])) := fun H2 dk2 off2 _ M hM _ => by
          obtain ⟨n1, n2⟩ := new_ne dk2 hM
          exact q _ M [] upd_same (Nat.zero_le _) (fun _ h => nomatch h) n1 n2 (off_none off2 dk2 hM) ((dk2.put n1 n2).mono (by omega)) (off2.put (off_none off2 dk2 hM))
        cases e1 : decide (((r : Nat) : Int) < 2) with
        | false => exact iteF (ifF rfl ⟨sz_le (n := 0) (by decide), fun M hM hm => none_ H1 dk1 off1 (Nat.zero_le _) M hM hm⟩)
        | true =>
          refine iteT ⟨_, rfl, _, _, rfl, rfl, _, rfl, ?_⟩
          cases e2 : decide ((1 : Int) < ((m : Nat) : Int)) with
          | false => exact ifF rfl ⟨sz_le (n := 0) (by decide), fun M hM hm => none_ H1 dk1 off1 (Nat.zero_le _) M hM hm⟩
          | true =>
            have nLD : L ≠ D := by
              rintro rfl
              obtain ⟨_, _, _, e, _⟩ := hdk.ex
              rw [zL] at e
              cases e
            refine ifT rfl ⟨_, rfl, _, rfl, D, C, T + 1, .ref L, rfl, dk1, by omega, Or.inr ⟨L, _, rfl, off1 _ _ nLD nL zL, nL, by rw [txs_len]; exact hl0, by rw [txs_len]; omega, fun H2 v hv dk2 off2 => ?_⟩⟩
            obtain ⟨u, hu, rfl⟩ := List.mem_map.mp hv
            refine ⟨sz_le (n := 1) (by decide), fun M hM _ => ?_⟩
            obtain ⟨n1, n2⟩ := new_ne dk2 hM
            have hn := off_none (off1.trans off2) dk2 hM
            exact q _ M [u] upd_same (Nat.le_refl 1) (fun x hx => by rw [List.mem_singleton.mp hx]; exact hit u hu) n1 n2 hn (dk2.put n1 n2) ((off1.trans off2).put hn))))
    (pss_cons (ps_for PassesOwn.never rfl (pi_range1 (by rfl) B.range (pa_cons (pe_op op_add pe_int (pe_call GD (hr.mono (by decide)) (by rfl) gD FD.kp bD .nil pass0 (pa_cons (pv 0) (pa_cons (pe_callB (call_max2 rfl) (by rfl) bM (by decide +kernel) (pa_cons pe_int (pa_cons (pe_op op_sub (pv 2) (pe_callB call_len (by rfl) B.len (by decide +kernel) (pa_cons (pv 4) pa_nil))) pa_nil))) pa_nil)))) pa_nil)) (pg_name (i := 5) sc__law_weft.nd rfl (Or.inl rfl))
      (pss_one (ps_expr (pe_bm PySem.F.plainAttrs_list PySem.F.slot_list_append PySem.F.type_list_append mt_append (pv 4) (pa_cons (pe_call GP (hr.mono (by decide)) (by rfl) gP FP.kp bP .nil pass0 (pa_cons (pv 0) (pa_cons (pv 1) pa_nil))) pa_nil)))))
    (pss_cons (ps_if (PW.pt (pw_and (pt_cmpR op_lt (pe_callB call_len (by rfl) B.len (by decide +kernel) (pa_cons (pv 4) pa_nil)) (pv 2) (nomark _)) (pw_and1 (pt_cmpR op_eq (pe_call GD (hr.mono (by decide)) (by rfl) gD FD.kp bD .nil pass0 (pa_cons (pv 0) (pa_cons pe_int pa_nil))) pe_int (nomark _))))) (pss_one (ps_expr (pe_bm PySem.F.plainAttrs_list PySem.F.slot_list_append PySem.F.type_list_append mt_append (pv 4) (pa_cons (pe_op op_add_str pe_str (pe_call GP (hr.mono (by decide)) (by rfl) gP FP.kp bP .nil pass0 (pa_cons (pv 0) (pa_cons (pv 1) pa_nil)))) pa_nil)))) pss_nil)
    (pss_one (ps_ret (PE_imp (t' := tFin K) (pe_ifExp (pt_cmpR op_gt (pe_call GD (hr.mono (by decide)) (by rfl) gD FD.kp bD .nil pass0 (pa_cons (pv 0) (pa_cons pe_int pa_nil))) pe_int (nomark _)) (pe_callTy call_tuple_of (by rfl) B.tuple (by decide +kernel) (pa_cons (pe_slice sl_list (pv 4) po_none (po_some (pv 2))) pa_nil)) (pe_tup pa_nil)) (fun σ H Q h => by
        obtain ⟨D, C, M, T, m, ws, h0, h4, h2, hdk, hT, zM, nD, nC, hm, q⟩ := h
        refine ⟨_, h0, D, C, T, 30, rfl, hdk, by omega, by decide, by decide, fun H1 r hr5 dk1 off1 => ⟨_, _, rfl, rfl, _, rfl, ?_⟩⟩
        cases e1 : decide ((0 : Int) < ((r : Nat) : Int)) with
        | false => exact ifF rfl ⟨sz_le (n := 0) (by decide), fun t ht => q _ t [] (Or.inl (Or.inl upd_same)) (Nat.zero_le _) (fun _ h => nomatch h) (dk1.same (same_new ht)) (off1.trans (Off.same (same_new ht)))⟩
        | true =>
          have z1 := off1 _ _ nD nC zM
          refine ifT rfl ⟨_, h4, _, h2, _, rfl, M, _, rfl, SqL.of z1, fun p hp => ⟨p, _, rfl, Or.inl ⟨SqL.of upd_same, fun t ht => ?_⟩⟩⟩
          have s1 := (same_new (o := HO.lst (cutV (txs ws) none (some (m : Nat)))) hp).trans (same_new (o := HO.tup (cutV (txs ws) none (some (m : Nat)))) ht)
          have ec : cutV (txs ws) none (some (m : Nat)) = txs (ws.take m) := txs_to ws m
          refine q _ t (ws.take m) (Or.inl (Or.inl (upd_same.trans ?_))) ?_ (fun u hu => List.mem_of_mem_take hu) (dk1.same s1) (off1.trans (Off.same s1))
          · rw [ec]
          · rw [List.length_take]
            omega)))))))), ?_⟩
    have eq : ("?" : Str) = S [63] := by decide +kernel
    have e2 : ("?-" : Str) = S [63, 45] := by decide +kernel
    refine ⟨sz_le (n := 1) (by decide), fun L0 hL0 _ => ?_⟩
    have s0 := same_new (o := HO.lst [V.str "?-"]) hL0
    have zL0 : upd H L0 (.lst [V.str "?-"]) L0 = some (.lst [V.str "?-"]) := upd_same
    generalize upd H L0 (.lst [V.str "?-"]) = H0 at s0 zL0 ⊢
    refine ⟨_, rfl, S sg, rfl, fun M hM => ?_⟩
    refine lc_yes (walk_S sg) (fun i H' => Same H0 H' ∧ H' M = some (.lst (txs ((sg.take i).map fun c => [63, c])))) ⟨same_new hM, upd_same⟩ (fun _ _ _ _ => trivial) ?_ ?_
    · rintro i y H7 H8 hi ⟨s7, zM⟩ ⟨rfl, rfl⟩
      refine ⟨rfl, _, rfl, _, _, rfl, rfl, sz_le (n := 2) (by decide), ?_⟩
      rw [eq, SX.S_cat]
      refine ⟨_, zM, ?_, push_same0 hM s7, ?_⟩
      · unfold txs
        rw [List.length_map, List.length_map, List.length_take]
        exact sz_lt (by omega)
      · rw [upd_same, List.take_add_one, List.getElem?_eq_getElem hi, List.getD_eq_getElem?_getD, List.getElem?_eq_getElem hi]
        show some (HO.lst (txs ((sg.take i).map fun c => [63, c]) ++ [V.str (S [63, sg[i]])])) = some (HO.lst (txs ((sg.take i ++ [sg[i]]).map fun c => [63, c])))
        rw [List.map_append]
        exact congrArg (fun z => some (HO.lst z)) (List.map_append (f := fun l : List Nat => V.str (S l)) (l₂ := [[63, sg[i]]])).symm
    rintro H1 ⟨s1, zM⟩
    rw [List.take_length] at zM
    refine ⟨M, _, rfl, rfl, zM, by rw [txs_len, List.length_map]; omega, fun L1 hL1 _ => ?_⟩
    have s2 := same_new (o := HO.lst (txs (sg.map fun c => [63, c]) ++ txs (sg.map fun c => [63, c]))) hL1
    have zL1 : upd H1 L1 (.lst (txs (sg.map fun c => [63, c]) ++ txs (sg.map fun c => [63, c]))) L1 = some (.lst (txs (sg.map fun c => [63, c]) ++ txs (sg.map fun c => [63, c]))) := upd_same
    have zL0 := s2 _ _ (s1 _ _ zL0)
    have s02 := s0.trans (s1.trans s2)
    generalize upd H1 L1 (.lst (txs (sg.map fun c => [63, c]) ++ txs (sg.map fun c => [63, c]))) = H2 at zL1 zL0 s02 ⊢
    refine ⟨L0, L1, _, _, rfl, rfl, zL0, zL1, by rw [List.length_append, txs_len, List.length_map]; exact sz_le (n := 1 + (sg.length + sg.length)) (by omega), fun L hL => ?_⟩
    have eL : [V.str "?-"] ++ (txs (sg.map fun c => [63, c]) ++ txs (sg.map fun c => [63, c])) = txs (looksW sg) := by
      unfold looksW
      rw [← txs_app, ← txs_app, e2]
      rfl
    rw [eL]
    have s3 := s02.trans (same_new (o := HO.lst (txs (looksW sg))) hL)
    have zL : upd H2 L (.lst (txs (looksW sg))) L = some (.lst (txs (looksW sg))) := upd_same
    have nL := new_ne (hdk.same s02) hL
    have dk3 := hdk.same s3
    have off3 : Off D C H (upd H2 L (.lst (txs (looksW sg)))) := Off.same s3
    generalize upd H2 L (.lst (txs (looksW sg))) = H3 at zL dk3 off3 ⊢
    clear s3 s02 s2 s1 s0 zL0 zL1 zM hL hL1 hM hL0
    have hll := looks_len sg
    refine ⟨D, C, L, T, m, sg, looksW sg, rfl, dk3, by omega, zL, nL.2, by omega, by omega, looks_it sg, fun H4 Mw ws zM hwl hit n1 n2 hn dk4 off4 => ?_⟩
    obtain ⟨bb, hb, hb0, hb3⟩ : ∃ bb : Nat, (if ((m : Nat) : Int) - ((ws.length : Nat) : Int) > 1 then ((m : Nat) : Int) - ((ws.length : Nat) : Int) else 1) = ((bb : Nat) : Int) ∧ 0 < bb ∧ bb ≤ 3 := by
      by_cases hh : ((m : Nat) : Int) - ((ws.length : Nat) : Int) > 1
      · exact ⟨m - ws.length, by rw [if_pos hh]; omega, by omega, by omega⟩
      · exact ⟨1, by rw [if_neg hh]; rfl, by omega, by omega⟩
    refine ⟨_, rfl, _, rfl, _, rfl, _, _, rfl, Or.inl ⟨_, SqL.of zM, rfl⟩, _, _, rfl, rfl, 1, _, rfl, ?_⟩
    rw [txs_len]
    refine ⟨D, C, _, bb, by rw [hb]; rfl, dk4, by omega, hb0, by omega, fun H5 r hr dk5 off5 => ⟨1, ((r : Nat) : Int), rfl, rfl, ?_⟩⟩
    refine ⟨((1 + r : Nat) : Int), by rw [Int.natCast_add]; rfl, by omega, by omega, ?_⟩
    have zM5 := off5 _ _ n1 n2 zM
    refine for_it (walk_rng (n := 1 + r)) (fun k σ H' => DeckAt D C (T + 3 + k) H' ∧ Off D C H3 H' ∧ ∃ (vs : List (List Nat)) (o5 : Option V), H' Mw = some (.lst (txs vs)) ∧ vs.length ≤ 1 + k ∧ (∀ u ∈ vs, ItF sg u) ∧ σ = [some (.ref D), some (.str (S sg)), some (.int (m : Nat)), some (.ref L), some (.ref Mw), o5, none]) ⟨dk5, off4.trans off5, ws, _, zM5, by omega, hit, rfl⟩ (fun _ _ _ _ _ => trivial) ?_ ?_
    · rintro k x σ H6 H6' hk ⟨dk6, off6, vs, o5, zM6, hvl, hvs, rfl⟩ ⟨rfl, rfl⟩
      refine ⟨_, rfl, Or.inl ⟨rfl, _, SqL.of zM6⟩, ?_⟩
      refine ⟨_, rfl, _, rfl, D, C, _, .str (S sg), rfl, dk6, by omega, Or.inl ⟨sg, rfl, h0, by omega, fun H7 c hc dk7 off7 => ?_⟩⟩
      have zM7 := off7 _ _ n1 n2 zM6
      refine ⟨Mw, _, _, rfl, rfl, zM7, ?_, ?_⟩
      · rw [txs_len]
        exact sz_lt (by omega)
      have e9 : txs vs ++ [V.str (S [c])] = txs (vs ++ [[c]]) := (List.map_append (f := fun l : List Nat => V.str (S l)) (l₂ := [[c]])).symm
      rw [e9]
      refine ⟨((dk7.put n1 n2).mono (by omega)), (off6.trans off7).put hn, vs ++ [[c]], _, upd_same, by rw [List.length_append]; exact Nat.succ_le_succ hvl, fun u hu => ?_, rfl⟩
      rcases List.mem_append.mp hu with hu | hu
      · exact hvs u hu
      · rw [List.mem_singleton.mp hu]
        exact Or.inl ⟨c, hc, rfl⟩
    rintro σ H6 ⟨dk6, off6, vs, o5, zM6, hvl, hvs, rfl⟩
    refine ⟨_, rfl, _, _, rfl, Or.inl ⟨_, SqL.of zM6, rfl⟩, _, rfl, _, _, rfl, rfl, _, rfl, ?_⟩
    rw [txs_len]
    cases e1 : decide (((vs.length : Nat) : Int) < ((m : Nat) : Int)) with
    | false => exact ifF rfl (ifF rfl ⟨D, C, Mw, _, m, vs, rfl, rfl, rfl, dk6, by omega, zM6, n1, n2, hm3, fun H7 t us zt hul hus dk7 off7 => q H7 t us zt hul (fun u hu => hvs u (hus u hu)) (dk7.mono (by omega)) ((off3.trans off6).trans off7)⟩)
    | true =>
      refine ifT rfl ⟨_, rfl, D, C, _, 7, rfl, dk6, by omega, by decide, by decide, fun H7 r7 hr7 dk7 off7 => ⟨rfl, _, rfl, ?_⟩⟩
      have zM7 := off7 _ _ n1 n2 zM6
      cases e2 : decide (V.int ((r7 : Nat) : Int) = V.int 0) with
      | false => exact ifF rfl ⟨D, C, Mw, _, m, vs, rfl, rfl, rfl, dk7, by omega, zM7, n1, n2, hm3, fun H8 t us zt hul hus dk8 off8 => q H8 t us zt hul (fun u hu => hvs u (hus u hu)) (dk8.mono (by omega)) (((off3.trans off6).trans off7).trans off8)⟩
      | true =>
        refine ifT rfl ⟨_, rfl, Or.inl ⟨rfl, _, SqL.of zM7⟩, _, rfl, _, rfl, D, C, _, .str (S sg), rfl, dk7, by omega, Or.inl ⟨sg, rfl, h0, by omega, fun H8 c hc dk8 off8 => ?_⟩⟩
        have zM8 := off8 _ _ n1 n2 zM7
        refine ⟨_, _, rfl, rfl, sz_le (n := 2) (by decide), Mw, _, _, rfl, rfl, zM8, ?_, ?_⟩
        · rw [txs_len]
          exact sz_lt (by omega)
        rw [eq, SX.S_cat]
        have e9 : txs vs ++ [V.str (S ([63] ++ [c]))] = txs (vs ++ [[63, c]]) := (List.map_append (f := fun l : List Nat => V.str (S l)) (l₂ := [[63, c]])).symm
        rw [e9]
        refine ⟨D, C, Mw, _, m, vs ++ [[63, c]], rfl, rfl, rfl, dk8.put n1 n2, by omega, upd_same, n1, n2, hm3, fun H9 t us zt hul hus dk9 off9 => q H9 t us zt hul (fun u hu => ?_) (dk9.mono (by omega)) ((((off3.trans off6).trans (off7.trans off8)).put (off_none off3 dk3 hn)).trans off9)⟩
        rcases List.mem_append.mp (hus u hu) with h | h
        · exact hvs u h
        · rw [List.mem_singleton.mp h]
          exact Or.inr ⟨c, rfl, Or.inl hc⟩
end
end Lw

namespace Lw
open PySem PySem.Spec PyProof.Rows L2 Mq
open SX (S)
open PySem.W (EachIs)
open GxR (TabB TabG Tabbed)
/-! ### a shelf drawn -/
theorem each_snoc {α β : Type} {R : α → β → Prop} {x : α} {b : β} : ∀ {xs : List α} {bs : List β}, EachIs R xs bs → R x b → EachIs R (xs ++ [x]) (bs ++ [b])
  | _, _, .nil, h => .cons h .nil
  | _, _, .cons a t, h => .cons a (each_snoc t h)
def ShF (sg : List Nat) (wss : List (List (List Nat))) : Prop := 0 < wss.length ∧ wss.length ≤ 3 ∧ ∀ ws ∈ wss, ws.length ≤ 3 ∧ ∀ u ∈ ws, ItF sg u
theorem ItF.k {sg u : List Nat} (h : ItF sg u) (hq : ∀ c ∈ sg, c ≠ 63) : ItK u := by
  rcases h with ⟨c, hc, rfl⟩ | ⟨c, rfl, _⟩
  · exact Or.inl ⟨c, rfl, hq c hc⟩
  · exact Or.inr ⟨c, rfl⟩
def spLShf (K : PySem.W.Frag) : Sp := fun vs H Q _ => ∃ (D C : Addr) (T : Nat) (sg : List Nat), vs = [.ref D, .str (S sg)] ∧ DeckAt D C T H ∧ T ≤ 700000 ∧ 0 < sg.length ∧ sg.length ≤ 3 ∧ (∀ c ∈ sg, c ≠ 63) ∧
  ∀ H' b wss, ShAt K H' b wss → ShF sg wss → DeckAt D C (T + 100) H' → Off D C H H' → Q (.ref b) H'
section
variable {P : Program} {w : World} {K : PySem.W.Frag} {mg : Str → Option Value} {base : Heap}
theorem ok_lshf {f fD fW : Addr} {fd fdD fdW : FuncData} (F : Fun K "_law_shelf" "_law_shelf" s__law_shelf f fd) (B : Blt mg) (bM : mg "max" = none)
    (FD : Fun K "_law_draw" "_law_draw" s__law_draw fD fdD) (gD : mg "_law_draw" = some (.ref fD)) (bD : Binds K fdD ["_law_deck_here", "_law_below"] []) (GD : FnOk P w K mg base CX0 1 fD fdD ["_law_deck_here", "_law_below"] spDraw)
    (FW : Fun K "_law_weft" "_law_weft" s__law_weft fW fdW) (gW : mg "_law_weft" = some (.ref fW)) (bW : Binds K fdW ["_law_deck_here", "_law_letters", "_law_most"] []) (GW : FnOk P w K mg base CX0 3 fW fdW ["_law_deck_here", "_law_letters", "_law_most"] (spWft K)) :
    FnOk P w K mg base CX0 4 f fd ["_law_deck_here", "_law_letters"] (spLShf K) := by
  refine F.ok sc__law_shelf (fun vs H Q E h => ?_) (fun cdv A outer s H vs Q E hr h => ?_)
  · obtain ⟨_, _, _, _, rfl, _⟩ := h
    rfl
  · obtain ⟨D, C, T, sg, rfl, hdk, hT, h0, h3, hq, q⟩ := h
    refine ⟨_, (pss_cons (ps_set (i := 2) sc__law_shelf.nd rfl (Or.inl rfl) (pe_op op_add pe_int (pe_callB (call_max2 rfl) (by rfl) bM (by decide +kernel) (pa_cons (pe_call GD (hr.mono (by decide)) (by rfl) gD FD.kp bD .nil pass0 (pa_cons (pv 0) (pa_cons pe_int pa_nil))) (pa_cons (pe_call GD (hr.mono (by decide)) (by rfl) gD FD.kp bD .nil pass0 (pa_cons (pv 0) (pa_cons pe_int pa_nil))) pa_nil)))))
    (pss_one (ps_ret (pe_callTy call_tuple_of (by rfl) B.tuple (by decide +kernel) (pa_cons (pe_lc (own := [("_law_go", 3)]) (g := gName 3) (tt := tYes) rfl sc__law_shelf.nd (pi_range1 (by rfl) B.range (pa_cons (pv 2) pa_nil)) (blkOk_by (own := [("_law_go", 3)]) (N := ["_law_deck_here", "_law_letters", "_law_many", "_law_go"]) (sc := defScope s__law_shelf) (by decide +kernel)) (fun _ _ _ _ _ => pg_name (i := 3) sc__law_shelf.nd rfl (Or.inl rfl)) (fun _ _ _ _ _ => pts_nil) (fun _ _ _ _ _ => (pe_call GW (hr.mono (by decide)) (by rfl) gW FW.kp bW .nil pass0 (pa_cons (pv 0) (pa_cons (pv 1) (pa_cons (pe_ifExp (pt_cmpR op_eq (pv 3) pe_int (nomark _)) pe_int pe_int) pa_nil)))))) pa_nil))))), ?_⟩
    refine ⟨_, rfl, D, C, T, 3, rfl, hdk, by omega, by decide, by decide, fun H1 r1 hr1 dk1 off1 => ⟨_, rfl, D, C, _, 3, rfl, dk1, by omega, by decide, by decide, fun H2 r2 hr2 dk2 off2 => ?_⟩⟩
    obtain ⟨n, hn, hn0, hn3⟩ : ∃ n : Nat, (1 : Int) + (if ((r2 : Nat) : Int) > ((r1 : Nat) : Int) then ((r2 : Nat) : Int) else ((r1 : Nat) : Int)) = ((n : Nat) : Int) ∧ 0 < n ∧ n ≤ 3 := by
      by_cases hh : ((r2 : Nat) : Int) > ((r1 : Nat) : Int)
      · exact ⟨1 + r2, by rw [if_pos hh]; omega, by omega, by omega⟩
      · exact ⟨1 + r1, by rw [if_neg hh]; omega, by omega, by omega⟩
    refine ⟨_, _, rfl, 1, _, rfl, rfl, ?_⟩
    have off02 := off1.trans off2
    refine ⟨_, rfl, ((n : Nat) : Int), by rw [← hn], by omega, by omega, fun M hM => ?_⟩
    obtain ⟨n1, n2⟩ := new_ne dk2 hM
    refine lc_yes (walk_rng (n := n)) (fun i H' => DeckAt D C (T + 2 + 20 * i) H' ∧ Off D C H2 H' ∧ ∃ vs wss, H' M = some (.lst vs) ∧ EachIs (WfAt K H') vs wss ∧ wss.length = i ∧ ∀ ws ∈ wss, ws.length ≤ 3 ∧ ∀ u ∈ ws, ItF sg u) ⟨dk2.same (same_new hM), Off.same (same_new hM), [], [], upd_same, .nil, rfl, fun _ h => nomatch h⟩ (fun _ _ _ _ => trivial) ?_ ?_
    · rintro i x H3 H4 hi ⟨dk3, off3, vs, wss, zM, hwf, hwl, hwi⟩ ⟨rfl, rfl⟩
      have next : ∀ H5 t ws, SqT K H5 t (txs ws) → ws.length ≤ 3 → (∀ u ∈ ws, ItF sg u) → DeckAt D C (T + 2 + 20 * i + 20) H5 → Off D C H4 H5 → H5 M = some (.lst vs) ∧ vs.length < sizeLine ∧ DeckAt D C (T + 2 + 20 * (i + 1)) (upd H5 M (.lst (vs ++ [.ref t]))) ∧ Off D C H2 (upd H5 M (.lst (vs ++ [.ref t]))) ∧ ∃ vs' wss', (upd H5 M (.lst (vs ++ [.ref t]))) M = some (.lst vs') ∧ EachIs (WfAt K (upd H5 M (.lst (vs ++ [.ref t])))) vs' wss' ∧ wss'.length = i + 1 ∧ ∀ ws ∈ wss', ws.length ≤ 3 ∧ ∀ u ∈ ws, ItF sg u := fun H5 t ws zt hwl' hwi' dk5 off5 => by
        have kp5 : KpT K H4 H5 := KpT.off off5 dk3
        have zM5 := off5 _ _ n1 n2 zM
        have kp6 : KpT K H5 (upd H5 M (.lst (vs ++ [.ref t]))) := KpT.lst zM5
        refine ⟨zM5, ?_, (dk5.put n1 n2).mono (by omega), (off3.trans off5).put hM, vs ++ [.ref t], wss ++ [ws], upd_same, each_snoc (wfs_kp hwf (fun p ys h => kp6 _ _ (kp5 _ _ h))) ⟨t, rfl, kp6 _ _ zt⟩, by rw [List.length_append, hwl]; rfl, fun w hw => ?_⟩
        · have := each_len hwf
          exact sz_lt (by omega)
        · rcases List.mem_append.mp hw with h | h
          · exact hwi w h
          · rw [List.mem_singleton.mp h]
            exact ⟨hwl', hwi'⟩
      refine ⟨rfl, _, rfl, _, rfl, _, rfl, rfl, _, rfl, ?_⟩
      cases e1 : decide (V.int ((i : Nat) : Int) = V.int 0) with
      | false => exact ifF rfl ⟨D, C, _, 2, sg, rfl, dk3, by omega, h0, h3, by decide, by decide, fun H5 t ws zt a b c d => ⟨_, next H5 t ws zt a b c d⟩⟩
      | true => exact ifT rfl ⟨D, C, _, 3, sg, rfl, dk3, by omega, h0, h3, by decide, by decide, fun H5 t ws zt a b c d => ⟨_, next H5 t ws zt a b c d⟩⟩
    rintro H3 ⟨dk3, off3, vs, wss, zM, hwf, hwl, hwi⟩
    refine ⟨M, _, rfl, Or.inl ⟨SqL.of zM, fun t ht => ?_⟩⟩
    have s4 := same_new (o := HO.tup vs) ht
    exact q _ t wss ⟨⟨vs, Or.inl (Or.inl upd_same), wfs_kp hwf (KpT.same s4)⟩, fun ws hw => ⟨fun u hu => ((hwi ws hw).2 u hu).k hq, Nat.le_trans (hwi ws hw).1 (by decide)⟩⟩ ⟨by omega, by omega, hwi⟩ ((dk3.same s4).mono (by omega)) ((off02.trans off3).trans (Off.same s4))
end
end Lw

namespace Mq
open PySem PySem.Spec PyProof.Rows L2
/-! ### str of a whole number or a bool -/
theorem call_strIB {X : Cx} : CallR X (.type "str") (fun xs H Q => (∃ i, xs = [.int i] ∧ i.natAbs.log2 < 1920 ∧ Q (.str (toString i)) H) ∨ ∃ k : Bool, xs = [.bl k] ∧ Q (.str (if k = true then "True" else "False")) H) := by
  intro pins s σ H xs us Q I r h
  rcases h with h | h
  · exact call_str_int pins s σ H xs us Q I r h
  · exact call_strB pins s σ H xs us Q I r h
end Mq

namespace Lw
open PySem PySem.Spec PyProof.Rows L2 Mq
open SX (S)
/-! ### other values in the place of one -/
theorem none_same {H H' : Hp} {a : Addr} (s : Same H H') (h : H' a = none) : H a = none := by
  cases e : H a with
  | none => rfl
  | some o =>
    rw [s _ _ e] at h
    cases h
theorem none_of {H H' : Hp} {a : Addr} (s : Same H H') (h : H' a = none) : H a = none := none_same s h
def spOdd (K : PySem.W.Frag) : Sp := fun vs H Q _ => ∃ (D C : Addr) (T : Nat) (v : V) (d : PyData) (n b : Nat) (N : Addr → Prop), vs = [.ref D, v] ∧ DeckAt D C T H ∧ T ≤ 950000 ∧ Dv K N H v d ∧ (∀ a, N a → a ≠ D ∧ a ≠ C) ∧ OkD d.weight n d ∧ d.weight ≤ 20000 ∧ boxB b d = true ∧ b ≤ 5 ∧
  ∀ H' u, DeckAt D C (T + 1) H' → Off D C H H' → OdX K (fun a => N a ∨ H a = none) (2 * d.weight + 200) (n + 3) (b + 1) H' u → Q u H'
section
variable {P : Program} {w : World} {K : PySem.W.Frag} {mg : Str → Option Value} {base : Heap}
theorem ok_odd {f fP : Addr} {fd fdP : FuncData} (F : Fun K "_law_odd" "_law_odd" s__law_odd f fd) (B : Blt mg)
    (FP : Fun K "_law_pick" "_law_pick" s__law_pick fP fdP) (gP : mg "_law_pick" = some (.ref fP)) (bP : Binds K fdP ["_law_deck_here", "_law_some"] []) (GP : FnOk P w K mg base CX0 2 fP fdP ["_law_deck_here", "_law_some"] spPick) :
    FnOk P w K mg base CX0 3 f fd ["_law_deck_here", "_law_it"] (spOdd K) := by
  refine F.ok sc__law_odd (fun vs H Q E h => ?_) (fun cdv A outer s0 H vs Q E hr h => ?_)
  · obtain ⟨_, _, _, _, _, _, _, _, rfl, _⟩ := h
    rfl
  · obtain ⟨D, C, T, v, dv, nv, bv, N, rfl, hdk, hT, hv, hN, hok, hwv, hib, hbv, q⟩ := h
    refine ⟨_, (pss_cons (ps_set (i := 2) sc__law_odd.nd rfl (Or.inl rfl) (Mq.pe_ls (pa_cons pe_non (pa_cons pe_bl (pa_cons pe_bl (pa_cons pe_int (pa_cons pe_int (pa_cons pe_int (pa_cons (pe_un un_neg pe_int) (pa_cons (pe_op op_pow pe_int pe_int) (pa_cons pe_str (pa_cons pe_str (pa_cons pe_str (pa_cons pe_str (pa_cons pe_str (pa_cons pe_str (pa_cons pe_str (pa_cons (pe_tup pa_nil) (pa_cons (pe_tup (pa_cons pe_int pa_nil)) (pa_cons (pe_tup (pa_cons pe_int (pa_cons pe_str pa_nil))) (pa_cons (pe_tup (pa_cons (pe_tup pa_nil) (pa_cons (pe_tup pa_nil) pa_nil))) pa_nil)))))))))))))))))))))
      (pss_cons (ps_set (i := 2) sc__law_odd.nd rfl (Or.inl rfl) (pe_op op_cat (pv 2) (Mq.pe_ls (pa_cons (Mq.pe_ls pa_nil) (pa_cons pe_dnewK (pa_cons (pe_tup (pa_cons (pe_tup (pa_cons pe_int pa_nil)) (pa_cons (pe_tup pa_nil) pa_nil))) (pa_cons (pe_tup (pa_cons pe_int (pa_cons pe_str pa_nil))) (pa_cons (pe_tup (pa_cons (pe_tup (pa_cons pe_int pa_nil)) (pa_cons (pe_tup (pa_cons pe_int pa_nil)) pa_nil))) pa_nil))))))))
      (pss_cons (ps_if (pt_val (pe_callB call_isi (by rfl) B.isi (by decide +kernel) (pa_cons (pv 1) (pa_cons (pe_bltn (v := .ty "int") (by rfl) B.int (by decide +kernel) rfl) pa_nil)))) (pss_one (ps_set (i := 2) sc__law_odd.nd rfl (Or.inl rfl) (pe_op op_cat (pv 2) (pe_op op_rep (Mq.pe_ls (pa_cons (pe_op (op_or op_add op_addB) (pv 1) pe_int) (pa_cons (pe_op (op_or op_sub op_subB) (pv 1) pe_int) (pa_cons (pe_cmpR (op_or op_eq op_eqB) (pv 1) pe_int (nomark _)) (pa_cons (pe_callTy call_strIB (by rfl) B.str (by decide +kernel) (pa_cons (pv 1) pa_nil)) pa_nil))))) pe_int)))) pss_nil)
      (pss_cons (ps_if (pt_val (pe_callB call_isi (by rfl) B.isi (by decide +kernel) (pa_cons (pv 1) (pa_cons (pe_bltn (v := .ty "str") (by rfl) B.str (by decide +kernel) rfl) pa_nil)))) (pss_one (ps_set (i := 2) sc__law_odd.nd rfl (Or.inl rfl) (pe_op op_cat (pv 2) (pe_op op_rep (Mq.pe_ls (pa_cons (pe_op op_add_str (pv 1) pe_str) (pa_cons (pe_slice sl_str (pv 1) (po_some pe_int) po_none) (pa_cons (pe_tup (pa_cons (pv 1) pa_nil)) (pa_cons (pe_bm0 PySem.F.plainAttrs_str PySem.F.slot_str_upper PySem.F.type_str_upper mt_upper (pv 1)) pa_nil))))) pe_int)))) pss_nil)
      (pss_cons (ps_if (pt_val (pe_callB call_isi (by rfl) B.isi (by decide +kernel) (pa_cons (pv 1) (pa_cons (pe_bltn (v := .ty "tuple") (by rfl) B.tuple (by decide +kernel) rfl) pa_nil)))) (pss_one (ps_set (i := 2) sc__law_odd.nd rfl (Or.inl rfl) (pe_op op_cat (pv 2) (pe_op op_rep (Mq.pe_ls (pa_cons (pe_callTy call_lsN (by rfl) B.list (by decide +kernel) (pa_cons (pv 1) pa_nil)) (pa_cons (pe_slice sl_tupN (pv 1) (po_some pe_int) po_none) (pa_cons (pe_slice sl_tupN (pv 1) po_none (po_some (pe_un un_neg pe_int))) (pa_cons (pe_op op_catN (pv 1) (pe_slice sl_tupN (pv 1) (po_some (pe_un un_neg pe_int)) po_none)) (pa_cons (pe_revT (pv 1)) (pa_cons (pe_tup (pa_cons (pv 1) pa_nil)) pa_nil))))))) pe_int)))) pss_nil)
      (pss_one (ps_ret (pe_call GP (hr.mono (by decide)) (by rfl) gP FP.kp bP .nil pass0 (pa_cons (pv 0) (pa_cons (pv 2) pa_nil)))))))))), ?_⟩
    have hND : ∀ a, (N a ∨ H a = none) → a ≠ D ∧ a ≠ C := fun a ha => ha.elim (hN a) (new_ne hdk)
    have pick : ∀ (G : Hp) (ps : Addr) (xs : List V), Same H G → G ps = some (.lst xs) → H ps = none → 0 < xs.length → xs.length ≤ 1000 → (∀ v ∈ xs, OdX K (fun a => N a ∨ H a = none) (2 * dv.weight + 200) (nv + 3) (bv + 1) G v) → spPick [.ref D, .ref ps] G Q E := by
      intro G ps xs s2 zs hn h0 h1 hv
      refine ⟨D, C, T, .ref ps, rfl, hdk.same s2, by omega, Or.inr ⟨ps, xs, rfl, zs, (new_ne hdk hn).2, h0, by omega, fun H3 u hu dk3 off3 => ?_⟩⟩
      exact q H3 u dk3 ((Off.same s2).trans off3) ((hv u hu).kp (fun a o ha z => off3 a o (hND a ha).1 (hND a ha).2 z) fun a xs z => off3.tup (hdk.same s2) z)
    have s : Same H H := Same.refl H
    have to : ∀ {u : V} {d : PyData} {w m b : Nat} {H' : Hp}, Dv K (fun a => N a ∨ H a = none) H' u d → OkD w m d → boxB b d = true → w ≤ 2 * dv.weight + 200 → m ≤ nv + 3 → b ≤ bv + 1 → OdX K (fun a => N a ∨ H a = none) (2 * dv.weight + 200) (nv + 3) (bv + 1) H' u := fun h k i hw hm hb => ⟨_, h, k.mono hw hm, boxB_mono hb _ i⟩
    refine ⟨_, rfl, _, _, rfl, rfl, ⟨by decide, by decide, by decide⟩, sz_le (n := 0) (by decide), fun p1 hp1 => ?_⟩
    have tp1 := same_new (o := HO.tup []) hp1
    have zp1 : SqT K (upd H p1 (.tup [])) p1 [] := Or.inl (Or.inl upd_same)
    replace s := s.trans tp1
    generalize upd H p1 (.tup []) = G2 at zp1 s ⊢
    clear tp1
    refine ⟨sz_le (n := 1) (by decide), fun p3 hp3 => ?_⟩
    have tp3 := same_new (o := HO.tup [V.int 0]) hp3
    have zp3 : SqT K (upd G2 p3 (.tup [V.int 0])) p3 [V.int 0] := Or.inl (Or.inl upd_same)
    replace s := s.trans tp3
    replace zp1 := Same.tup tp3 zp1
    generalize upd G2 p3 (.tup [V.int 0]) = G4 at zp3 s zp1 ⊢
    clear tp3
    refine ⟨sz_le (n := 2) (by decide), fun p5 hp5 => ?_⟩
    have tp5 := same_new (o := HO.tup [V.int 0, .str "a"]) hp5
    have zp5 : SqT K (upd G4 p5 (.tup [V.int 0, .str "a"])) p5 [V.int 0, .str "a"] := Or.inl (Or.inl upd_same)
    replace s := s.trans tp5
    replace zp1 := Same.tup tp5 zp1
    replace zp3 := Same.tup tp5 zp3
    generalize upd G4 p5 (.tup [V.int 0, .str "a"]) = G6 at zp5 s zp1 zp3 ⊢
    clear tp5
    refine ⟨sz_le (n := 0) (by decide), fun p7 hp7 => ?_⟩
    have tp7 := same_new (o := HO.tup []) hp7
    have zp7 : SqT K (upd G6 p7 (.tup [])) p7 [] := Or.inl (Or.inl upd_same)
    replace s := s.trans tp7
    replace zp1 := Same.tup tp7 zp1
    replace zp3 := Same.tup tp7 zp3
    replace zp5 := Same.tup tp7 zp5
    generalize upd G6 p7 (.tup []) = G8 at zp7 s zp1 zp3 zp5 ⊢
    clear tp7
    refine ⟨sz_le (n := 0) (by decide), fun p9 hp9 => ?_⟩
    have tp9 := same_new (o := HO.tup []) hp9
    have zp9 : SqT K (upd G8 p9 (.tup [])) p9 [] := Or.inl (Or.inl upd_same)
    replace s := s.trans tp9
    replace zp1 := Same.tup tp9 zp1
    replace zp3 := Same.tup tp9 zp3
    replace zp5 := Same.tup tp9 zp5
    replace zp7 := Same.tup tp9 zp7
    generalize upd G8 p9 (.tup []) = G10 at zp9 s zp1 zp3 zp5 zp7 ⊢
    clear tp9
    refine ⟨sz_le (n := 2) (by decide), fun p11 hp11 => ?_⟩
    have tp11 := same_new (o := HO.tup [V.ref p7, .ref p9]) hp11
    have zp11 : SqT K (upd G10 p11 (.tup [V.ref p7, .ref p9])) p11 [V.ref p7, .ref p9] := Or.inl (Or.inl upd_same)
    replace s := s.trans tp11
    replace zp1 := Same.tup tp11 zp1
    replace zp3 := Same.tup tp11 zp3
    replace zp5 := Same.tup tp11 zp5
    replace zp7 := Same.tup tp11 zp7
    replace zp9 := Same.tup tp11 zp9
    generalize upd G10 p11 (.tup [V.ref p7, .ref p9]) = G12 at zp11 s zp1 zp3 zp5 zp7 zp9 ⊢
    clear tp11
    have all0 : ∀ v ∈ ([V.non, .bl true, .bl false, .int 0, .int 1, .int 2, .int (-1), .int ((10 : Int) ^ Int.toNat 39), .str "", .str "?", .str "a", .str "b", .str "?a", .str "ab", .str "z", .ref p1, .ref p3, .ref p5, .ref p11] : List V), OdX K (fun a => N a ∨ H a = none) (2 * dv.weight + 200) (nv + 3) (bv + 1) G12 v := by
      intro v hv
      simp only [List.mem_cons, List.not_mem_nil, or_false] at hv
      rcases hv with rfl | rfl | rfl | rfl | rfl | rfl | rfl | rfl | rfl | rfl | rfl | rfl | rfl | rfl | rfl | rfl | rfl | rfl | rfl
      · exact ⟨_, .non, (okD_of (by decide +kernel) : OkD 200 3 _).mono (by omega) (by omega), boxB_mono (by omega) _ (by decide +kernel : boxB 1 _ = true)⟩
      · exact ⟨_, .bl _, (okD_of (by decide +kernel) : OkD 200 3 _).mono (by omega) (by omega), boxB_mono (by omega) _ (by decide +kernel : boxB 1 _ = true)⟩
      · exact ⟨_, .bl _, (okD_of (by decide +kernel) : OkD 200 3 _).mono (by omega) (by omega), boxB_mono (by omega) _ (by decide +kernel : boxB 1 _ = true)⟩
      · exact ⟨_, .int _, (okD_of (by decide +kernel) : OkD 200 3 _).mono (by omega) (by omega), boxB_mono (by omega) _ (by decide +kernel : boxB 1 _ = true)⟩
      · exact ⟨_, .int _, (okD_of (by decide +kernel) : OkD 200 3 _).mono (by omega) (by omega), boxB_mono (by omega) _ (by decide +kernel : boxB 1 _ = true)⟩
      · exact ⟨_, .int _, (okD_of (by decide +kernel) : OkD 200 3 _).mono (by omega) (by omega), boxB_mono (by omega) _ (by decide +kernel : boxB 1 _ = true)⟩
      · exact ⟨_, .int _, (okD_of (by decide +kernel) : OkD 200 3 _).mono (by omega) (by omega), boxB_mono (by omega) _ (by decide +kernel : boxB 1 _ = true)⟩
      · exact ⟨_, .int _, (okD_of (by decide +kernel) : OkD 200 3 _).mono (by omega) (by omega), boxB_mono (by omega) _ (by decide +kernel : boxB 1 _ = true)⟩
      · exact ⟨_, .str _, (okD_of (by decide +kernel) : OkD 200 3 _).mono (by omega) (by omega), boxB_mono (by omega) _ (by decide +kernel : boxB 1 _ = true)⟩
      · exact ⟨_, .str _, (okD_of (by decide +kernel) : OkD 200 3 _).mono (by omega) (by omega), boxB_mono (by omega) _ (by decide +kernel : boxB 1 _ = true)⟩
      · exact ⟨_, .str _, (okD_of (by decide +kernel) : OkD 200 3 _).mono (by omega) (by omega), boxB_mono (by omega) _ (by decide +kernel : boxB 1 _ = true)⟩
      · exact ⟨_, .str _, (okD_of (by decide +kernel) : OkD 200 3 _).mono (by omega) (by omega), boxB_mono (by omega) _ (by decide +kernel : boxB 1 _ = true)⟩
      · exact ⟨_, .str _, (okD_of (by decide +kernel) : OkD 200 3 _).mono (by omega) (by omega), boxB_mono (by omega) _ (by decide +kernel : boxB 1 _ = true)⟩
      · exact ⟨_, .str _, (okD_of (by decide +kernel) : OkD 200 3 _).mono (by omega) (by omega), boxB_mono (by omega) _ (by decide +kernel : boxB 1 _ = true)⟩
      · exact ⟨_, .str _, (okD_of (by decide +kernel) : OkD 200 3 _).mono (by omega) (by omega), boxB_mono (by omega) _ (by decide +kernel : boxB 1 _ = true)⟩
      · exact ⟨_, .tup zp1 (.nil), (okD_of (by decide +kernel) : OkD 200 3 _).mono (by omega) (by omega), boxB_mono (by omega) _ (by decide +kernel : boxB 1 _ = true)⟩
      · exact ⟨_, .tup zp3 (.cons (.int _) (.nil)), (okD_of (by decide +kernel) : OkD 200 3 _).mono (by omega) (by omega), boxB_mono (by omega) _ (by decide +kernel : boxB 1 _ = true)⟩
      · exact ⟨_, .tup zp5 (.cons (.int _) (.cons (.str _) (.nil))), (okD_of (by decide +kernel) : OkD 200 3 _).mono (by omega) (by omega), boxB_mono (by omega) _ (by decide +kernel : boxB 1 _ = true)⟩
      · exact ⟨_, .tup zp11 (.cons (.tup zp7 (.nil)) (.cons (.tup zp9 (.nil)) (.nil))), (okD_of (by decide +kernel) : OkD 200 3 _).mono (by omega) (by omega), boxB_mono (by omega) _ (by decide +kernel : boxB 1 _ = true)⟩
    refine ⟨sz_le (n := 19) (by decide), fun p13 hp13 mp13 => ?_⟩
    have np13 : H p13 = none := none_of s hp13
    have tp13 := same_new (o := HO.lst [V.non, .bl true, .bl false, .int 0, .int 1, .int 2, .int (-1), .int ((10 : Int) ^ Int.toNat 39), .str "", .str "?", .str "a", .str "b", .str "?a", .str "ab", .str "z", .ref p1, .ref p3, .ref p5, .ref p11]) hp13
    have zp13 : upd G12 p13 (.lst [V.non, .bl true, .bl false, .int 0, .int 1, .int 2, .int (-1), .int ((10 : Int) ^ Int.toNat 39), .str "", .str "?", .str "a", .str "b", .str "?a", .str "ab", .str "z", .ref p1, .ref p3, .ref p5, .ref p11]) p13 = some (.lst [V.non, .bl true, .bl false, .int 0, .int 1, .int 2, .int (-1), .int ((10 : Int) ^ Int.toNat 39), .str "", .str "?", .str "a", .str "b", .str "?a", .str "ab", .str "z", .ref p1, .ref p3, .ref p5, .ref p11]) := upd_same
    replace s := s.trans tp13
    replace all0 := fun v hv => (all0 v hv).same tp13
    generalize upd G12 p13 (.lst [V.non, .bl true, .bl false, .int 0, .int 1, .int 2, .int (-1), .int ((10 : Int) ^ Int.toNat 39), .str "", .str "?", .str "a", .str "b", .str "?a", .str "ab", .str "z", .ref p1, .ref p3, .ref p5, .ref p11]) = G14 at zp13 s all0 ⊢
    clear tp13
    refine ⟨_, rfl, sz_le (n := 0) (by decide), fun p15 hp15 mp15 => ?_⟩
    have np15 : H p15 = none := none_of s hp15
    have tp15 := same_new (o := HO.lst []) hp15
    have zp15 : upd G14 p15 (.lst []) p15 = some (.lst []) := upd_same
    replace s := s.trans tp15
    replace all0 := fun v hv => (all0 v hv).same tp15
    replace zp13 := tp15 _ _ zp13
    generalize upd G14 p15 (.lst []) = G16 at zp15 s all0 zp13 ⊢
    clear tp15
    refine fun p17 hp17 => ?_
    have np17 : H p17 = none := none_of s hp17
    have tp17 := same_new (o := HO.dK []) hp17
    have zp17 : upd G16 p17 (.dK []) p17 = some (.dK []) := upd_same
    replace s := s.trans tp17
    replace all0 := fun v hv => (all0 v hv).same tp17
    replace zp13 := tp17 _ _ zp13
    replace zp15 := tp17 _ _ zp15
    generalize upd G16 p17 (.dK []) = G18 at zp17 s all0 zp13 zp15 ⊢
    clear tp17
    refine ⟨sz_le (n := 1) (by decide), fun p19 hp19 => ?_⟩
    have tp19 := same_new (o := HO.tup [V.int 0]) hp19
    have zp19 : SqT K (upd G18 p19 (.tup [V.int 0])) p19 [V.int 0] := Or.inl (Or.inl upd_same)
    replace s := s.trans tp19
    replace all0 := fun v hv => (all0 v hv).same tp19
    replace zp13 := tp19 _ _ zp13
    replace zp15 := tp19 _ _ zp15
    replace zp17 := tp19 _ _ zp17
    generalize upd G18 p19 (.tup [V.int 0]) = G20 at zp19 s all0 zp13 zp15 zp17 ⊢
    clear tp19
    refine ⟨sz_le (n := 0) (by decide), fun p21 hp21 => ?_⟩
    have tp21 := same_new (o := HO.tup []) hp21
    have zp21 : SqT K (upd G20 p21 (.tup [])) p21 [] := Or.inl (Or.inl upd_same)
    replace s := s.trans tp21
    replace all0 := fun v hv => (all0 v hv).same tp21
    replace zp13 := tp21 _ _ zp13
    replace zp15 := tp21 _ _ zp15
    replace zp17 := tp21 _ _ zp17
    replace zp19 := Same.tup tp21 zp19
    generalize upd G20 p21 (.tup []) = G22 at zp21 s all0 zp13 zp15 zp17 zp19 ⊢
    clear tp21
    refine ⟨sz_le (n := 2) (by decide), fun p23 hp23 => ?_⟩
    have tp23 := same_new (o := HO.tup [V.ref p19, .ref p21]) hp23
    have zp23 : SqT K (upd G22 p23 (.tup [V.ref p19, .ref p21])) p23 [V.ref p19, .ref p21] := Or.inl (Or.inl upd_same)
    replace s := s.trans tp23
    replace all0 := fun v hv => (all0 v hv).same tp23
    replace zp13 := tp23 _ _ zp13
    replace zp15 := tp23 _ _ zp15
    replace zp17 := tp23 _ _ zp17
    replace zp19 := Same.tup tp23 zp19
    replace zp21 := Same.tup tp23 zp21
    generalize upd G22 p23 (.tup [V.ref p19, .ref p21]) = G24 at zp23 s all0 zp13 zp15 zp17 zp19 zp21 ⊢
    clear tp23
    refine ⟨sz_le (n := 2) (by decide), fun p25 hp25 => ?_⟩
    have tp25 := same_new (o := HO.tup [V.int 0, .str "?"]) hp25
    have zp25 : SqT K (upd G24 p25 (.tup [V.int 0, .str "?"])) p25 [V.int 0, .str "?"] := Or.inl (Or.inl upd_same)
    replace s := s.trans tp25
    replace all0 := fun v hv => (all0 v hv).same tp25
    replace zp13 := tp25 _ _ zp13
    replace zp15 := tp25 _ _ zp15
    replace zp17 := tp25 _ _ zp17
    replace zp19 := Same.tup tp25 zp19
    replace zp21 := Same.tup tp25 zp21
    replace zp23 := Same.tup tp25 zp23
    generalize upd G24 p25 (.tup [V.int 0, .str "?"]) = G26 at zp25 s all0 zp13 zp15 zp17 zp19 zp21 zp23 ⊢
    clear tp25
    refine ⟨sz_le (n := 1) (by decide), fun p27 hp27 => ?_⟩
    have tp27 := same_new (o := HO.tup [V.int 1]) hp27
    have zp27 : SqT K (upd G26 p27 (.tup [V.int 1])) p27 [V.int 1] := Or.inl (Or.inl upd_same)
    replace s := s.trans tp27
    replace all0 := fun v hv => (all0 v hv).same tp27
    replace zp13 := tp27 _ _ zp13
    replace zp15 := tp27 _ _ zp15
    replace zp17 := tp27 _ _ zp17
    replace zp19 := Same.tup tp27 zp19
    replace zp21 := Same.tup tp27 zp21
    replace zp23 := Same.tup tp27 zp23
    replace zp25 := Same.tup tp27 zp25
    generalize upd G26 p27 (.tup [V.int 1]) = G28 at zp27 s all0 zp13 zp15 zp17 zp19 zp21 zp23 zp25 ⊢
    clear tp27
    refine ⟨sz_le (n := 1) (by decide), fun p29 hp29 => ?_⟩
    have tp29 := same_new (o := HO.tup [V.int 1]) hp29
    have zp29 : SqT K (upd G28 p29 (.tup [V.int 1])) p29 [V.int 1] := Or.inl (Or.inl upd_same)
    replace s := s.trans tp29
    replace all0 := fun v hv => (all0 v hv).same tp29
    replace zp13 := tp29 _ _ zp13
    replace zp15 := tp29 _ _ zp15
    replace zp17 := tp29 _ _ zp17
    replace zp19 := Same.tup tp29 zp19
    replace zp21 := Same.tup tp29 zp21
    replace zp23 := Same.tup tp29 zp23
    replace zp25 := Same.tup tp29 zp25
    replace zp27 := Same.tup tp29 zp27
    generalize upd G28 p29 (.tup [V.int 1]) = G30 at zp29 s all0 zp13 zp15 zp17 zp19 zp21 zp23 zp25 zp27 ⊢
    clear tp29
    refine ⟨sz_le (n := 2) (by decide), fun p31 hp31 => ?_⟩
    have tp31 := same_new (o := HO.tup [V.ref p27, .ref p29]) hp31
    have zp31 : SqT K (upd G30 p31 (.tup [V.ref p27, .ref p29])) p31 [V.ref p27, .ref p29] := Or.inl (Or.inl upd_same)
    replace s := s.trans tp31
    replace all0 := fun v hv => (all0 v hv).same tp31
    replace zp13 := tp31 _ _ zp13
    replace zp15 := tp31 _ _ zp15
    replace zp17 := tp31 _ _ zp17
    replace zp19 := Same.tup tp31 zp19
    replace zp21 := Same.tup tp31 zp21
    replace zp23 := Same.tup tp31 zp23
    replace zp25 := Same.tup tp31 zp25
    replace zp27 := Same.tup tp31 zp27
    replace zp29 := Same.tup tp31 zp29
    generalize upd G30 p31 (.tup [V.ref p27, .ref p29]) = G32 at zp31 s all0 zp13 zp15 zp17 zp19 zp21 zp23 zp25 zp27 zp29 ⊢
    clear tp31
    have all1 : ∀ v ∈ ([V.ref p15, .ref p17, .ref p23, .ref p25, .ref p31] : List V), OdX K (fun a => N a ∨ H a = none) (2 * dv.weight + 200) (nv + 3) (bv + 1) G32 v := by
      intro v hv
      simp only [List.mem_cons, List.not_mem_nil, or_false] at hv
      rcases hv with rfl | rfl | rfl | rfl | rfl
      · exact ⟨_, .lst (Or.inr np15) mp15 zp15 .nil, (okD_of (by decide +kernel) : OkD 200 3 _).mono (by omega) (by omega), boxB_mono (by omega) _ (by decide +kernel : boxB 1 _ = true)⟩
      · exact ⟨_, .dct (Or.inr np17) zp17, (okD_of (by decide +kernel) : OkD 200 3 _).mono (by omega) (by omega), boxB_mono (by omega) _ (by decide +kernel : boxB 1 _ = true)⟩
      · exact ⟨_, .tup zp23 (.cons (.tup zp19 (.cons (.int _) (.nil))) (.cons (.tup zp21 (.nil)) (.nil))), (okD_of (by decide +kernel) : OkD 200 3 _).mono (by omega) (by omega), boxB_mono (by omega) _ (by decide +kernel : boxB 1 _ = true)⟩
      · exact ⟨_, .tup zp25 (.cons (.int _) (.cons (.str _) (.nil))), (okD_of (by decide +kernel) : OkD 200 3 _).mono (by omega) (by omega), boxB_mono (by omega) _ (by decide +kernel : boxB 1 _ = true)⟩
      · exact ⟨_, .tup zp31 (.cons (.tup zp27 (.cons (.int _) (.nil))) (.cons (.tup zp29 (.cons (.int _) (.nil))) (.nil))), (okD_of (by decide +kernel) : OkD 200 3 _).mono (by omega) (by omega), boxB_mono (by omega) _ (by decide +kernel : boxB 1 _ = true)⟩
    refine ⟨sz_le (n := 5) (by decide), fun p33 hp33 mp33 => ?_⟩
    have np33 : H p33 = none := none_of s hp33
    have tp33 := same_new (o := HO.lst [V.ref p15, .ref p17, .ref p23, .ref p25, .ref p31]) hp33
    have zp33 : upd G32 p33 (.lst [V.ref p15, .ref p17, .ref p23, .ref p25, .ref p31]) p33 = some (.lst [V.ref p15, .ref p17, .ref p23, .ref p25, .ref p31]) := upd_same
    replace s := s.trans tp33
    replace all0 := fun v hv => (all0 v hv).same tp33
    replace zp13 := tp33 _ _ zp13
    replace all1 := fun v hv => (all1 v hv).same tp33
    generalize upd G32 p33 (.lst [V.ref p15, .ref p17, .ref p23, .ref p25, .ref p31]) = G34 at zp33 s all0 zp13 all1 ⊢
    clear tp33
    refine ⟨p13, p33, _, _, rfl, rfl, zp13, zp33, sz_le (n := 24) (by decide), fun q0 hq0 => ?_⟩
    have all0 : ∀ v ∈ ([V.non, .bl true, .bl false, .int 0, .int 1, .int 2, .int (-1), .int ((10 : Int) ^ Int.toNat 39), .str "", .str "?", .str "a", .str "b", .str "?a", .str "ab", .str "z", .ref p1, .ref p3, .ref p5, .ref p11] ++ [V.ref p15, .ref p17, .ref p23, .ref p25, .ref p31] : List V), OdX K (fun a => N a ∨ H a = none) (2 * dv.weight + 200) (nv + 3) (bv + 1) G34 v := fun v hv => (List.mem_append.mp hv).elim (all0 v) (all1 v)
    have hl0 : ([V.non, .bl true, .bl false, .int 0, .int 1, .int 2, .int (-1), .int ((10 : Int) ^ Int.toNat 39), .str "", .str "?", .str "a", .str "b", .str "?a", .str "ab", .str "z", .ref p1, .ref p3, .ref p5, .ref p11] ++ [V.ref p15, .ref p17, .ref p23, .ref p25, .ref p31] : List V).length = 24 := rfl
    generalize ([V.non, .bl true, .bl false, .int 0, .int 1, .int 2, .int (-1), .int ((10 : Int) ^ Int.toNat 39), .str "", .str "?", .str "a", .str "b", .str "?a", .str "ab", .str "z", .ref p1, .ref p3, .ref p5, .ref p11] ++ [V.ref p15, .ref p17, .ref p23, .ref p25, .ref p31] : List V) = zs0 at all0 hl0 hq0 ⊢
    clear all1 zp13 zp33
    have nq0 : H q0 = none := none_of s hq0
    have tq0 := same_new (o := HO.lst zs0) hq0
    have zq0 : upd G34 q0 (.lst zs0) q0 = some (.lst zs0) := upd_same
    replace s := s.trans tq0
    replace all0 := fun v hv => (all0 v hv).same tq0
    generalize upd G34 q0 (.lst zs0) = G35 at zq0 s all0 ⊢
    clear tq0
    cases hv with
    | non =>
      refine ⟨_, rfl, _, .ty "int", _, _, false, rfl, .ty _, .base .non, kit_ty (by decide +kernel), false, rfl, ifF rfl ?_⟩
      refine ⟨_, rfl, _, .ty "str", _, _, false, rfl, .ty _, .base .non, kit_ty (by decide +kernel), false, rfl, ifF rfl ?_⟩
      refine ⟨_, rfl, _, .ty "tuple", _, _, false, rfl, .ty _, .base .non, kit_ty (by decide +kernel), false, rfl, ifF rfl ?_⟩
      exact ⟨_, rfl, _, rfl, pick _ q0 _ s zq0 nq0 (by rw [hl0]; decide) (by rw [hl0]; decide) all0⟩
    | bl k =>
      refine ⟨_, rfl, _, .ty "int", _, _, true, rfl, .ty _, .base (.bl _), kit_ty (by decide +kernel), true, rfl, ifT rfl ?_⟩
      refine ⟨_, rfl, _, rfl, Or.inr ⟨_, _, rfl, rfl, ?_⟩⟩
      refine ⟨_, rfl, Or.inr ⟨_, _, rfl, rfl, ?_⟩⟩
      refine ⟨_, rfl, Or.inr ⟨_, _, rfl, rfl, ?_⟩⟩
      refine ⟨_, rfl, Or.inr ⟨_, rfl, ?_⟩⟩
      have five : ∀ v ∈ ([V.int (bI k + 1), .int (bI k - 1), .bl (bI k == 1), .str (if k = true then "True" else "False")] : List V), OdX K (fun a => N a ∨ H a = none) (2 * (PyData.bool k).weight + 200) (nv + 3) (bv + 1) G35 v := by
        intro v hv
        simp only [List.mem_cons, List.not_mem_nil, or_false] at hv
        rcases hv with rfl | rfl | rfl | rfl
        · exact to (b := bv + 1) (.int _) (okD_int2 (by cases k <;> decide)) (boxB_mono (by omega : 1 ≤ bv + 1) _ (by cases k <;> decide +kernel)) (by omega) (by omega) (by omega)
        · exact to (b := bv + 1) (.int _) (okD_int2 (by cases k <;> decide)) (boxB_mono (by omega : 1 ≤ bv + 1) _ (by cases k <;> decide +kernel)) (by omega) (by omega) (by omega)
        · exact to (.bl _) (w := 20) (m := 0) (b := 0) ⟨gs_bool _, rfl⟩ rfl (by omega) (by omega) (by omega)
        · cases k <;> exact to (.str _) (okD_of (by decide +kernel) : OkD 45 0 _) (b := 0) rfl (by omega) (by omega) (by omega)
      refine ⟨sz_le (n := 4) (by decide), fun p36 hp36 mp36 => ?_⟩
      have np36 : H p36 = none := none_of s hp36
      have tp36 := same_new (o := HO.lst [V.int (bI k + 1), .int (bI k - 1), .bl (bI k == 1), .str (if k = true then "True" else "False")]) hp36
      have zp36 : upd G35 p36 (.lst [V.int (bI k + 1), .int (bI k - 1), .bl (bI k == 1), .str (if k = true then "True" else "False")]) p36 = some (.lst [V.int (bI k + 1), .int (bI k - 1), .bl (bI k == 1), .str (if k = true then "True" else "False")]) := upd_same
      replace s := s.trans tp36
      replace all0 := fun v hv => (all0 v hv).same tp36
      replace zq0 := tp36 _ _ zq0
      replace five := fun v hv => (five v hv).same tp36
      generalize upd G35 p36 (.lst [V.int (bI k + 1), .int (bI k - 1), .bl (bI k == 1), .str (if k = true then "True" else "False")]) = G37 at zp36 s all0 zq0 five ⊢
      clear tp36
      have hf0 : ([V.int (bI k + 1), .int (bI k - 1), .bl (bI k == 1), .str (if k = true then "True" else "False")] : List V).length = 4 := rfl
      generalize ([V.int (bI k + 1), .int (bI k - 1), .bl (bI k == 1), .str (if k = true then "True" else "False")] : List V) = fs at five hf0 zp36 ⊢
      refine ⟨p36, 2, fs, rfl, rfl, zp36, by decide, by decide, sz_le (by show fs.length * 2 ≤ 1000000; omega), fun p8 hp8 => ?_⟩
      have t8 := same_new (o := HO.lst (List.replicate (2 : Int).toNat fs).flatten) hp8
      have hfl : (List.replicate (2 : Int).toNat fs).flatten.length = 8 := by
        rw [rep_len, hf0]
        rfl
      refine ⟨q0, p8, _, _, rfl, rfl, t8 _ _ zq0, upd_same, sz_le (by rw [hl0, hfl]; decide), fun p9 hp9 => ?_⟩
      have n9 := none_of (s.trans t8) hp9
      have t9 := same_new (o := HO.lst (zs0 ++ (List.replicate (2 : Int).toNat fs).flatten)) hp9
      have s := (s.trans t8).trans t9
      have all0 : ∀ v ∈ zs0 ++ (List.replicate (2 : Int).toNat fs).flatten, OdX K _ _ _ _ _ v := fun v hv => (List.mem_append.mp hv).elim (fun h => ((all0 v h).same t8).same t9) fun h => ((five v (mem_rep h)).same t8).same t9
      refine ⟨_, rfl, _, .ty "str", _, _, false, rfl, .ty _, .base (.bl _), kit_ty (by decide +kernel), false, rfl, ifF rfl ?_⟩
      refine ⟨_, rfl, _, .ty "tuple", _, _, false, rfl, .ty _, .base (.bl _), kit_ty (by decide +kernel), false, rfl, ifF rfl ?_⟩
      exact ⟨_, rfl, _, rfl, pick _ p9 _ s upd_same n9 (by rw [List.length_append, hl0, hfl]; decide) (by rw [List.length_append, hl0, hfl]; decide) all0⟩
    | int i =>
      have hi1 := boxB_get hib
      have h4 : (10 ^ 39 : Nat) + 100 ≤ 10 ^ 40 := by decide
      have hi2 : i.natAbs + 10 ≤ 10 ^ 40 := by omega
      refine ⟨_, rfl, _, .ty "int", _, _, true, rfl, .ty _, .base (.int _), kit_ty (by decide +kernel), true, rfl, ifT rfl ?_⟩
      refine ⟨_, rfl, _, rfl, Or.inl ⟨_, _, rfl, rfl, ?_⟩⟩
      refine ⟨_, rfl, Or.inl ⟨_, _, rfl, rfl, ?_⟩⟩
      refine ⟨_, rfl, Or.inl ⟨rfl, ?_⟩⟩
      refine ⟨_, rfl, Or.inl ⟨_, rfl, Nat.lt_trans (int_log2 (by omega)) (by decide), ?_⟩⟩
      obtain ⟨l, el, ll, lh⟩ := int_text2 (i := i) (by omega)
      rw [el]
      have five : ∀ v ∈ ([V.int (i + 1), .int (i - 1), .bl (decide (V.int i = V.int 1)), .str (S l)] : List V), OdX K (fun a => N a ∨ H a = none) (2 * (PyData.int i).weight + 200) (nv + 3) (bv + 1) G35 v := by
        intro v hv
        simp only [List.mem_cons, List.not_mem_nil, or_false] at hv
        rcases hv with rfl | rfl | rfl | rfl
        · exact to (b := bv + 1) (.int _) (okD_int2 (by omega)) (boxB_int (by omega)) (by omega) (by omega) (by omega)
        · exact to (b := bv + 1) (.int _) (okD_int2 (by omega)) (boxB_int (by omega)) (by omega) (by omega) (by omega)
        · exact to (.bl _) (w := 20) (m := 0) (b := 0) ⟨gs_bool _, rfl⟩ rfl (by omega) (by omega) (by omega)
        · exact to (.str _) (okD_str (w := 45) lh ll) (b := 0) rfl (by omega) (by omega) (by omega)
      refine ⟨sz_le (n := 4) (by decide), fun p36 hp36 mp36 => ?_⟩
      have np36 : H p36 = none := none_of s hp36
      have tp36 := same_new (o := HO.lst [V.int (i + 1), .int (i - 1), .bl (decide (V.int i = V.int 1)), .str (S l)]) hp36
      have zp36 : upd G35 p36 (.lst [V.int (i + 1), .int (i - 1), .bl (decide (V.int i = V.int 1)), .str (S l)]) p36 = some (.lst [V.int (i + 1), .int (i - 1), .bl (decide (V.int i = V.int 1)), .str (S l)]) := upd_same
      replace s := s.trans tp36
      replace all0 := fun v hv => (all0 v hv).same tp36
      replace zq0 := tp36 _ _ zq0
      replace five := fun v hv => (five v hv).same tp36
      generalize upd G35 p36 (.lst [V.int (i + 1), .int (i - 1), .bl (decide (V.int i = V.int 1)), .str (S l)]) = G37 at zp36 s all0 zq0 five ⊢
      clear tp36
      have hf0 : ([V.int (i + 1), .int (i - 1), .bl (decide (V.int i = V.int 1)), .str (S l)] : List V).length = 4 := rfl
      generalize ([V.int (i + 1), .int (i - 1), .bl (decide (V.int i = V.int 1)), .str (S l)] : List V) = fs at five hf0 zp36 ⊢
      refine ⟨p36, 2, fs, rfl, rfl, zp36, by decide, by decide, sz_le (by show fs.length * 2 ≤ 1000000; omega), fun p8 hp8 => ?_⟩
      have t8 := same_new (o := HO.lst (List.replicate (2 : Int).toNat fs).flatten) hp8
      have hfl : (List.replicate (2 : Int).toNat fs).flatten.length = 8 := by
        rw [rep_len, hf0]
        rfl
      refine ⟨q0, p8, _, _, rfl, rfl, t8 _ _ zq0, upd_same, sz_le (by rw [hl0, hfl]; decide), fun p9 hp9 => ?_⟩
      have n9 := none_of (s.trans t8) hp9
      have t9 := same_new (o := HO.lst (zs0 ++ (List.replicate (2 : Int).toNat fs).flatten)) hp9
      have s := (s.trans t8).trans t9
      have all0 : ∀ v ∈ zs0 ++ (List.replicate (2 : Int).toNat fs).flatten, OdX K _ _ _ _ _ v := fun v hv => (List.mem_append.mp hv).elim (fun h => ((all0 v h).same t8).same t9) fun h => ((five v (mem_rep h)).same t8).same t9
      refine ⟨_, rfl, _, .ty "str", _, _, false, rfl, .ty _, .base (.int _), kit_ty (by decide +kernel), false, rfl, ifF rfl ?_⟩
      refine ⟨_, rfl, _, .ty "tuple", _, _, false, rfl, .ty _, .base (.int _), kit_ty (by decide +kernel), false, rfl, ifF rfl ?_⟩
      exact ⟨_, rfl, _, rfl, pick _ p9 _ s upd_same n9 (by rw [List.length_append, hl0, hfl]; decide) (by rw [List.length_append, hl0, hfl]; decide) all0⟩
    | str x =>
      obtain ⟨l, rfl⟩ : ∃ l, x = S l := ⟨x.cps.toList, (Mq.S_of x).symm⟩
      have hlow : ∀ c ∈ l, c < 128 := hok.text.2
      have hlw : (PyData.str (S l)).weight = l.length := rfl
      rw [hlw] at hwv to
      have hl9 : (S l).length ≤ 20000 := by
        rw [SX.S_len]
        exact hwv
      have low1 : ∀ cs : List Nat, (∀ c ∈ cs, c < 128) → OkD (l.length + cs.length) 0 (.str (S (l ++ cs))) := fun cs h3 => okD_str (fun x hx => (List.mem_append.mp hx).elim (hlow x) (h3 x)) (by rw [List.length_append]; exact Nat.le_refl _)
      refine ⟨_, rfl, _, .ty "int", _, _, false, rfl, .ty _, .base (.str _), kit_ty (by decide +kernel), false, rfl, ifF rfl ?_⟩
      refine ⟨_, rfl, _, .ty "str", _, _, true, rfl, .ty _, .base (.str _), kit_ty (by decide +kernel), true, rfl, ifT rfl ?_⟩
      refine ⟨_, rfl, _, rfl, S l, "a", rfl, rfl, sz_le (by rw [show ("a" : Str).length = 1 by decide +kernel]; omega), ?_⟩
      rw [show (S l ++ "a" : Str) = S (l ++ [97]) by rw [show ("a" : Str) = S [97] by decide +kernel, SX.S_cat]]
      refine ⟨_, rfl, _, rfl, S l, rfl, sz_le (by omega), ?_⟩
      rw [show cutS (S l) (some 1) none = S (l.drop 1) from cutS_from l 1]
      refine ⟨_, rfl, sz_le (n := 1) (by decide), fun p36 hp36 => ?_⟩
      have tp36 := same_new (o := HO.tup [V.str (S l)]) hp36
      have zp36 : SqT K (upd G35 p36 (.tup [V.str (S l)])) p36 [V.str (S l)] := Or.inl (Or.inl upd_same)
      replace s := s.trans tp36
      replace all0 := fun v hv => (all0 v hv).same tp36
      replace zq0 := tp36 _ _ zq0
      generalize upd G35 p36 (.tup [V.str (S l)]) = G37 at zp36 s all0 zq0 ⊢
      clear tp36
      obtain ⟨lu, eu, ul, uh⟩ := upper_low l hlow
      refine ⟨_, rfl, rfl, S l, rfl, rfl, by omega, ?_⟩
      rw [eu]
      have five : ∀ v ∈ ([V.str (S (l ++ [97])), .str (S (l.drop 1)), .ref p36, .str (S lu)] : List V), OdX K (fun a => N a ∨ H a = none) (2 * l.length + 200) (nv + 3) (bv + 1) G37 v := by
        intro v hv
        simp only [List.mem_cons, List.not_mem_nil, or_false] at hv
        rcases hv with rfl | rfl | rfl | rfl
        · exact to (.str _) (low1 [97] (by decide)) (b := 0) rfl (by show l.length + 1 ≤ _; omega) (by omega) (by omega)
        · exact to (.str _) (okD_str (w := l.length) (fun c hc => hlow c (List.mem_of_mem_drop hc)) (by rw [List.length_drop]; omega)) (b := 0) rfl (by omega) (by omega) (by omega)
        · exact to (.tup zp36 (.cons (.str _) .nil)) (LsOk.cons (okD_str (w := l.length) hlow (Nat.le_refl _)) (LsOk.nil (w := 0))).tup (b := 1) rfl (by omega) (by omega) (by omega)
        · exact to (.str _) (okD_str (w := l.length) uh (by omega)) (b := 0) rfl (by omega) (by omega) (by omega)
      refine ⟨sz_le (n := 4) (by decide), fun p38 hp38 mp38 => ?_⟩
      have np38 : H p38 = none := none_of s hp38
      have tp38 := same_new (o := HO.lst [V.str (S (l ++ [97])), .str (S (l.drop 1)), .ref p36, .str (S lu)]) hp38
      have zp38 : upd G37 p38 (.lst [V.str (S (l ++ [97])), .str (S (l.drop 1)), .ref p36, .str (S lu)]) p38 = some (.lst [V.str (S (l ++ [97])), .str (S (l.drop 1)), .ref p36, .str (S lu)]) := upd_same
      replace s := s.trans tp38
      replace all0 := fun v hv => (all0 v hv).same tp38
      replace zq0 := tp38 _ _ zq0
      replace five := fun v hv => (five v hv).same tp38
      generalize upd G37 p38 (.lst [V.str (S (l ++ [97])), .str (S (l.drop 1)), .ref p36, .str (S lu)]) = G39 at zp38 s all0 zq0 five ⊢
      clear tp38
      have hf0 : ([V.str (S (l ++ [97])), .str (S (l.drop 1)), .ref p36, .str (S lu)] : List V).length = 4 := rfl
      generalize ([V.str (S (l ++ [97])), .str (S (l.drop 1)), .ref p36, .str (S lu)] : List V) = fs at five hf0 zp38 ⊢
      refine ⟨p38, 2, fs, rfl, rfl, zp38, by decide, by decide, sz_le (by show fs.length * 2 ≤ 1000000; omega), fun p8 hp8 => ?_⟩
      have t8 := same_new (o := HO.lst (List.replicate (2 : Int).toNat fs).flatten) hp8
      have hfl : (List.replicate (2 : Int).toNat fs).flatten.length = 8 := by
        rw [rep_len, hf0]
        rfl
      refine ⟨q0, p8, _, _, rfl, rfl, t8 _ _ zq0, upd_same, sz_le (by rw [hl0, hfl]; decide), fun p9 hp9 => ?_⟩
      have n9 := none_of (s.trans t8) hp9
      have t9 := same_new (o := HO.lst (zs0 ++ (List.replicate (2 : Int).toNat fs).flatten)) hp9
      have s := (s.trans t8).trans t9
      have all0 : ∀ v ∈ zs0 ++ (List.replicate (2 : Int).toNat fs).flatten, OdX K _ _ _ _ _ v := fun v hv => (List.mem_append.mp hv).elim (fun h => ((all0 v h).same t8).same t9) fun h => ((five v (mem_rep h)).same t8).same t9
      refine ⟨_, rfl, _, .ty "tuple", _, _, false, rfl, .ty _, .base (.str _), kit_ty (by decide +kernel), false, rfl, ifF rfl ?_⟩
      exact ⟨_, rfl, _, rfl, pick _ p9 _ s upd_same n9 (by rw [List.length_append, hl0, hfl]; decide) (by rw [List.length_append, hl0, hfl]; decide) all0⟩
    | @lst p xs ds na nm hz hd =>
      refine ⟨_, rfl, _, .ty "int", _, _, false, rfl, .ty _, ty_list (SqL.of (s _ _ hz)), kit_ty (by decide +kernel), false, rfl, ifF rfl ?_⟩
      refine ⟨_, rfl, _, .ty "str", _, _, false, rfl, .ty _, ty_list (SqL.of (s _ _ hz)), kit_ty (by decide +kernel), false, rfl, ifF rfl ?_⟩
      refine ⟨_, rfl, _, .ty "tuple", _, _, false, rfl, .ty _, ty_list (SqL.of (s _ _ hz)), kit_ty (by decide +kernel), false, rfl, ifF rfl ?_⟩
      exact ⟨_, rfl, _, rfl, pick _ q0 _ s zq0 nq0 (by rw [hl0]; decide) (by rw [hl0]; decide) all0⟩
    | @tup p xs ds hz htd =>
      obtain ⟨m, rfl, lo⟩ := hok.tup
      have hW : (PyData.tuple ds).weight = PyData.weightAll ds := rfl
      rw [hW] at hwv to lo
      have hlen : xs.length ≤ 20000 := by
        rw [htd.len]
        exact Nat.le_trans lo.len hwv
      have dvs : ∀ {H' : Hp}, Same H H' → DvAll K (fun a => N a ∨ H a = none) H' xs ds := fun e => (htd.same e).mono fun _ h => Or.inl h
      refine ⟨_, rfl, _, .ty "int", _, _, false, rfl, .ty _, ty_tup (Same.tup s hz), kit_ty (by decide +kernel), false, rfl, ifF rfl ?_⟩
      refine ⟨_, rfl, _, .ty "str", _, _, false, rfl, .ty _, ty_tup (Same.tup s hz), kit_ty (by decide +kernel), false, rfl, ifF rfl ?_⟩
      refine ⟨_, rfl, _, .ty "tuple", _, _, true, rfl, .ty _, ty_tup (Same.tup s hz), kit_ty (by decide +kernel), true, rfl, ifT rfl ?_⟩
      refine ⟨_, rfl, _, rfl, _, _, rfl, Same.tup s hz, fun p36 hp36 mp36 => ?_⟩
      have np36 : H p36 = none := none_of s hp36
      have tp36 := same_new (o := HO.lst xs) hp36
      have zp36 : upd G35 p36 (.lst xs) p36 = some (.lst xs) := upd_same
      replace s := s.trans tp36
      replace all0 := fun v hv => (all0 v hv).same tp36
      replace zq0 := tp36 _ _ zq0
      generalize upd G35 p36 (.lst xs) = G37 at zp36 s all0 zq0 ⊢
      clear tp36
      refine ⟨_, rfl, _, rfl, _, _, rfl, Same.tup s hz, fun p38 G39 tp38 zp38 => ?_⟩
      replace s := s.trans tp38
      replace all0 := fun v hv => (all0 v hv).same tp38
      replace zq0 := tp38 _ _ zq0
      replace zp36 := tp38 _ _ zp36
      clear tp38
      refine ⟨_, rfl, _, rfl, _, rfl, _, _, rfl, Same.tup s hz, fun p40 G41 tp40 zp40 => ?_⟩
      replace s := s.trans tp40
      replace all0 := fun v hv => (all0 v hv).same tp40
      replace zq0 := tp40 _ _ zq0
      replace zp36 := tp40 _ _ zp36
      replace zp38 := Same.tup tp40 zp38
      clear tp40
      refine ⟨_, rfl, _, rfl, _, rfl, _, rfl, _, _, rfl, Same.tup s hz, fun p42 G43 tp42 zp42 => ?_⟩
      replace s := s.trans tp42
      replace all0 := fun v hv => (all0 v hv).same tp42
      replace zq0 := tp42 _ _ zq0
      replace zp36 := tp42 _ _ zp36
      replace zp38 := Same.tup tp42 zp38
      replace zp40 := Same.tup tp42 zp40
      clear tp42
      refine ⟨_, p42, _, _, rfl, rfl, Same.tup s hz, zp42, sz_le (Nat.le_trans (Nat.add_le_add_left (cutV_length _ _ _) _) (by omega)), fun p44 G45 tp44 zp44 => ?_⟩
      replace s := s.trans tp44
      replace all0 := fun v hv => (all0 v hv).same tp44
      replace zq0 := tp44 _ _ zq0
      replace zp36 := tp44 _ _ zp36
      replace zp38 := Same.tup tp44 zp38
      replace zp40 := Same.tup tp44 zp40
      replace zp42 := Same.tup tp44 zp42
      clear tp44
      refine ⟨_, rfl, _, _, rfl, Same.tup s hz, fun p46 hp46 => ?_⟩
      have tp46 := same_new (o := HO.tup xs.reverse) hp46
      have zp46 : SqT K (upd G45 p46 (.tup xs.reverse)) p46 xs.reverse := Or.inl (Or.inl upd_same)
      replace s := s.trans tp46
      replace all0 := fun v hv => (all0 v hv).same tp46
      replace zq0 := tp46 _ _ zq0
      replace zp36 := tp46 _ _ zp36
      replace zp38 := Same.tup tp46 zp38
      replace zp40 := Same.tup tp46 zp40
      replace zp42 := Same.tup tp46 zp42
      replace zp44 := Same.tup tp46 zp44
      generalize upd G45 p46 (.tup xs.reverse) = G47 at zp46 s all0 zq0 zp36 zp38 zp40 zp42 zp44 ⊢
      clear tp46
      refine ⟨_, rfl, sz_le (n := 1) (by decide), fun p48 hp48 => ?_⟩
      have tp48 := same_new (o := HO.tup [V.ref p]) hp48
      have zp48 : SqT K (upd G47 p48 (.tup [V.ref p])) p48 [V.ref p] := Or.inl (Or.inl upd_same)
      replace s := s.trans tp48
      replace all0 := fun v hv => (all0 v hv).same tp48
      replace zq0 := tp48 _ _ zq0
      replace zp36 := tp48 _ _ zp36
      replace zp38 := Same.tup tp48 zp38
      replace zp40 := Same.tup tp48 zp40
      replace zp42 := Same.tup tp48 zp42
      replace zp44 := Same.tup tp48 zp44
      replace zp46 := Same.tup tp48 zp46
      generalize upd G47 p48 (.tup [V.ref p]) = G49 at zp48 s all0 zq0 zp36 zp38 zp40 zp42 zp44 zp46 ⊢
      clear tp48
      have five : ∀ v ∈ ([V.ref p36, .ref p38, .ref p40, .ref p44, .ref p46, .ref p48] : List V), OdX K (fun a => N a ∨ H a = none) (2 * PyData.weightAll ds + 200) (m + 1 + 3) (bv + 1) G49 v := by
        intro v hv
        simp only [List.mem_cons, List.not_mem_nil, or_false] at hv
        rcases hv with rfl | rfl | rfl | rfl | rfl | rfl
        · exact to (.lst (Or.inr np36) mp36 zp36 (dvs s)) lo.lst (b := 0) rfl (by omega) (by omega) (by omega)
        · obtain ⟨es, sb, dve⟩ := (dvs s).cut (some 1) none
          exact to (.tup zp38 dve) (lo.sub sb).tup (boxT_sub sb hib) (by omega) (by omega) (by omega)
        · obtain ⟨es, sb, dve⟩ := (dvs s).cut none (some (-1))
          exact to (.tup zp40 dve) (lo.sub sb).tup (boxT_sub sb hib) (by omega) (by omega) (by omega)
        · obtain ⟨es, sb, dve⟩ := (dvs s).cut (some (-1)) none
          exact to (.tup zp44 ((dvs s).app dve)) (lo.app (lo.sub sb)).tup (boxT_more sb (by have h1 := dve.len; have h2 := last_cut xs; omega) hib) (by omega) (by omega) (by omega)
        · exact to (.tup zp46 (dvs s).rev) lo.rev.tup (boxT_rev hib) (by omega) (by omega) (by omega)
        · exact to (.tup zp48 (.cons (.tup (Same.tup s hz) (dvs s)) .nil)) (LsOk.cons lo.tup (LsOk.nil (w := 0))).tup (boxT_one hib) (by omega) (by omega) (by omega)
      refine ⟨sz_le (n := 6) (by decide), fun p50 hp50 mp50 => ?_⟩
      have np50 : H p50 = none := none_of s hp50
      have tp50 := same_new (o := HO.lst [V.ref p36, .ref p38, .ref p40, .ref p44, .ref p46, .ref p48]) hp50
      have zp50 : upd G49 p50 (.lst [V.ref p36, .ref p38, .ref p40, .ref p44, .ref p46, .ref p48]) p50 = some (.lst [V.ref p36, .ref p38, .ref p40, .ref p44, .ref p46, .ref p48]) := upd_same
      replace s := s.trans tp50
      replace all0 := fun v hv => (all0 v hv).same tp50
      replace zq0 := tp50 _ _ zq0
      replace five := fun v hv => (five v hv).same tp50
      generalize upd G49 p50 (.lst [V.ref p36, .ref p38, .ref p40, .ref p44, .ref p46, .ref p48]) = G51 at zp50 s all0 zq0 five ⊢
      clear tp50
      have hf0 : ([V.ref p36, .ref p38, .ref p40, .ref p44, .ref p46, .ref p48] : List V).length = 6 := rfl
      generalize ([V.ref p36, .ref p38, .ref p40, .ref p44, .ref p46, .ref p48] : List V) = fs at five hf0 zp50 ⊢
      refine ⟨p50, 2, fs, rfl, rfl, zp50, by decide, by decide, sz_le (by show fs.length * 2 ≤ 1000000; omega), fun p8 hp8 => ?_⟩
      have t8 := same_new (o := HO.lst (List.replicate (2 : Int).toNat fs).flatten) hp8
      have hfl : (List.replicate (2 : Int).toNat fs).flatten.length = 12 := by
        rw [rep_len, hf0]
        rfl
      refine ⟨q0, p8, _, _, rfl, rfl, t8 _ _ zq0, upd_same, sz_le (by rw [hl0, hfl]; decide), fun p9 hp9 => ?_⟩
      have n9 := none_of (s.trans t8) hp9
      have t9 := same_new (o := HO.lst (zs0 ++ (List.replicate (2 : Int).toNat fs).flatten)) hp9
      have s := (s.trans t8).trans t9
      have all0 : ∀ v ∈ zs0 ++ (List.replicate (2 : Int).toNat fs).flatten, OdX K _ _ _ _ _ v := fun v hv => (List.mem_append.mp hv).elim (fun h => ((all0 v h).same t8).same t9) fun h => ((five v (mem_rep h)).same t8).same t9
      exact ⟨_, rfl, _, rfl, pick _ p9 _ s upd_same n9 (by rw [List.length_append, hl0, hfl]; decide) (by rw [List.length_append, hl0, hfl]; decide) all0⟩
    | @dct p na hz =>
      refine ⟨_, rfl, _, .ty "int", _, _, false, rfl, .ty _, .base (.dK (s _ _ hz)), kit_ty (by decide +kernel), false, rfl, ifF rfl ?_⟩
      refine ⟨_, rfl, _, .ty "str", _, _, false, rfl, .ty _, .base (.dK (s _ _ hz)), kit_ty (by decide +kernel), false, rfl, ifF rfl ?_⟩
      refine ⟨_, rfl, _, .ty "tuple", _, _, false, rfl, .ty _, .base (.dK (s _ _ hz)), kit_ty (by decide +kernel), false, rfl, ifF rfl ?_⟩
      exact ⟨_, rfl, _, rfl, pick _ q0 _ s zq0 nq0 (by rw [hl0]; decide) (by rw [hl0]; decide) all0⟩
end
end Lw

namespace Lw
open PySem PySem.Spec PyProof.Rows L2 Mq
open SX (S)
/-! ### a value with something otherwise, at any depth -/
theorem none_off {D C : Addr} {T : Nat} {H H' : Hp} {p : Addr} (e : Off D C H H') (k : DeckAt D C T H') (h : H' p = none) : H p = none := by
  obtain ⟨a, b⟩ := new_ne k h
  cases x : H p with
  | none => rfl
  | some o =>
    rw [e _ _ a b x] at h
    cases h
theorem pt_dead {X : Cx} {e : Expr} : PT X e (fun _ _ _ => False) := ⟨fun _ _ _ _ _ _ h => h.elim⟩
def spSpoilt (K : PySem.W.Frag) (n : Nat) : Sp := fun vs H Q _ => ∃ (D C : Addr) (T : Nat) (v : V) (d : PyData) (m b : Nat) (N : Addr → Prop), vs = [.ref D, v] ∧ DeckAt D C T H ∧ T + 4 * (n + 1) ≤ 900000 ∧ Dv K N H v d ∧ (∀ a, N a → a ≠ D ∧ a ≠ C) ∧ OkD d.weight m d ∧ d.weight ≤ 20000 ∧ m ≤ n ∧ boxB b d = true ∧ b ≤ 5 ∧
  ∀ H' u T', T' ≤ T + 4 * (n + 1) → DeckAt D C T' H' → Off D C H H' → OdX K (fun a => N a ∨ H a = none) (2 * d.weight + 200) (m + 3) (b + 1) H' u → Q u H'
section
variable {P : Program} {w : World} {K : PySem.W.Frag} {mg : Str → Option Value} {base : Heap}
theorem dv_ty {N : Addr → Prop} {H : Hp} {v : V} {d : PyData} (h : Dv K N H v d) (nt : ∀ ds, d ≠ .tuple ds) : ∃ a, TyX K H v (.type a) ∧ a ∈ sevenT ∧ a ≠ "tuple" := by
  cases h with
  | non => exact ⟨_, .base .non, by decide, by decide⟩
  | bl b => exact ⟨_, .base (.bl _), by decide, by decide⟩
  | int i => exact ⟨_, .base (.int _), by decide, by decide⟩
  | str x => exact ⟨_, .base (.str x), by decide, by decide⟩
  | lst _ _ h _ => exact ⟨_, ty_list (SqL.of h), by decide, by decide⟩
  | tup _ _ => exact (nt _ rfl).elim
  | dct _ h => exact ⟨_, .base (.dK h), by decide, by decide⟩
theorem ok_spoilt0 {f fO : Addr} {fd fdO : FuncData} (F : Fun K "_law_spoilt" "_law_spoilt" s__law_spoilt f fd) (B : Blt mg)
    (FO : Fun K "_law_odd" "_law_odd" s__law_odd fO fdO) (gO : mg "_law_odd" = some (.ref fO)) (bO : Binds K fdO ["_law_deck_here", "_law_it"] []) (GO : FnOk P w K mg base CX0 3 fO fdO ["_law_deck_here", "_law_it"] (spOdd K)) :
    FnOk P w K mg base CX0 4 f fd ["_law_deck_here", "_law_it"] (spSpoilt K 0) := by
  refine F.ok sc__law_spoilt (fun vs H Q E h => ?_) (fun cdv A outer s H vs Q E hr h => ?_)
  · obtain ⟨_, _, _, _, _, _, _, _, rfl, _⟩ := h
    rfl
  · obtain ⟨D, C, T, v, d, m, b, N, rfl, hdk, hT, htd, hN, hok, hw, hn, hib, hb, q⟩ := h
    have hu0 : (A.deeper (envOfC "_law_spoilt" (defScope s__law_spoilt) s.heap.objs.size f cdv)).units < cLine := by
      have := hr.un
      omega
    refine ⟨_, (pss_cons (ps_if (PW.pt (pw_or (pt_not (pt_val (pe_callB call_isi (by rfl) B.isi (by decide +kernel) (pa_cons (pv 1) (pa_cons (pe_bltn (v := .ty "tuple") (by rfl) B.tuple (by decide +kernel) rfl) pa_nil))))) (pw_or (pt_cmpR (op_eqTup0 hu0) (pv 1) (pe_tup pa_nil) (nomark _)) (pw_or1 pt_dead)))) (pss_one (ps_ret (pe_call GO (hr.mono (by decide)) (by rfl) gO FO.kp bO .nil pass0 (pa_cons (pv 0) (pa_cons (pv 1) pa_nil))))) pss_nil)
      (pss_cons ps_dead (pss_one ps_dead))), ?_⟩
    have odd : ∀ (H1 : Hp), Same H H1 → spOdd K [.ref D, v] H1 Q E := by
      intro H1 s1
      refine ⟨D, C, T, v, d, m, b, N, rfl, hdk.same s1, by omega, htd.same s1, hN, hok, hw, hib, hb, fun H2 u dk2 off2 od => ?_⟩
      exact q H2 u _ (by omega) dk2 ((Off.same s1).trans off2) (od.mono (fun x hx => hx.imp id (none_same s1)) (by omega) (by omega) (by omega))
    have nt : ∀ ds, d ≠ .tuple ds := by
      rintro ds rfl
      obtain ⟨m', e, _⟩ := hok.tup
      omega
    obtain ⟨a, t, m, n⟩ := dv_ty htd nt
    exact ⟨_, rfl, _, .ty "tuple", _, _, false, rfl, .ty _, t, kit_noT m n, false, rfl, ifT rfl (ifT rfl ⟨_, rfl, _, rfl, odd H (Same.refl H)⟩)⟩
theorem ok_spoiltS {f fO fD : Addr} {fd fdO fdD : FuncData} {k : Nat} (F : Fun K "_law_spoilt" "_law_spoilt" s__law_spoilt f fd) (B : Blt mg)
    (FD : Fun K "_law_draw" "_law_draw" s__law_draw fD fdD) (gD : mg "_law_draw" = some (.ref fD)) (bD : Binds K fdD ["_law_deck_here", "_law_below"] []) (GD : FnOk P w K mg base CX0 1 fD fdD ["_law_deck_here", "_law_below"] spDraw)
    (FO : Fun K "_law_odd" "_law_odd" s__law_odd fO fdO) (gO : mg "_law_odd" = some (.ref fO)) (bO : Binds K fdO ["_law_deck_here", "_law_it"] []) (GO : FnOk P w K mg base CX0 3 fO fdO ["_law_deck_here", "_law_it"] (spOdd K))
    (gB : mg "_law_spoilt" = some (.ref f)) (bB : Binds K fd ["_law_deck_here", "_law_it"] []) (GB : FnOk P w K mg base CX0 (4 + k) f fd ["_law_deck_here", "_law_it"] (spSpoilt K k)) :
    FnOk P w K mg base CX0 (4 + k + 1) f fd ["_law_deck_here", "_law_it"] (spSpoilt K (k + 1)) := by
  refine F.ok sc__law_spoilt (fun vs H Q E h => ?_) (fun cdv A outer s H vs Q E hr h => ?_)
  · obtain ⟨_, _, _, _, _, _, _, _, rfl, _⟩ := h
    rfl
  · obtain ⟨D, C, T, v, d, mm, b, N, rfl, hdk, hT, htd, hN, hok, hw, hk, hib, hb, q⟩ := h
    have hu0 : (A.deeper (envOfC "_law_spoilt" (defScope s__law_spoilt) s.heap.objs.size f cdv)).units < cLine := by
      have := hr.un
      omega
    have hr3 : Room 3 (A.deeper (envOfC "_law_spoilt" (defScope s__law_spoilt) s.heap.objs.size f cdv)) := hr.mono (by omega)
    have hr1 : Room 1 (A.deeper (envOfC "_law_spoilt" (defScope s__law_spoilt) s.heap.objs.size f cdv)) := hr.mono (by omega)
    refine ⟨_, (pss_cons (ps_if (PW.pt (pw_or (pt_not (pt_val (pe_callB call_isi (by rfl) B.isi (by decide +kernel) (pa_cons (pv 1) (pa_cons (pe_bltn (v := .ty "tuple") (by rfl) B.tuple (by decide +kernel) rfl) pa_nil))))) (pw_or (pt_cmpR (op_eqTup0 hu0) (pv 1) (pe_tup pa_nil) (nomark _)) (pw_or1 (pt_cmpR op_eq (pe_call GD hr1 (by rfl) gD FD.kp bD .nil pass0 (pa_cons (pv 0) (pa_cons pe_int pa_nil))) pe_int (nomark _)))))) (pss_one (ps_ret (pe_call GO hr3 (by rfl) gO FO.kp bO .nil pass0 (pa_cons (pv 0) (pa_cons (pv 1) pa_nil))))) pss_nil)
    (pss_cons (ps_set (i := 2) sc__law_spoilt.nd rfl (Or.inl rfl) (pe_call GD hr1 (by rfl) gD FD.kp bD .nil pass0 (pa_cons (pv 0) (pa_cons (pe_callB call_len (by rfl) B.len (by decide +kernel) (pa_cons (pv 1) pa_nil)) pa_nil))))
    (pss_one (ps_ret (pe_op op_catN (pe_op op_catN (pe_slice sl_tupN (pv 1) po_none (po_some (pv 2))) (pe_tup (pa_cons (pe_call GB hr (by rfl) gB F.kp bB .nil pass0 (pa_cons (pv 0) (pa_cons (pe_ix ix_tup (pv 1) (pv 2) (fun _ _ => rfl)) pa_nil))) pa_nil))) (pe_slice sl_tupN (pv 1) (po_some (pe_op op_add (pv 2) pe_int)) po_none)))))), ?_⟩
    have odd : ∀ (H1 : Hp) (T1 : Nat), T1 ≤ T + 1 → DeckAt D C T1 H1 → Off D C H H1 → spOdd K [.ref D, v] H1 Q E := by
      intro H1 T1 hT1 dk1 off1
      refine ⟨D, C, T1, v, d, mm, b, N, rfl, dk1, by omega, htd.kp (fun a o ha z => off1 a o (hN a ha).1 (hN a ha).2 z) (fun a xs z => off1.tup hdk z), hN, hok, hw, hib, hb, fun H2 u dk2 off2 od => ?_⟩
      exact q H2 u _ (by omega) dk2 (off1.trans off2) (od.mono (fun x hx => hx.imp id (none_off off1 dk1)) (by omega) (by omega) (by omega))
    by_cases nt : ∀ ds, d ≠ .tuple ds
    · obtain ⟨a, t, m, n⟩ := dv_ty htd nt
      refine ⟨_, rfl, _, .ty "tuple", _, _, false, rfl, .ty _, t, kit_noT m n, false, rfl, ifT rfl (ifT rfl ⟨_, rfl, _, rfl, ?_⟩)⟩
      exact odd H T (by omega) hdk (Off.refl _ _ _)
    cases htd with
    | non => exact (nt fun _ z => nomatch z).elim
    | bl _ => exact (nt fun _ z => nomatch z).elim
    | int _ => exact (nt fun _ z => nomatch z).elim
    | str _ => exact (nt fun _ z => nomatch z).elim
    | lst _ _ _ _ => exact (nt fun _ z => nomatch z).elim
    | dct _ _ => exact (nt fun _ z => nomatch z).elim
    | @tup p xs ds hz htd =>
      clear nt
      obtain ⟨m, hm, lo⟩ := hok.tup
      have hW : (PyData.tuple ds).weight = PyData.weightAll ds := rfl
      rw [hW] at hw q lo
      obtain ⟨hbl, hI⟩ := boxB_tup.mp hib
      have hl : xs.length = ds.length := htd.len
      have hlen : xs.length ≤ 20000 := by
        rw [hl]
        exact Nat.le_trans lo.len hw
      have kpA : ∀ {H' : Hp}, Off D C H H' → DvAll K N H' xs ds := fun off => htd.kp (fun a o ha z => off a o (hN a ha).1 (hN a ha).2 z) (fun a xs z => off.tup hdk z)
      refine ⟨_, rfl, _, .ty "tuple", _, _, true, rfl, .ty _, ty_tup hz, kit_ty (by decide +kernel), true, rfl, ifF rfl ?_⟩
      refine ⟨_, rfl, sz_le (n := 0) (by decide), fun p0 hp0 => ?_⟩
      have t0 := same_new (o := HO.tup []) hp0
      have k0 : SqT K (upd H p0 (.tup [])) p0 [] := Or.inl (Or.inl upd_same)
      have dk0 := hdk.same t0
      refine ⟨_, _, _, rfl, rfl, Same.tup t0 hz, k0, _, rfl, ?_⟩
      generalize upd H p0 (.tup []) = G0 at t0 k0 dk0 ⊢
      cases hxe : xs.isEmpty with
      | true =>
        refine ifT rfl (ifT rfl ⟨_, rfl, _, rfl, ?_⟩)
        exact odd G0 T (by omega) dk0 (Off.same t0)
      | false =>
      have h0 : 0 < xs.length := by
        cases xs with
        | nil => cases hxe
        | cons _ _ => exact Nat.zero_lt_succ _
      refine ifF rfl ?_
      refine ⟨_, rfl, D, C, T, 6, rfl, dk0, by omega, by decide, by decide, fun H1 r hr6 dk1 off1 => ?_⟩
      have off01 := (Off.same (D := D) (C := C) t0).trans off1
      refine ⟨rfl, _, rfl, ite2 (fun hc => ?_) (fun hc => ?_)⟩
      · refine ⟨_, rfl, _, rfl, ?_⟩
        exact odd H1 (T + 1) (by omega) dk1 off01
      have hz1 := off01.tup hdk hz
      refine ⟨_, rfl, _, rfl, _, _, rfl, len_tup hz1, D, C, T + 1, xs.length, rfl, dk1, by omega, h0, by omega, fun H3 t ht dk3 off3 => ?_⟩
      have off03 := off01.trans off3
      have hz3 := off03.tup hdk hz
      have nn : ∀ x, H3 x = none → H x = none := fun x hx => none_off off03 dk3 hx
      have td3 := kpA off03
      have htl : t < xs.length := ht
      have htd' : t < ds.length := by omega
      obtain ⟨dt, hdt, tdt⟩ := td3.at (List.getElem?_eq_getElem htl)
      have edt : ds[t] = dt := by
        rw [List.getElem?_eq_getElem htd'] at hdt
        exact Option.some.inj hdt
      have okt := (lo.mem (List.mem_of_getElem? hdt)).exact
      have esplit : ds = ds.take t ++ dt :: ds.drop (t + 1) := by
        rw [← edt, ← List.drop_eq_getElem_cons htd', List.take_append_drop]
      have hwt : PyData.weightAll ds = PyData.weightAll (ds.take t) + (dt.weight + 1 + PyData.weightAll (ds.drop (t + 1))) := by
        conv => lhs; rw [esplit, weight_app]
        rfl
      refine ⟨_, rfl, _, rfl, _, rfl, p, _, rfl, hz3, fun p1 J1 t1 z1 => ?_⟩
      have off0J := off03.trans (Off.same t1)
      refine ⟨_, rfl, _, rfl, _, rfl, p, _, _, _, rfl, rfl, Same.tup t1 hz3, atI_nat (j := t) (List.getElem?_eq_getElem htl), D, C, T + 1 + 1, xs[t], dt, m, b, N, rfl, dk3.same t1, by omega, tdt.same t1, hN, okt, by omega, by omega, boxAll_mem hI dt (List.mem_of_getElem? hdt), hb, fun H5 u T5 hT5 dk5 off5 od5 => ?_⟩
      have kp5 : KpT K J1 H5 := KpT.off off5 (dk3.same t1)
      have hz5 := kp5 _ _ (Same.tup t1 hz3)
      have z15 := kp5 _ _ z1
      have off05 := off0J.trans off5
      have od5 := od5.mono (N' := fun a => N a ∨ H a = none) (fun y hy => hy.imp id fun h => nn y (none_of t1 h)) (Nat.le_refl _) (Nat.le_refl _) (Nat.le_refl _)
      refine ⟨sz_le (n := 1) (by decide), fun p2 hp2 => ?_⟩
      have t2 := same_new (o := HO.tup [u]) hp2
      refine ⟨p1, p2, _, [u], rfl, rfl, Same.tup t2 z15, Or.inl (Or.inl upd_same), sz_le (Nat.le_trans (Nat.add_le_add_right (cutV_length _ _ _) _) (by show xs.length + 1 ≤ 1000000; omega)), fun p3 J3 t3 z3 => ?_⟩
      refine ⟨_, rfl, _, rfl, _, _, rfl, rfl, _, rfl, p, _, rfl, Same.tup (t2.trans t3) hz5, fun p4 J4 t4 z4 => ?_⟩
      refine ⟨p3, p4, _, _, rfl, rfl, Same.tup t4 z3, z4, ?_, fun p5 J5 t5 z6 => ?_⟩
      · rw [List.length_append]
        exact sz_le (Nat.le_trans (Nat.add_le_add (Nat.add_le_add_right (cutV_length _ _ _) _) (cutV_length _ _ _)) (by show xs.length + 1 + xs.length ≤ 1000000; omega))
      have t25 := ((t2.trans t3).trans t4).trans t5
      obtain ⟨d', dvu, oku, iu⟩ := od5
      have dv5 : DvAll K (fun a => N a ∨ H a = none) J5 xs ds := (kpA (off05.trans (Off.same t25))).mono fun _ h => Or.inl h
      rw [cut_front, show cutV xs (some (((t : Nat) : Int) + 1)) none = xs.drop (t + 1) from cut_back xs (t + 1)] at z6
      have l1 := (lo.sub (List.take_sublist t ds)).exact
      have l2 := (lo.sub (List.drop_sublist (t + 1) ds)).exact
      have l3 : LsOk _ (m + 3) (ds.take t ++ [d'] ++ ds.drop (t + 1)) := ((l1.mono (Nat.le_refl _) (by omega)).app (LsOk.cons oku (LsOk.nil (w := 0)))).app (l2.mono (Nat.le_refl _) (by omega))
      have i3 : boxB (b + 1) (.tuple (ds.take t ++ [d'] ++ ds.drop (t + 1))) = true := by
        refine boxB_tup.mpr ⟨?_, boxAll_of fun x hx => ?_⟩
        · rw [List.length_append, List.length_append, List.length_take, List.length_drop]
          show min t ds.length + 1 + (ds.length - (t + 1)) ≤ _
          omega
        · rcases List.mem_append.mp hx with hx | hx
          · rcases List.mem_append.mp hx with hx | hx
            · exact boxB_mono (Nat.le_succ b) x (boxAll_mem hI x (List.mem_of_mem_take hx))
            · rw [List.mem_singleton.mp hx]
              exact iu
          · exact boxB_mono (Nat.le_succ b) x (boxAll_mem hI x (List.mem_of_mem_drop hx))
      exact q J5 _ T5 (by omega) (dk5.same t25) (off05.trans (Off.same t25)) ⟨_, .tup z6 (((dv5.take t).app (.cons (dvu.same t25) .nil)).app (dv5.drop (t + 1))), l3.tup.mono (by omega) (by omega), i3⟩
theorem ok_spoilt {f fO fD : Addr} {fd fdO fdD : FuncData} (F : Fun K "_law_spoilt" "_law_spoilt" s__law_spoilt f fd) (B : Blt mg)
    (FD : Fun K "_law_draw" "_law_draw" s__law_draw fD fdD) (gD : mg "_law_draw" = some (.ref fD)) (bD : Binds K fdD ["_law_deck_here", "_law_below"] []) (GD : FnOk P w K mg base CX0 1 fD fdD ["_law_deck_here", "_law_below"] spDraw)
    (FO : Fun K "_law_odd" "_law_odd" s__law_odd fO fdO) (gO : mg "_law_odd" = some (.ref fO)) (bO : Binds K fdO ["_law_deck_here", "_law_it"] []) (GO : FnOk P w K mg base CX0 3 fO fdO ["_law_deck_here", "_law_it"] (spOdd K))
    (gB : mg "_law_spoilt" = some (.ref f)) (bB : Binds K fd ["_law_deck_here", "_law_it"] []) : ∀ k : Nat, FnOk P w K mg base CX0 (4 + k) f fd ["_law_deck_here", "_law_it"] (spSpoilt K k)
  | 0 => ok_spoilt0 F B FO gO bO GO
  | k + 1 => ok_spoiltS F B FD gD bD GD FO gO bO GO gB bB (ok_spoilt F B FD gD bD GD FO gO bO GO gB bB k)
end
end Lw

namespace Mq
open PySem PySem.Spec PyProof.Rows L2
/-! ### several except clauses, each with the same name -/
/-- the ends behind a suite whose name in slot i goes -/
def backI (D : Ends) (i : Nat) : Ends := ⟨fun τ G => D.nx (τ.set i none) G, D.rt, fun τ G => D.bk (τ.set i none) G, fun τ G => D.ct (τ.set i none) G⟩
def wAll (K : PySem.W.Frag) (i : Nat) (Wo : WX) (D : Ends) : List (Value × (Addr → Value → Option Addr → TS)) → WX
  | [] => Wo
  | p :: ps => fun cl fd τ G => ∃ b, PySem.W.exmOne K cl p.1 = some b ∧ (b = true → ∀ ea, G ea = none → p.2 ea cl fd (backI D i) (τ.set i (some (.ref ea))) G) ∧ (b = false → wAll K i Wo D ps cl fd τ G)
inductive HdsN (X : Cx) (n : Str) : List ExceptHandler → List (Value × (Addr → Value → Option Addr → TS)) → Prop
  | nil : HdsN X n [] []
  | cons {x : Str} {c : Value} {ts : Addr → Value → Option Addr → TS} {s₀ : Stmt} {sts : List Stmt} {np hp : Pos} {hds : List ExceptHandler} {l : List (Value × (Addr → Value → Option Addr → TS))} (nm : Names X x c)
      (su : ∀ (ea : Addr) (eo : Obj) (cl : Value) (fd : Option Addr) (pn : List (Addr × Obj)), Zc cl fd eo → (∃ vs, eo.data = .fields vs) → PSs (X.suite ea ((ea, eo) :: pn)) (s₀ :: sts) (ts ea cl fd)) (rest : HdsN X n hds l) :
      HdsN X n (.ExceptHandler (some (.Name x np)) (some n) (s₀ :: sts) hp :: hds) ((c, ts) :: l)
section
variable {X : Cx} {n : Str} {i : Nat} {bd : List Stmt} {hd1 : ExceptHandler} {hds : List ExceptHandler} {l : List (Value × (Addr → Value → Option Addr → TS))} {pos : Pos} {tb : WX → TS} {Wo : WX}
theorem ps_try_all (st1 : X.stack = X.env :: X.outer) (fr1 : X.env.frame = some X.env.locals) (nd1 : X.N.Nodup) (at1 : X.N[i]? = some n) (loc1 : X.env.kindOf n = some .local) (tk : Takes X Wo)
    (body : ∀ (W : WX) (pn : List (Addr × Obj)) (xe : Value → Shared → Prop), Takes (X.tr pn xe) W → PassesOwn (model X.prog X.w) X.A X.env xe → PSs (X.tr pn xe) bd (tb W))
    (hh : HdsN X n (hd1 :: hds) l) : PS X (.Try bd (hd1 :: hds) [] [] pos) (fun D τ G => tb (wAll X.K i Wo D l) D τ G) := by
  refine ⟨fun pins s τ G D J0 h => ?_⟩
  have good := J0.ok
  have frs1 : X.A.frames = some (X.env :: X.outer) := by rw [good.frames, st1]
  have lc1 : Loc X.env.scope n := .inl loc1
  refine wpAny_Try_except ?_
  refine wpAny_mono ((body (wAll X.K i Wo D l) (X.pn ++ pins) (fun e t1 => wpAny (model X.prog X.w) X.A (noteFrame e X.env) (fun _ t2 => wpAny (model X.prog X.w) X.A (setFlight e none)
    (fun _ t3 => wpAny (model X.prog X.w) X.A (handleBy e X.env (hd1 :: hds)) (SP X pins D) X.xe t3) X.xe t2) X.xe t1) (fun u t xx => ?_) PassesOwn.looking).run [] s τ G D (J0.toTry _) h) (fun f t1 hsp => ?_) (fun e t1 he => he)
  · obtain ⟨ea, B, sA, pn1, τ1, G1, cl, fd, rfl, J1, nb, up, sky, na, os, ag, w⟩ := xx
    have J2 : Inv X pins τ1 G1 sA := J1.ofTry good
    have sky2 : Sky B (X.env :: X.outer) ea (Zc cl fd) X.env.locals t.heap := by rw [← st1]; exact sky
    show wpAny (model X.prog X.w) X.A (noteFrame (.ref ea) X.env) _ _ _
    refine Sky.land Zc.steady frs1 fr1 sky2 fun g3 fl3 up3 => ?_
    have J3 : Inv X pins τ1 G1 { t with heap := g3 } := J2.landed nb fl3.1 (up.trans up3) os ag
    obtain ⟨eo3, ws3, e3, z3, d3⟩ := fl3.there
    have out1 : ∀ {g : Heap} {o : Obj} {ws : Array Value}, g.FunFrames B (X.env :: X.outer) → g.get? ea = some o → o.data = .fields ws → ea ∉ frs (X.env :: X.outer) := fun {g o ws} ff e dd hm => by
      obtain ⟨_, o2, e2, no⟩ := ff.mem hm
      rw [e] at e2
      cases e2
      exact no _ dd
    have out2 := out1 fl3.2.2.1 e3 d3
    have nL : ea ≠ X.env.locals := fun z => out2 (List.mem_filterMap.mpr ⟨X.env, List.mem_cons_self, by rw [fr1, z]⟩)
    have nF : ea ∉ X.fs := fun hm => by
      obtain ⟨e, he, q⟩ := List.mem_filterMap.mp hm
      exact out2 (List.mem_filterMap.mpr ⟨e, List.mem_cons_of_mem _ he, q⟩)
    have S3 := J3.suite e3 d3 na nL nF
    have go : ∀ {hs2 : List ExceptHandler} {l2 : List (Value × (Addr → Value → Option Addr → TS))}, HdsN X n hs2 l2 → wAll X.K i Wo D l2 cl fd τ1 G1 → wpAny (model X.prog X.w) X.A (handleBy (.ref ea) X.env hs2) (SP X pins D) X.xe { t with heap := g3 } := by
      intro hs2 l2 hk
      induction hk with
      | nil =>
        intro w
        refine wpAny_handleBy_nil ?_
        obtain ⟨k1, k2, k3, eo, ws, T, oT, tz, he, hz, hd, h1, hr⟩ := id fl3
        unfold PySem.passOn
        refine wpAny_bind (wpAny_field he hd h1 ?_)
        rw [if_neg (show ¬ ((Value.ref T == Value.none) = true) by simp)]
        have fin : wpAny (model X.prog X.w) X.A (setFlight (.ref ea) X.env.frame) (fun _ t4 => wpAny (model X.prog X.w) X.A (throw (.ref ea) : Sem Flow) (SP X pins D) X.xe t4) X.xe { t with heap := g3 } := by
          rw [fr1]
          refine HandSPX.setFlight_upZ fl3 fun g4 hh4 up4 => wpAny_throw (tk _ _ ?_)
          exact ⟨ea, B, sA, pins, τ1, G1, cl, fd, rfl, J2, nb, (up.trans up3).trans up4, .inr (.inr (by rw [st1]; exact hh4)), na, os, ag, w⟩
        first | exact wpAny_bind (wpAny_pure (wpAny_bind fin)) | exact wpAny_bind fin
      | @cons x c ts s₀ sts np hp hs3 l3 nm su rest ih =>
        intro w
        obtain ⟨b, hb1, yes, no⟩ := w
        refine wpAny_handleBy_cons (codeAny_handlers_test ?_) (by intro q; cases q)
        have LT : PySem.W.Looks (model X.prog X.w) g3 (typeOf (.ref ea)) cl := fun A Q E s k q => wpAny_typeOf_ref (k _ _ e3) (by rw [z3.1]; exact q)
        have LM := PySem.W.exm_one (M := model X.prog X.w) (J3.kIn) LT hb1
        have test : ∀ {Q : Value → Shared → Prop} {E : Value → Shared → Prop}, Q c { t with heap := g3 } → wpAny (model X.prog X.w) (X.A.mark (some (.ref ea))) (eval (.Name x np) X.env) Q E { t with heap := g3 } := by
          intro Q E q
          obtain ⟨hg, hdb, hm | ⟨hm, hv, hnn⟩⟩ := nm
          · exact ld_glob (X := X.suite ea ((ea, eo3) :: (X.pn ++ pins))) S3 hg hm q hdb
          · exact ld_blt (X := X.suite ea ((ea, eo3) :: (X.pn ++ pins))) S3 hg hm hv q hnn hdb
        refine test (LM.here ?_)
        cases b with
        | true =>
          refine codeAny_handlers_suite_as ?_
          refine HandSPX.lands_againZ fl3 fun g4 fl4 up4 => ?_
          have J4 : Inv X pins τ1 G1 { t with heap := g4 } := J2.landed nb fl4.1 ((up.trans up3).trans up4) os ag
          obtain ⟨eo4, ws4, e4, z4, d4⟩ := fl4.there
          have S4 := J4.suite e4 d4 na nL nF
          refine store_ok (X := X.suite ea ((ea, eo4) :: (X.pn ++ pins))) (v := .ref ea) S4 nd1 at1 lc1 rfl (fun t5 S5 => ?_) (.inr loc1)
          refine wpAny_mono ((su ea eo4 cl fd (X.pn ++ pins) z4 ⟨_, d4⟩).run [] t5 _ G1 _ S5 (yes rfl ea na)) (fun f t6 hsp => ?_) (fun _ _ z => False.elim z)
          have fin : ∀ {τ6 : L2.St} {G6 : Hp} {Q : Shared → Prop}, Inv (X.suite ea ((ea, eo4) :: (X.pn ++ pins))) [] τ6 G6 t6 → (∀ t7, Inv X pins (τ6.set i none) G6 t7 → Q t7) →
              wpAny (model X.prog X.w) X.A (do bindName X.env n .none; unbindBehindTheSuite X.env n hp) (fun _ t7 => Q t7) X.xe t6 := fun {τ6 G6 Q} S6 hq => gone_ok (S6.unsuite good) nd1 at1 loc1 hq
          cases f with
          | next =>
            obtain ⟨τ6, G6, S6, q6⟩ := hsp
            exact fin S6 fun t7 J7 => ⟨_, _, J7, q6⟩
          | brk =>
            obtain ⟨τ6, G6, S6, q6⟩ := hsp
            exact fin S6 fun t7 J7 => ⟨_, _, J7, q6⟩
          | cont =>
            obtain ⟨τ6, G6, S6, q6⟩ := hsp
            exact fin S6 fun t7 J7 => ⟨_, _, J7, q6⟩
          | ret u =>
            obtain ⟨v6, τ6, G6, S6, r6, q6⟩ := hsp
            exact fin S6 fun t7 J7 => ⟨_, _, _, J7, r6, q6⟩
        | false =>
          show wpAny _ X.A (handleBy (.ref ea) X.env hs3) _ _ _
          exact ih (no rfl)
    exact go hh w
  · cases f with
    | next =>
      obtain ⟨τ1, G1, J1, q⟩ := hsp
      exact wpAny_execs_nil ⟨τ1, G1, J1.ofTry good, q⟩
    | brk =>
      obtain ⟨τ1, G1, J1, q⟩ := hsp
      exact ⟨τ1, G1, J1.ofTry good, q⟩
    | cont =>
      obtain ⟨τ1, G1, J1, q⟩ := hsp
      exact ⟨τ1, G1, J1.ofTry good, q⟩
    | ret u =>
      obtain ⟨v, τ1, G1, J1, r, q⟩ := hsp
      exact ⟨v, τ1, G1, J1.ofTry good, r, q⟩
end
end Mq

namespace Lw
open PySem PySem.Spec PyProof.Rows L2 Mq
open SX (S)
open PySem.W (EachIs)
open GxR (TabB TabG Tabbed)
/-! ### what is heard of a course -/
/-- what the written part says of the two errors -/
structure ErrW (K : PySem.W.Frag) (mg : Str → Option Value) (CW CM fB : Addr) : Prop where
  txt : MqE_thing.Txt K mg "BadWeb" "BadWeb.__init__" CW fB
  xf : XfC K CW
  nt : PySem.W.findIn K (.ref CW) "thing" = some none
  held : HeldC K CW
  gM : mg "MillError" = some (.ref CM)
  kit : PySem.W.kitOne K (.ref CW) (.ref CM) = some true
  exm : PySem.W.exmOne K (.ref CW) (.ref CW) = some true
structure ErrP (K : PySem.W.Frag) (mg : Str → Option Value) (CP CM fB : Addr) : Prop where
  txt : MqE_place.Txt K mg "BadCourse" "BadCourse.__init__" CP fB
  xf : XfC K CP
  nt : PySem.W.findIn K (.ref CP) "place" = some none
  held : HeldC K CP
  gM : mg "MillError" = some (.ref CM)
  kit : PySem.W.kitOne K (.ref CP) (.ref CM) = some true
  exm : PySem.W.exmOne K (.ref CP) (.ref CP) = some true
def hearX (P0 : Addr) (k : Str) (v : V) (H : Hp) (Q : VK) : Prop := ∀ H' p, ExN H H' → TabG H' P0 → (∀ a ys, H a = some (.lst ys) → p ≠ a) → p ≠ sysModules → H' p = some (.lst [.str k, v, .bl true]) → Q (.ref p) H'
def spHeard (K : PySem.W.Frag) (C P0 : Addr) : Sp := fun vs H Q _ => ∃ (r fa ta b way : Nat) (sg : List Nat) (fs : List Fd) (wss : List (List (List Nat))) (wv cv : V), vs = [.ref r, .ref b, wv, cv, .int (way : Nat)] ∧ BkAt H C r sg fs fa ta ∧ FsOk sg fs ∧ ShAt K H b wss ∧ TabG H P0 ∧
  ((WebBad K H sg wv ∧ hearX P0 "web" wv H Q) ∨
   ∃ (l : List Nat) (d : PyData), WebGood sg wv l ∧ l.length ≤ 1000 ∧ Dg K H cv d ∧ (∀ ds, d = .tuple ds → ds.length ≤ 500) ∧
    (∀ k : Int, wrongM wss.length d = .int k → hearX P0 "course" (.int k) H Q) ∧
    (∀ ns : List Nat, wrongM wss.length d = .non → d = .tuple (ns.map fun n => PyData.int ((n : Nat) : Int)) → ∀ H', ExN H H' → TabG H' P0 → Q (optZ (crsM fs wss l ns)) H'))
section
variable {P : Program} {w : World} {K : PySem.W.Frag} {mg : Str → Option Value} {base : Heap} {C CW CP CM P0 : Addr}
theorem ok_heard {f f0 fB fB2 : Addr} {fd fd0 : FuncData} (F : Fun K "_law_heard" "_law_heard" s__law_heard f fd) (B : Blt mg) (T : ErrW K mg CW CM fB) (U : ErrP K mg CP CM fB2) (no : PySem.W.exmOne K (.ref CP) (.ref CW) = some false)
    (F0 : Fun K "course_led" "course_led" s_course_led f0 fd0) (g0 : mg "course_led" = some (.ref f0)) (b0 : Binds K fd0 ["book", "shelf", "web", "course"] []) (k0 : KBn K fd0 ["book", "shelf", "web", "course"] 0 ["course", "web", "shelf", "book"] rev0 rev0) (G0 : FnOk P w K mg base (L2.CX P w) 5 f0 fd0 ["book", "shelf", "web", "course"] (spCourse K C CW CP P0)) :
    FnG P w K mg base CX0 7 f fd ["_law_code_here", "_law_shelf_here", "_law_web", "_law_course_here", "_law_way"] (spHeard K C P0) := by
  refine Mq.Fun.okG F sc__law_heard (fun vs H Q E h => ?_) (fun cdv A outer s H vs Q E gA hr h => ?_)
  · obtain ⟨_, _, _, _, _, _, _, _, _, _, rfl, _⟩ := h
    rfl
  · obtain ⟨r, fa, ta, b, way, sg, fs, wss, v, u, rfl, hb, hfs, hsh, hT, h⟩ := h
    have hr5 : Room 5 (A.deeper (envOfC "_law_heard" (defScope s__law_heard) s.heap.objs.size f cdv)) := hr.mono (by decide)
    refine ⟨_, (pss_cons (ps_set (i := 5) sc__law_heard.nd rfl (Or.inl rfl) pe_str)
      (pss_cons (ps_try_all (i := 6) (Wo := fun _ _ _ _ => False) rfl rfl sc__law_heard.nd rfl rfl takes0
        (fun W pn xe tk _ => pss_one (ps_if (pt_cmpR op_eq (pv 4) pe_int (nomark _))
          (pss_one (ps_set (i := 5) sc__law_heard.nd rfl (Or.inl rfl) (pe_callS (E := WE W) G0 hr5 (by rfl) g0 F0.kp b0 (fun σ => passAt tk σ) (pa_cons (pv 0) (pa_cons (pv 1) (pa_cons (pv 2) (pa_cons (pv 3) pa_nil)))))))
          (pss_one (ps_set (i := 5) sc__law_heard.nd rfl (Or.inl rfl) (pe_callK0 (E := WE W) G0 hr5 (by rfl) g0 F0.kp k0 (fun σ => passAt tk σ) (pk_cons (pv 3) (pk_cons (pv 2) (pk_cons (pv 1) (pk_cons (pv 0) pk_nil)))))))))
        (.cons (c := .ref CW) ⟨rfl, by decide, Or.inl T.txt.gC⟩ (fun a oe cls d pn hz hf => pss_one (ps_set (i := 5) sc__law_heard.nd rfl (Or.inl rfl) (Mq.pe_ls (pa_cons pe_str (pa_cons (pe_xf T.xf T.nt hz hf (pv 6)) (pa_cons (pe_callB (call_heldX T.held hz hf) (by rfl) B.isi (by decide +kernel) (pa_cons (pv 6) (pa_cons (pe_glob (v := .ref CM) (by rfl) T.gM rfl) pa_nil))) pa_nil))))))
        (.cons (c := .ref CP) ⟨rfl, by decide, Or.inl U.txt.gC⟩ (fun a oe cls d pn hz hf => pss_one (ps_set (i := 5) sc__law_heard.nd rfl (Or.inl rfl) (Mq.pe_ls (pa_cons pe_str (pa_cons (pe_xf U.xf U.nt hz hf (pv 6)) (pa_cons (pe_callB (call_heldX U.held hz hf) (by rfl) B.isi (by decide +kernel) (pa_cons (pv 6) (pa_cons (pe_glob (v := .ref CM) (by rfl) U.gM rfl) pa_nil))) pa_nil))))))
        .nil)))
      (pss_one (ps_ret (pv 5))))), ?_⟩
    have finB : ∀ k (x : V) (fld : Str), hearX P0 k x H Q → ∀ H1 dd, ExN H H1 → TabG H1 P0 → H1 dd = none → ∀ p, upd H1 dd (.xd [(fld, x)]) p = none → p ≠ sysModules → Q (.ref p) (upd (upd H1 dd (.xd [(fld, x)])) p (.lst [.str k, x, .bl true])) := by
      intro k x fld q H1 dd s1 ht hdd p hp hne
      exact q _ p (s1.trans (ExN.of ((same_new hdd).trans (same_new hp)))) (Mq.TabG.same ht ((same_new hdd).trans (same_new hp))) (fun a ys ha => Ne.symm (ne_of_none (same_new hdd _ _ (s1 _ _ ha fun _ z => nomatch z)) hp)) hne upd_same
    refine ⟨_, rfl, rfl, _, rfl, ?_⟩
    cases decide (V.int ((way : Nat) : Int) = V.int 0) with
    | true =>
      refine ifT rfl ⟨_, rfl, _, rfl, _, rfl, _, rfl, ?_⟩
      refine ⟨r, fa, ta, b, sg, fs, wss, v, u, rfl, hb, hfs, hsh, hT, ?_⟩
      rcases h with ⟨h1, q⟩ | ⟨l, d, h1, h2, h3, h4, q1, q2⟩
      · refine Or.inl ⟨h1, fun H1 dd s1 t1 hdd => ⟨true, T.exm, fun _ a0 ha0 => ?_, fun z => nomatch z⟩⟩
        exact ⟨_, rfl, rfl, rfl, dd, _, v, rfl, upd_same, rfl, _, rfl, rfl, dd, CM, _, true, rfl, rfl, upd_same, T.kit, sz_le (n := 3) (by decide), fun p hp hne => ⟨_, rfl, finB _ v _ q H1 dd s1 t1 hdd p hp hne⟩⟩
      · refine Or.inr ⟨l, d, h1, h2, h3, h4, fun k hk H1 dd s1 t1 hdd => ⟨false, no, (fun z => nomatch z), fun _ => ⟨true, U.exm, fun _ a0 ha0 => ?_, fun z => nomatch z⟩⟩, fun ns hn hd H1 s1 t1 => ⟨_, rfl, q2 ns hn hd H1 s1 t1⟩⟩
        exact ⟨_, rfl, rfl, rfl, dd, _, .int k, rfl, upd_same, rfl, _, rfl, rfl, dd, CM, _, true, rfl, rfl, upd_same, U.kit, sz_le (n := 3) (by decide), fun p hp hne => ⟨_, rfl, finB _ _ _ (q1 k hk) H1 dd s1 t1 hdd p hp hne⟩⟩
    | false =>
      refine ifF rfl ⟨_, rfl, _, rfl, _, rfl, _, rfl, rfl, ?_⟩
      refine ⟨r, fa, ta, b, sg, fs, wss, v, u, rfl, hb, hfs, hsh, hT, ?_⟩
      rcases h with ⟨h1, q⟩ | ⟨l, d, h1, h2, h3, h4, q1, q2⟩
      · refine Or.inl ⟨h1, fun H1 dd s1 t1 hdd => ⟨true, T.exm, fun _ a0 ha0 => ?_, fun z => nomatch z⟩⟩
        exact ⟨_, rfl, rfl, rfl, dd, _, v, rfl, upd_same, rfl, _, rfl, rfl, dd, CM, _, true, rfl, rfl, upd_same, T.kit, sz_le (n := 3) (by decide), fun p hp hne => ⟨_, rfl, finB _ v _ q H1 dd s1 t1 hdd p hp hne⟩⟩
      · refine Or.inr ⟨l, d, h1, h2, h3, h4, fun k hk H1 dd s1 t1 hdd => ⟨false, no, (fun z => nomatch z), fun _ => ⟨true, U.exm, fun _ a0 ha0 => ?_, fun z => nomatch z⟩⟩, fun ns hn hd H1 s1 t1 => ⟨_, rfl, q2 ns hn hd H1 s1 t1⟩⟩
        exact ⟨_, rfl, rfl, rfl, dd, _, .int k, rfl, upd_same, rfl, _, rfl, rfl, dd, CM, _, true, rfl, rfl, upd_same, U.kit, sz_le (n := 3) (by decide), fun p hp hne => ⟨_, rfl, finB _ _ _ (q1 k hk) H1 dd s1 t1 hdd p hp hne⟩⟩
end
end Lw

namespace Lw
open PySem PySem.Spec PyProof.Rows L2 Mq
open SX (S)
/-! ### courses: what the law's own says of the book's -/
theorem crs_eq {fs gs : List Fd} (h : Apart gs) (p : fs.Perm gs) (wss : List (List (List Nat))) : ∀ (ns : List Nat) (l : List Nat), crsM fs wss l ns = crsM gs wss l ns
  | [], _ => rfl
  | n :: r, l => by
    show (match ledM fs l (wss.getD n []) with | some l' => crsM fs wss l' r | none => none) = (match ledM gs l (wss.getD n []) with | some l' => crsM gs wss l' r | none => none)
    rw [led_eq h p]
    cases ledM gs l (wss.getD n []) with
    | none => rfl
    | some l' => exact crs_eq h p wss r l'
theorem crs_app (gs : List Fd) (wss : List (List (List Nat))) : ∀ (as bs : List Nat) (l : List Nat), crsM gs wss l (as ++ bs) = crsO gs wss (crsM gs wss l as) bs
  | [], _, _ => rfl
  | n :: r, bs, l => by
    show (match ledM gs l (wss.getD n []) with | some l' => crsM gs wss l' (r ++ bs) | none => none) = crsO gs wss (match ledM gs l (wss.getD n []) with | some l' => crsM gs wss l' r | none => none) bs
    cases ledM gs l (wss.getD n []) with
    | none => rfl
    | some l' => exact crs_app gs wss r bs l'
/-- a course that is led is led in two parts -/
theorem crs_cut {gs : List Fd} {wss : List (List (List Nat))} {ns : List Nat} {l l2 : List Nat} (k : Nat) (e : crsM gs wss l ns = some l2) : ∃ l1, crsM gs wss l (ns.take k) = some l1 ∧ crsM gs wss l1 (ns.drop k) = some l2 := by
  rw [← List.take_append_drop k ns, crs_app] at e
  cases e1 : crsM gs wss l (ns.take k) with
  | none =>
    rw [e1] at e
    cases e
  | some l1 =>
    rw [e1] at e
    exact ⟨l1, rfl, e⟩
theorem led_from {sg : List Nat} {gs : List Fd} (h : ∀ f ∈ gs, fdOk sg f) : ∀ {ws : List (List Nat)} {l l' : List Nat}, (∀ u ∈ ws, ItF sg u) → From sg l → ledM gs l ws = some l' → From sg l'
  | [], l, l', _, hl, e => by
    cases (show some l = some l' from e)
    exact hl
  | it :: r, l, l', hi, hl, e => by
    have e : (if it.head? = some 63 then (if lookM l it = true then ledM gs l r else none) else ledM gs (laidM gs l (it.headD 0)) r) = some l' := e
    have hr : ∀ u ∈ r, ItF sg u := fun u hu => hi u (List.mem_cons_of_mem _ hu)
    split at e
    · split at e
      · exact led_from h hr hl e
      · cases e
    · rename_i hne
      refine led_from h hr (laid_from h hl ?_) e
      rcases hi it List.mem_cons_self with ⟨c, hc, rfl⟩ | ⟨c, rfl, _⟩
      · exact hc
      · exact absurd rfl hne
theorem crs_from {sg : List Nat} {gs : List Fd} (h : ∀ f ∈ gs, fdOk sg f) {wss : List (List (List Nat))} (hw : ∀ ws ∈ wss, ∀ u ∈ ws, ItF sg u) : ∀ {ns : List Nat} {l l' : List Nat}, From sg l → crsM gs wss l ns = some l' → From sg l'
  | [], l, l', hl, e => by
    cases (show some l = some l' from e)
    exact hl
  | n :: r, l, l', hl, e => by
    have e : (match ledM gs l (wss.getD n []) with | some l2 => crsM gs wss l2 r | none => none) = some l' := e
    cases e1 : ledM gs l (wss.getD n []) with
    | none =>
      rw [e1] at e
      cases e
    | some l2 =>
      rw [e1] at e
      refine crs_from h hw (led_from h (fun u hu => ?_) hl e1) e
      by_cases hn : n < wss.length
      · rw [List.getD_eq_getElem?_getD, List.getElem?_eq_getElem hn] at hu
        exact hw _ (List.getElem_mem hn) u hu
      · rw [List.getD_eq_getElem?_getD, List.getElem?_eq_none (by omega)] at hu
        cases hu
end Lw

namespace Mq
open PySem PySem.Spec PyProof.Rows L2
/-! ### repr of a list that may stand anywhere, its items data of any kind -/
def rRepL (K : PySem.W.Frag) : List V → Hp → VK → Prop := fun vs H Q => ∃ (a : Addr) (xs : List V) (ds : List PyData), vs = [.ref a] ∧ SqL K H a xs ∧ DgAll K H xs ds ∧ PyData.showableAll ds = true ∧
  PyData.depthAll ds ≤ 39 ∧ (PyData.list ds).shown.length ≤ sizeLine ∧ Q (.str (PyData.list ds).shown) H
theorem call_repL {X : Cx} {k : Nat} (hr : Room k X.A) (gA : Still X.A) : CallR X (.builtin "repr") (rRepL X.K) := by
  intro pins s σ H vs us Q I r h
  obtain ⟨a, xs, ds, rfl, hs, ha, hsh, hde, hle, q⟩ := h
  obtain ⟨u, rfl, rx⟩ := vals1 r
  cases rx
  have hu := hr.units
  obtain ⟨its, rv, ⟨ob, n, g1, g2, _, g3⟩, _⟩ := I.list hs
  obtain ⟨as, rd, no⟩ := DgAll.rd I ha rv
  have rl := Reads.list g1 g2 g3 rd
  have hz : (listText (PyData.shownAll ds)).length ≤ sizeLine := by
    have e : (PyData.list ds).shown = listText (PyData.shownAll ds) := by simp only [PyData.shown]
    rw [← e]
    exact hle
  obtain ⟨bs, most, each⟩ := ReprAllK.of_readsAll (w := X.w) (prog := X.prog) rd hsh (fun _ => no) fun t ht => Nat.le_trans (listText_mem_le ht) hz
  have far : a ∉ bs := not_mem_of_deeper rl (by simp only [PyData.depth]; omega) most
  refine call_repr_slot (by omega) ⟨ob, g1, g2⟩ F.slot_list_repr.toG ?_
  have fin : ∀ (h' : Heap) (t : Tok) (tk : Nat), (∀ b o, s.heap.get? b = some o → h'.get? b = some o) → EP X pins σ Q (.str (listText (PyData.shownAll ds)) t) { s with heap := h', toks := tk } := by
    intro h' t tk keep
    have e : (PyData.list ds).shown = listText (PyData.shownAll ds) := by simp only [PyData.shown]
    rw [e] at q
    exact ⟨.str _, H, I.kept keep, ⟨_, rfl⟩, q⟩
  cases its with
  | nil =>
    cases rd
    have e0 : listText (PyData.shownAll []) = "[]" := by simp only [PyData.shownAll, listText_nil]
    rw [e0] at fin
    exact call_list_repr_empty ⟨ob, g1, g2⟩ g1 g3 ⟨_, _, rfl, fin s.heap _ _ fun _ _ e => e⟩
  | cons x l =>
    exact call_list_reprK g1 g2 g3 far (by simpa using each.length_eq) (fun i y e => each.item i y (by simpa using e)) gA (fun b _ => Clear.nil b) (by show X.A.units + 1 + _ < cLine; omega) (fun _ _ e => e) (fun h' t tk keep => ⟨_, _, rfl, fin h' t tk keep⟩) hz
end Mq

namespace Mq
open PySem PySem.Spec PyProof.Rows L2
/-! ### f(), where no repr is under way -/
section
variable {X : Cx} {CX : CXT} {k : Nat} {f : Addr} {fd : FuncData} {sp : Sp} {E : XK} {x : Str} {p pos : Pos}
theorem pe_callG0 (F : FnG X.prog X.w X.K X.mg X.base CX k f fd [] sp) (gA : Still X.A) (hr : Room k X.A)
    (hg : Gl X x) (hm : X.mg x = some (.ref f)) (hk : PySem.W.keepIn X.K (.ref f) = true)
    (hb : Binds X.K fd [] []) (hx : Passes CX X E) (hdb : (x == ("__debug__" : Str)) = false := by decide) :
    PE X (.Call (.Name x p) [] [] pos) (fun σ H Q => sp [] H Q E) := by
  refine ⟨fun pins s σ H Q I h => wpAny_Call_Name_kw (ld_glob I hg hm ?_ hdb)⟩
  refine PySem.W.callWith_K0 I.kIn hk ?_
  exact run_G F gA hr hb hx I .nil h
end
end Mq

namespace Lw
open PySem PySem.Spec PyProof.Rows L2 Mq
open SX (S)
open PySem.W (EachIs)
open GxR (TabB TabG Tabbed)
/-! ### any value as a course -/
/-- all but the deck and tables stays -/
def OffX (D C : Addr) (H H' : Hp) : Prop := ∀ b o, b ≠ D → b ≠ C → H b = some o → (∀ ps, o ≠ .tbl ps) → H' b = some o
theorem OffX.of {D C : Addr} {H H' : Hp} (e : Off D C H H') : OffX D C H H' := fun b o h1 h2 h _ => e b o h1 h2 h
theorem OffX.ex {D C : Addr} {H H' : Hp} (e : ExN H H') : OffX D C H H' := fun b o _ _ h n => e b o h n
theorem OffX.trans {D C : Addr} {H H1 H2 : Hp} (a : OffX D C H H1) (b : OffX D C H1 H2) : OffX D C H H2 := fun c o h1 h2 h n => b c o h1 h2 (a c o h1 h2 h n) n
theorem DeckAt.exn {D C : Addr} {T : Nat} {H H' : Hp} (h : DeckAt D C T H) (e : ExN H H') : DeckAt D C T H' := by
  obtain ⟨m, t, js, a1, a2, a3, a4⟩ := h.ex
  exact ⟨m, t, js, e _ _ a1 (fun _ z => nomatch z), e _ _ a2 (fun _ z => nomatch z), a3, a4⟩
theorem WAt.exn {H H' : Hp} {wd ld : Addr} {sg : List Nat} {gs : List Fd} (h : WAt H wd ld sg gs) (e : ExN H H') : WAt H' wd ld sg gs := ⟨e _ _ h.w (fun _ z => nomatch z), e _ _ h.l (fun _ z => nomatch z)⟩
theorem tab_off {D C P0 : Addr} {T : Nat} {H H' : Hp} (g : TabG H P0) (k : DeckAt D C T H) (e : Off D C H H') : TabG H' P0 := by
  obtain ⟨ps, a, b⟩ := g
  obtain ⟨m, t, js, a1, a2, _⟩ := k.ex
  refine ⟨ps, e _ _ ?_ ?_ a, b⟩
  · rintro rfl
    rw [a] at a1
    cases a1
  · rintro rfl
    rw [a] at a2
    cases a2
/-! the two ways of an answer -/
inductive Ans
  | good (o : Option (List Nat))
  | bad (k : Int)
def ansV : Ans → Hp → V → Prop
  | .good o, _, v => v = optZ o
  | .bad k, H, v => ∃ q, v = .ref q ∧ q ≠ sysModules ∧ H q = some (.lst [.str "course", .int k, .bl true])
def ansD : Ans → PyData
  | .good none => .none
  | .good (some z) => .str (S z)
  | .bad k => .list [.str "course", .int k, .bool true]
theorem ans_dg {K : PySem.W.Frag} {H : Hp} {v : V} : ∀ {a : Ans}, ansV a H v → Dg K H v (ansD a)
  | .good none, h => by
    cases (show v = .non from h)
    exact .non
  | .good (some z), h => by
    cases (show v = .str (S z) from h)
    exact .str _
  | .bad k, h => by
    obtain ⟨q, rfl, n, z⟩ := h
    exact .lst n (SqL.of z) (.cons (.str _) (.cons (.int _) (.cons (.bl _) .nil)))
theorem ans_ex {H H' : Hp} {v : V} (e : ExN H H') : ∀ {a : Ans}, ansV a H v → ansV a H' v
  | .good _, h => h
  | .bad _, ⟨q, a, b, c⟩ => ⟨q, a, b, e _ _ c (fun _ z => nomatch z)⟩
theorem ans_put {H : Hp} {v : V} {M : Addr} {o : HO} (n : v ≠ .ref M) : ∀ {a : Ans}, ansV a H v → ansV a (upd H M o) v
  | .good _, h => h
  | .bad _, ⟨q, a, b, c⟩ => ⟨q, a, b, (upd_ne (fun z => n (by rw [a, z]))).trans c⟩
def AnsOk : Ans → Prop
  | .good o => ∀ z, o = some z → z.length ≤ 2000 ∧ ∀ c ∈ z, c < 128
  | .bad k => k.natAbs ≤ 10 ^ 40
theorem ans_ok : ∀ {a : Ans}, AnsOk a → OkD 3000 1 (ansD a)
  | .good none, _ => ⟨⟨rfl, by decide, by decide, by decide +kernel⟩, by decide +kernel⟩
  | .good (some z), h => (okD_str (h z rfl).2 (h z rfl).1).mono (by decide) (by decide)
  | .bad k, h => by
    have hc : OkD 20 0 (.str "course") := ⟨⟨rfl, by decide, by decide +kernel, by decide +kernel⟩, by decide +kernel⟩
    have hb : OkD 20 0 (.bool true) := ⟨⟨rfl, by decide, by decide +kernel, by decide +kernel⟩, by decide +kernel⟩
    exact ((LsOk.cons hc (LsOk.cons (okD_int2 h) (LsOk.cons hb (LsOk.nil (w := 0))))).lst).mono (by decide) (by decide)
theorem ok_twice {w n : Nat} {d : PyData} (h : OkD w n d) (hw : w ≤ 20000) (hn : n ≤ 30) : LsOk (w + 1 + (w + 1 + 0)) n [d, d] ∧ ShowOk (.list [d, d]) := by
  have l := LsOk.cons h (LsOk.cons h (LsOk.nil (w := 0)))
  exact ⟨l, l.lst.ok (by omega) (by omega)⟩
theorem push_exn {H0 H : Hp} {L : Addr} {o : HO} (hn : H0 L = none) (s : ExN H0 H) : ExN H0 (upd H L o) := by
  intro b u e n
  rw [upd_ne (ne_of_none e hn)]
  exact s b u e n
def AnsFor (fs : List Fd) (wss : List (List (List Nat))) (l : List Nat) (d : PyData) : Ans → Prop
  | .good o => wrongM wss.length d = .non ∧ ∀ ns : List Nat, d = .tuple (ns.map fun n => PyData.int ((n : Nat) : Int)) → o = crsM fs wss l ns
  | .bad k => wrongM wss.length d = .int k
theorem heard_of {K : PySem.W.Frag} {Cb P0 r fa ta b : Addr} {way : Nat} {sg l : List Nat} {fs : List Fd} {wss : List (List (List Nat))} {cv : V} {d : PyData} {H : Hp} {Q : VK} {E : XK} {a : Ans} (ha : AnsFor fs wss l d a)
    (hb : BkAt H Cb r sg fs fa ta) (hfs : FsOk sg fs) (hsh : ShAt K H b wss) (ht : TabG H P0) (hl : From sg l) (hll : l.length ≤ 100) (hd : Dg K H cv d) (hdl : ∀ ds, d = .tuple ds → ds.length ≤ 80)
    (q : ∀ H' v, ExN H H' → TabG H' P0 → ansV a H' v → (∀ x ys, H x = some (.lst ys) → v ≠ .ref x) → Q v H') : spHeard K Cb P0 [.ref r, .ref b, .str (S l), cv, .int ((way : Nat) : Int)] H Q E := by
  refine ⟨r, fa, ta, b, way, sg, fs, wss, .str (S l), cv, rfl, hb, hfs, hsh, ht, Or.inr ⟨l, d, ⟨rfl, hl, by omega⟩, by omega, hd, fun ds e => Nat.le_trans (hdl ds e) (by decide), fun k hk H' p e1 t1 n1 n2 z1 => ?_, fun ns hn ed H' e1 t1 => ?_⟩⟩
  · cases a with
    | good o => rw [ha.1] at hk; cases hk
    | bad k2 =>
      have ha : wrongM wss.length d = .int k2 := ha
      rw [ha] at hk
      cases hk
      exact q H' _ e1 t1 ⟨p, rfl, n2, z1⟩ fun x ys hx z => n1 x ys hx (by cases z; rfl)
  · cases a with
    | good o =>
      rw [← ha.2 ns ed]
      refine q H' _ e1 t1 rfl fun x ys hx z => ?_
      cases o <;> cases z
    | bad k2 =>
      have ha : wrongM wss.length d = .int k2 := ha
      rw [ha] at hn
      cases hn
theorem nats_inj : ∀ {as bs : List Nat}, (as.map fun n => PyData.int ((n : Nat) : Int)) = (bs.map fun n => PyData.int ((n : Nat) : Int)) → as = bs
  | [], [], _ => rfl
  | a :: as, b :: bs, h => by
    rw [List.map_cons, List.map_cons] at h
    injection h with h1 h2
    injection h1 with h1
    rw [nats_inj h2, Int.ofNat.inj h1]
  | [], _ :: _, h => by cases h
  | _ :: _, [], h => by cases h
theorem nats_dg {K : PySem.W.Frag} {H : Hp} : ∀ ns : List Nat, DgAll K H (intsV ns) (ns.map fun n => PyData.int ((n : Nat) : Int))
  | [] => .nil
  | _ :: r => .cons (.int _) (nats_dg r)
theorem wrong_nats {m : Nat} {ns : List Nat} (h : ∀ n ∈ ns, n < m) : wrongM m (.tuple (ns.map fun n => PyData.int ((n : Nat) : Int))) = .non := by
  show optI (firstN (badAt m _) _) = .non
  rw [first_none fun j hj => ?_]
  · rfl
  · rw [List.length_map] at hj
    unfold badAt
    rw [List.getD_eq_getElem?_getD, List.getElem?_map, List.getElem?_eq_getElem hj]
    have := h _ (List.getElem_mem hj)
    show (!(decide (0 ≤ ((ns[j] : Nat) : Int)) && decide (((ns[j] : Nat) : Int) < (m : Int)))) = false
    rw [decide_eq_true (by omega : 0 ≤ ((ns[j] : Nat) : Int)), decide_eq_true (by omega : ((ns[j] : Nat) : Int) < (m : Int))]
    rfl
theorem course_of {K : PySem.W.Frag} {Cb CW CP P0 r fa ta b t : Addr} {sg l ns : List Nat} {fs : List Fd} {wss : List (List (List Nat))} {H : Hp} {Q : VK} {E : XK}
    (hb : BkAt H Cb r sg fs fa ta) (hfs : FsOk sg fs) (hsh : ShAt K H b wss) (ht : TabG H P0) (hl : From sg l) (hll : l.length ≤ 1000) (hz : SqT K H t (intsV ns)) (hns : ∀ n ∈ ns, n < wss.length) (hnl : ns.length ≤ 500)
    (q : ∀ H', ExN H H' → TabG H' P0 → Q (optZ (crsM fs wss l ns)) H') : spCourse K Cb CW CP P0 [.ref r, .ref b, .str (S l), .ref t] H Q E := by
  refine ⟨r, fa, ta, b, sg, fs, wss, .str (S l), .ref t, rfl, hb, hfs, hsh, ht, Or.inr ⟨l, _, ⟨rfl, hl, hll⟩, hll, .tup hz (nats_dg ns), fun ds e => ?_, fun k hk => ?_, fun ns2 _ e H' e1 t1 => ?_⟩⟩
  · injection e with e
    rw [← e, List.length_map]
    exact hnl
  · rw [wrong_nats hns] at hk
    cases hk
  · injection e with e
    rw [← nats_inj e]
    exact q H' e1 t1
theorem BkAt.off {C D Cc : Addr} {T : Nat} {H H' : Hp} {r fa ta : Addr} {sg : List Nat} {fs : List Fd} (h : BkAt H C r sg fs fa ta) (f : Off D Cc H H') (k : DeckAt D Cc T H) : BkAt H' C r sg fs fa ta :=
  let ⟨⟨d, x⟩, y⟩ := h
  ⟨⟨d, f.at k x ⟨(fun _ z => nomatch z), (fun _ z => nomatch z)⟩⟩, f.at k y ⟨(fun _ z => nomatch z), (fun _ z => nomatch z)⟩⟩
theorem ints_to (ns : List Nat) (k : Nat) : cutV (intsV ns) none (some ((k : Nat) : Int)) = intsV (ns.take k) := by
  rw [cut_to]
  exact List.map_take.symm
theorem ints_from (ns : List Nat) (k : Nat) : cutV (intsV ns) (some ((k : Nat) : Int)) none = intsV (ns.drop k) := by
  rw [cut_from]
  exact List.map_drop.symm
theorem wrong_int {m : Nat} {d : PyData} {k : Int} (h : wrongM m d = .int k) (hdl : ∀ ds, d = .tuple ds → ds.length ≤ 80) : k.natAbs ≤ 80 := by
  unfold wrongM at h
  split at h
  · rename_i ds
    have := hdl ds rfl
    cases e : firstN (badAt m ds) ds.length with
    | none => rw [e] at h; cases h
    | some i =>
      rw [e] at h
      have h := V.int.inj h
      have := (first_is e).1
      omega
  · have h := V.int.inj h
    omega
theorem PS_imp {X : Cx} {st : Stmt} {t t' : TS} (h : PS X st t) (i : ∀ D σ H, t' D σ H → t D σ H) : PS X st t' := ⟨fun pins s σ H D I q => h.run pins s σ H D I (i D σ H q)⟩
theorem tab_put {H : Hp} {P0 M : Addr} {xs : List V} {o : HO} (g : TabG H P0) (z : H M = some (.lst xs)) : TabG (upd H M o) P0 := by
  obtain ⟨ps, a, b⟩ := g
  exact ⟨ps, (upd_ne (fun e => by rw [e, z] at a; cases a)).trans a, b⟩
/-- what is heard is what is due -/
def tSame (K : PySem.W.Frag) (Cb P0 : Addr) : TS := fun DD σ H => ∃ (r fa ta b : Addr) (sg l : List Nat) (fs : List Fd) (wss : List (List (List Nat))) (cv v : V) (d : PyData) (a : Ans) (y0 y1 y6 : Option V), σ = [y0, y1, some (.ref r), some (.ref b), some (.str (S l)), some cv, y6, some v, none, none, none] ∧
  AnsFor fs wss l d a ∧ AnsOk a ∧ ansV a H v ∧ BkAt H Cb r sg fs fa ta ∧ FsOk sg fs ∧ ShAt K H b wss ∧ TabG H P0 ∧ From sg l ∧ l.length ≤ 100 ∧ Dg K H cv d ∧ (∀ ds, d = .tuple ds → ds.length ≤ 80) ∧ ∀ H', ExN H H' → TabG H' P0 → DD.nx σ H'
theorem sl_tupNK {X : Cx} {K : PySem.W.Frag} (h : X.K = K) : SlR X (rSlN K) := h ▸ sl_tupN
abbrev lrN : List Str := ["_law_deck_here", "_law_w", "_law_code_here", "_law_shelf_here", "_law_web", "_law_it", "_law_bad", "_law_due", "_law_at", "_law_there", "_law_way"]
def spLedR (K : PySem.W.Frag) (Cb P0 : Addr) : Sp := fun vs H Q _ => ∃ (D C wd ld r fa ta b : Addr) (T : Nat) (sg l : List Nat) (fs gs : List Fd) (wss : List (List (List Nat))) (cv : V) (d : PyData), vs = [.ref D, .ref wd, .ref r, .ref b, .str (S l), cv] ∧ DeckAt D C T H ∧ T ≤ 900000 ∧
  WAt H wd ld sg gs ∧ GsOk sg gs ∧ zOk gs ∧ fs.Perm gs ∧ FsOk sg fs ∧ BkAt H Cb r sg fs fa ta ∧ ShAt K H b wss ∧ ShF sg wss ∧ TabG H P0 ∧ From sg l ∧ l.length ≤ 100 ∧ (∀ c ∈ sg, c < 128) ∧ Dg K H cv d ∧ d.weight ≤ 90000 ∧ (∀ ds, d = .tuple ds → ds.length ≤ 80) ∧
  ∀ H', DeckAt D C (T + 1) H' → OffX D C H H' → TabG H' P0 → Q (.bl true) H'
section
variable {P : Program} {w : World} {K : PySem.W.Frag} {mg : Str → Option Value} {base : Heap} {Cb CW CP P0 : Addr}
theorem ok_led_right {f fA fO fH fC fD : Addr} {fd fdA fdO fdH fdC fdD : FuncData} (F : Fun K "_law_led_right" "_law_led_right" s__law_led_right f fd) (B : Blt mg)
    (FD : Fun K "_law_draw" "_law_draw" s__law_draw fD fdD) (gD : mg "_law_draw" = some (.ref fD)) (bD : Binds K fdD ["_law_deck_here", "_law_below"] []) (GD : FnOk P w K mg base CX0 1 fD fdD ["_law_deck_here", "_law_below"] spDraw)
    (FA : Fun K "_law_fault" "_law_fault" s__law_fault fA fdA) (gFA : mg "_law_fault" = some (.ref fA)) (bA : Binds K fdA ["_law_shelf_here", "_law_it"] []) (GA : FnOk P w K mg base CX0 1 fA fdA ["_law_shelf_here", "_law_it"] (spFault K))
    (FO : Fun K "_law_course" "_law_course" s__law_course fO fdO) (gO : mg "_law_course" = some (.ref fO)) (bO : Binds K fdO ["_law_w", "_law_shelf_here", "_law_web", "_law_course_here"] []) (GO : FnOk P w K mg base CX0 3 fO fdO ["_law_w", "_law_shelf_here", "_law_web", "_law_course_here"] (spLCrs K))
    (FH : Fun K "_law_heard" "_law_heard" s__law_heard fH fdH) (gH : mg "_law_heard" = some (.ref fH)) (bH : Binds K fdH ["_law_code_here", "_law_shelf_here", "_law_web", "_law_course_here", "_law_way"] []) (GH : FnG P w K mg base CX0 7 fH fdH ["_law_code_here", "_law_shelf_here", "_law_web", "_law_course_here", "_law_way"] (spHeard K Cb P0))
    (FC : Fun K "course_led" "course_led" s_course_led fC fdC) (gC : mg "course_led" = some (.ref fC)) (bC : Binds K fdC ["book", "shelf", "web", "course"] []) (GC : FnOk P w K mg base (L2.CX P w) 5 fC fdC ["book", "shelf", "web", "course"] (spCourse K Cb CW CP P0)) :
    FnG P w K mg base CX0 9 f fd ["_law_deck_here", "_law_w", "_law_code_here", "_law_shelf_here", "_law_web", "_law_it"] (spLedR K Cb P0) := by
  refine Mq.Fun.okG F sc__law_led_right (fun vs H Q E h => ?_) (fun cdv A outer s H vs Q E gA hr h => ?_)
  · obtain ⟨_, _, _, _, _, _, _, _, _, _, _, _, _, _, _, _, rfl, _⟩ := h
    rfl
  · obtain ⟨D, C, wd, ld, r, fa, ta, b, T, sg, l, fs, gs, wss, cv, d, rfl, hdk, hT, hw, hg, hz, hpm, hfs, hb, hsh, hsf, ht, hl, hll, hlow, hd, hwt, hdl, q⟩ := h
    have hr5 : Room 5 (A.deeper (envOfC "_law_led_right" (defScope s__law_led_right) s.heap.objs.size f cdv)) := hr.mono (by decide)
    refine ⟨_, (pss_cons (ps_set (i := 6) sc__law_led_right.nd rfl (Or.inl rfl) (pe_call GA (hr.mono (by decide)) (by rfl) gFA FA.kp bA .nil pass0 (pa_cons (pv 3) (pa_cons (pv 5) pa_nil))))
    (pss_cons (ps_set (i := 7) sc__law_led_right.nd rfl (Or.inl rfl) (pe_ifExp (pt_cmpR op_isN (pv 6) pe_non (nomark _)) (pe_call GO (hr.mono (by decide)) (by rfl) gO FO.kp bO .nil pass0 (pa_cons (pv 1) (pa_cons (pv 3) (pa_cons (pv 4) (pa_cons (pv 5) pa_nil))))) (Mq.pe_ls (pa_cons pe_str (pa_cons (pv 6) (pa_cons pe_bl pa_nil))))))
    (pss_cons (PS_imp (t' := tSame K Cb P0) (ps_if (pt_cmpR op_ne (pe_callB (call_repL hr gA) (by rfl) B.repr (by decide +kernel) (pa_cons (pe_lc (own := [("_law_way", 10)]) (g := gName 10) (tt := tYes) rfl sc__law_led_right.nd (pi_range1 (by rfl) B.range (pa_cons pe_int pa_nil)) (blkOk_by (own := [("_law_way", 10)]) (N := lrN) (sc := defScope s__law_led_right) (by decide +kernel)) (fun _ _ _ _ _ => pg_name (i := 10) sc__law_led_right.nd rfl (Or.inl rfl)) (fun _ _ _ _ _ => pts_nil) (fun _ _ _ _ _ => (pe_callG GH gA (hr.mono (by decide)) (by rfl) gH FH.kp bH pass0 (pa_cons (pv 2) (pa_cons (pv 3) (pa_cons (pv 4) (pa_cons (pv 5) (pa_cons (pv 10) pa_nil)))))))) pa_nil)) (pe_callB (call_rep hr gA) (by rfl) B.repr (by decide +kernel) (pa_cons (Mq.pe_ls (pa_cons (pv 7) (pa_cons (pv 7) pa_nil))) pa_nil)) (nomark _)) (pss_one (ps_ret pe_bl)) pss_nil) (fun DD σ H h => by
        obtain ⟨r, fa, ta, b, sg, l, fs, wss, cv, v, d, a, y0, y1, y6, rfl, ha, hok, hv, hb, hfs, hsh, ht, hl, hll, hd, hdl, q⟩ := h
        refine ⟨2, rfl, by decide, by decide, fun M hM => ?_⟩
        refine lc_yes (walk_rng (n := 2)) (fun k H' => ExN H H' ∧ TabG H' P0 ∧ ∃ ws, H' M = some (.lst ws) ∧ ws.length = k ∧ ∀ u ∈ ws, ansV a H' u ∧ u ≠ .ref M) ⟨ExN.of (same_new hM), Mq.TabG.same ht (same_new hM), [], upd_same, rfl, fun _ h => nomatch h⟩ (fun _ _ _ _ => trivial) ?_ ?_
        · rintro k y Hk Hk' hk ⟨ek, tk, ws, zk, hwl, hws⟩ ⟨rfl, rfl⟩
          refine ⟨rfl, _, rfl, _, rfl, _, rfl, _, rfl, _, rfl, heard_of (E := E0) ha (hb.exn ek) hfs (hsh.kp (KpT.exn ek)) tk hl hll (Dg.exn ek hd) hdl fun H7 v7 e7 t7 a7 n7 => ?_⟩
          have z7 := e7 _ _ zk (fun _ z => nomatch z)
          have n7 := n7 _ _ zk
          refine ⟨ws, z7, sz_lt (by omega), push_exn hM (ek.trans e7), tab_put t7 z7, ws ++ [v7], upd_same, by rw [List.length_append, hwl]; rfl, fun u hu => ?_⟩
          rcases List.mem_append.mp hu with hu | hu
          · obtain ⟨x1, x2⟩ := hws u hu
            exact ⟨ans_put x2 (ans_ex e7 x1), x2⟩
          · rw [List.mem_singleton.mp hu]
            exact ⟨ans_put n7 a7, n7⟩
        rintro H7 ⟨e7, t7, ws, zM, hwl, hws⟩
        obtain ⟨u0, u1, rfl⟩ : ∃ u0 u1, ws = [u0, u1] := by
          match ws, hwl with
          | [a, b], _ => exact ⟨a, b, rfl⟩
        have dg0 : Dg K H7 u0 (ansD a) := ans_dg (hws u0 (by simp)).1
        have dg1 : Dg K H7 u1 (ansD a) := ans_dg (hws u1 (by simp)).1
        have dgv : Dg K H7 v (ansD a) := ans_dg (ans_ex e7 hv)
        obtain ⟨ls, sk⟩ := ok_twice (ans_ok hok) (by decide) (by decide)
        refine ⟨M, [u0, u1], [ansD a, ansD a], rfl, SqL.of zM, .cons dg0 (.cons dg1 .nil), ls.sh, Nat.le_trans ls.de (by decide), sk.le, ?_⟩
        refine ⟨_, rfl, _, rfl, sz_le (n := 2) (by decide), fun p1 hp1 np1 => ?_⟩
        have s9 := same_new (o := HO.lst [v, v]) hp1
        refine ⟨_, .list [ansD a, ansD a], rfl, .lst np1 (SqL.of upd_same) (.cons (dgv.same s9) (.cons (dgv.same s9) .nil)), sk.sh, sk.de, sk.le, rfl, _, rfl, ?_⟩
        rw [decide_eq_true rfl]
        exact ifF rfl (q _ (e7.trans (ExN.of s9)) (Mq.TabG.same t7 s9))))
    (pss_cons (ps_if (PW.pt (pw_and (pt_cmpR op_isN (pv 6) pe_non (nomark _)) (pw_and1 (pt_cmpR op_notN (pv 7) pe_non (nomark _))))) (pss_cons (ps_set (i := 8) sc__law_led_right.nd rfl (Or.inl rfl) (pe_call GD (hr.mono (by decide)) (by rfl) gD FD.kp bD .nil pass0 (pa_cons (pv 0) (pa_cons (pe_op op_add (pe_callB call_len (by rfl) B.len (by decide +kernel) (pa_cons (pv 5) pa_nil)) pe_int) pa_nil))))
      (pss_cons (ps_set (i := 9) sc__law_led_right.nd rfl (Or.inl rfl) (pe_callS (E := WE fun _ _ _ _ => False) GC hr5 (by rfl) gC FC.kp bC (fun σ => passAt takes0 σ) (pa_cons (pv 2) (pa_cons (pv 3) (pa_cons (pv 4) (pa_cons (pe_slice (sl_tupNK (K := K) rfl) (pv 5) po_none (po_some (pv 8))) pa_nil))))))
      (pss_one (ps_ret (pe_cmpR op_eq (pe_callS (E := WE fun _ _ _ _ => False) GC hr5 (by rfl) gC FC.kp bC (fun σ => passAt takes0 σ) (pa_cons (pv 2) (pa_cons (pv 3) (pa_cons (pv 9) (pa_cons (pe_slice (sl_tupNK (K := K) rfl) (pv 5) (po_some (pv 8)) po_none) pa_nil))))) (pv 7) (nomark _)))))) pss_nil)
    (pss_one (ps_ret pe_bl)))))), ?_⟩
    obtain ⟨⟨ss, hss, hwf⟩, hit⟩ := id hsh
    have hsl := each_len hwf
    refine ⟨_, rfl, _, rfl, b, ss, cv, d, rfl, hss, hd, by omega, fun H1 s1 => ?_⟩
    rw [hsl]
    rcases wrong_or wss.length d with hw0 | ⟨k, hw0⟩
    · rw [hw0]
      obtain ⟨ca, ns, rfl, hz0, ed, hns⟩ := right_nats hd hw0
      have hnl : ns.length ≤ 80 := by
        have := hdl _ ed
        rw [List.length_map] at this
        exact this
      have hw10 : ∀ n, n < wss.length → (wss.getD n []).length ≤ 10 := fun n hn => by
        obtain ⟨_, _, _, _, _, _, h⟩ := hsh.get hn
        exact h
      refine ⟨_, rfl, rfl, _, rfl, ifT rfl ⟨_, rfl, _, rfl, _, rfl, _, rfl, wd, ld, b, ca, sg, l, ns, gs, wss, rfl, hw.same s1, hz, hsh.kp (KpT.same s1), Same.tup s1 hz0, hns, by omega, by omega, fun H2 s2 => ?_⟩⟩
      have s02 := s1.trans s2
      refine ⟨r, fa, ta, b, sg, l, fs, wss, _, _, d, .good (crsM gs wss l ns), _, _, _, rfl, ⟨hw0, fun ns2 e2 => ?_⟩, fun z ez => ⟨?_, ?_⟩, rfl, hb.exn (ExN.of s02), hfs, hsh.kp (KpT.same s02), Mq.TabG.same ht s02, hl, hll, hd.same s02, hdl, fun H3 e3 t3 => ?_⟩
      · rw [ed] at e2
        injection e2 with e2
        rw [nats_inj e2, crs_eq hg.nd hpm]
      · have := crs_len hz hw10 ns l z hns ez
        omega
      · exact fun c hc => hlow c (crs_from hg.ok (fun ws hws u hu => (hsf.2.2 ws hws).2 u hu) hl ez c hc)
      · have e03 := (ExN.of s02).trans e3
        refine ⟨_, rfl, rfl, _, rfl, ifT rfl ⟨_, rfl, rfl, _, rfl, ?_⟩⟩
        cases ec : crsM gs wss l ns with
        | none => exact ifF rfl (q H3 ((hdk.exn e03).mono (by omega)) (OffX.ex e03) t3)
        | some z =>
          have hb3 := hb.exn e03
          have hsh3 := hsh.kp (KpT.exn e03)
          have z3 := e03.tup hz0
          have dk3 := hdk.exn e03
          refine ifT rfl ⟨_, rfl, _, rfl, _, _, rfl, Or.inr ⟨_, z3, rfl⟩, _, _, rfl, rfl, D, C, T, ns.length + 1, by rw [List.length_map]; rfl, dk3, by omega, by omega, by omega, fun H4 k hk dk4 off4 => ?_⟩
          have hb4 : BkAt H4 Cb r sg fs fa ta := hb3.off off4 dk3
          have hsh4 := hsh3.kp (KpT.off off4 dk3)
          have z4 := off4.tup dk3 z3
          have t4 := tab_off t3 dk3 off4
          refine ⟨_, rfl, _, rfl, _, rfl, _, rfl, _, rfl, _, rfl, ca, _, rfl, z4, fun ta1 H5 s5 zt1 => ?_⟩
          rw [ints_to] at zt1
          obtain ⟨l1, el1, el2⟩ := crs_cut k ec
          have hl1 := crs_from hg.ok (fun ws hws u hu => (hsf.2.2 ws hws).2 u hu) hl el1
          have hll1 : l1.length ≤ 1000 := by
            have := crs_len hz hw10 (ns.take k) l l1 (fun n hn => hns n (List.mem_of_mem_take hn)) el1
            rw [List.length_take] at this
            omega
          have e45 := ExN.of s5
          unfold tNil
          dsimp only
          refine course_of (hb4.exn e45) hfs (hsh4.kp (KpT.exn e45)) (Mq.TabG.same t4 s5) hl (by omega) zt1 (fun n hn => hns n (List.mem_of_mem_take hn)) (by rw [List.length_take]; omega) fun H6 e6 t6 => ?_
          rw [crs_eq hg.nd hpm, el1]
          have e46 := e45.trans e6
          refine ⟨_, rfl, _, rfl, _, rfl, _, rfl, _, rfl, _, rfl, ca, _, rfl, e46.tup z4, fun ta2 H7 s7 zt2 => ?_⟩
          rw [ints_from] at zt2
          have e47 := e46.trans (ExN.of s7)
          dsimp only
          refine course_of (hb4.exn e47) hfs (hsh4.kp (KpT.exn e47)) (Mq.TabG.same t6 s7) hl1 hll1 zt2 (fun n hn => hns n (List.mem_of_mem_drop hn)) (by rw [List.length_drop]; omega) fun H8 e8 t8 => ?_
          rw [crs_eq hg.nd hpm, el2]
          have e48 := e47.trans e8
          refine ⟨_, rfl, rfl, ?_⟩
          rw [decide_eq_true rfl]
          exact q H8 (dk4.exn e48) (((OffX.ex e03).trans (OffX.of off4)).trans (OffX.ex e48)) t8
    · rw [hw0]
      refine ⟨_, rfl, rfl, _, rfl, ifF rfl ⟨_, rfl, sz_le (n := 3) (by decide), fun q1 hq1 nq1 => ?_⟩⟩
      have s2 := same_new (o := HO.lst [V.str "course", V.int k, V.bl true]) hq1
      have s02 := s1.trans s2
      refine ⟨r, fa, ta, b, sg, l, fs, wss, _, _, d, .bad k, _, _, _, rfl, hw0, ?_, ⟨q1, rfl, nq1, upd_same⟩, hb.exn (ExN.of s02), hfs, hsh.kp (KpT.same s02), Mq.TabG.same ht s02, hl, hll, hd.same s02, hdl, fun H3 e3 t3 => ?_⟩
      · exact Nat.le_trans (wrong_int hw0 hdl) (by decide)
      · have e03 := (ExN.of s02).trans e3
        exact ⟨_, rfl, rfl, _, rfl, ifF rfl (ifF rfl (q H3 ((hdk.exn e03).mono (by omega)) (OffX.ex e03) t3))⟩
end
end Lw

namespace Lw
open PySem PySem.Spec PyProof.Rows L2 Mq
open SX (S)
open PySem.W (EachIs)
/-! ### shelves of any value, asked -/
theorem show_two (b : Bool) : ShowOk (.list [.bool b, .bool b]) := by
  cases b <;> exact ⟨rfl, by decide, sz_le (by decide +kernel)⟩
def itsD (ws : List (List Nat)) : List PyData := ws.map fun l => PyData.str (S l)
def shD (wss : List (List (List Nat))) : List PyData := wss.map fun ws => PyData.tuple (itsD ws)
theorem its_dv {K : PySem.W.Frag} {N : Addr → Prop} {H : Hp} : ∀ ws : List (List Nat), DvAll K N H (txs ws) (itsD ws)
  | [] => .nil
  | _ :: r => .cons (.str _) (its_dv r)
theorem its_ok {sg : List Nat} (hs : ∀ c ∈ sg, c < 128) : ∀ {ws : List (List Nat)}, (∀ u ∈ ws, ItF sg u) → LsOk (3 * ws.length) 0 (itsD ws)
  | [], _ => LsOk.nil
  | l :: ws, h => by
    have ih := its_ok hs (ws := ws) fun u hu => h u (List.mem_cons_of_mem _ hu)
    have h1 : OkD 2 0 (.str (S l)) := by
      rcases h l List.mem_cons_self with ⟨c, hc, rfl⟩ | ⟨c, rfl, hc⟩
      · exact okD_str (fun x hx => by rw [List.mem_singleton.mp hx]; exact hs c hc) (Nat.le_succ 1)
      · refine okD_str (fun x hx => ?_) (Nat.le_refl 2)
        rcases List.mem_cons.mp hx with rfl | hx
        · decide
        · rw [List.mem_singleton.mp hx]
          rcases hc with hc | rfl
          · exact hs c hc
          · decide
    refine (LsOk.cons h1 ih).mono ?_ (Nat.le_refl _)
    rw [List.length_cons]
    omega
theorem its_box {b : Nat} (ws : List (List Nat)) (h : ws.length ≤ 3) : boxB b (.tuple (itsD ws)) = true :=
  boxB_tup.mpr ⟨by unfold itsD; rw [List.length_map]; omega, boxAll_of fun d hd => by obtain ⟨l, _, rfl⟩ := List.mem_map.mp hd; rfl⟩
theorem wft_od {K : PySem.W.Frag} {N : Addr → Prop} {H : Hp} {v : V} {sg : List Nat} {ws : List (List Nat)} (hs : ∀ c ∈ sg, c < 128) (h : WfAt K H v ws) (hl : ws.length ≤ 3) (hi : ∀ u ∈ ws, ItF sg u) : OdX K N 9 1 0 H v := by
  obtain ⟨p, rfl, z⟩ := h
  exact ⟨.tuple (itsD ws), .tup z (its_dv ws), ((its_ok hs hi).mono (by omega) (Nat.le_refl _)).tup, its_box ws hl⟩
theorem sh_dv {K : PySem.W.Frag} {N : Addr → Prop} {H : Hp} : ∀ {vs : List V} {wss : List (List (List Nat))}, EachIs (WfAt K H) vs wss → DvAll K N H vs (shD wss)
  | _, _, .nil => .nil
  | _, _, .cons ⟨_, rfl, z⟩ t => .cons (.tup z (its_dv _)) (sh_dv t)
theorem sh_ok {sg : List Nat} (hs : ∀ c ∈ sg, c < 128) : ∀ {wss : List (List (List Nat))}, (∀ ws ∈ wss, ws.length ≤ 3 ∧ ∀ u ∈ ws, ItF sg u) → LsOk (10 * wss.length) 1 (shD wss)
  | [], _ => LsOk.nil
  | ws :: wss, h => by
    obtain ⟨h1, h2⟩ := h ws List.mem_cons_self
    refine (LsOk.cons ((its_ok hs h2).mono (by omega : _ ≤ 9) (Nat.le_refl _)).tup (sh_ok hs fun x hx => h x (List.mem_cons_of_mem _ hx))).mono ?_ (Nat.le_refl _)
    rw [List.length_cons]
    omega
theorem sh_od {K : PySem.W.Frag} {N : Addr → Prop} {H : Hp} {b : Addr} {sg : List Nat} {wss : List (List (List Nat))} (hs : ∀ c ∈ sg, c < 128) (h : ShAt K H b wss) (hf : ShF sg wss) : OdX K N 30 2 0 H (.ref b) := by
  obtain ⟨⟨ss, hss, hwf⟩, _⟩ := h
  obtain ⟨h0, h1, h2⟩ := hf
  refine ⟨.tuple (shD wss), .tup hss (sh_dv hwf), ((sh_ok hs h2).mono (by omega) (Nat.le_refl _)).tup, boxB_tup.mpr ⟨?_, boxAll_of fun d hd => ?_⟩⟩
  · unfold shD
    rw [List.length_map]
    omega
  · obtain ⟨ws, hw, rfl⟩ := List.mem_map.mp hd
    exact its_box ws (h2 ws hw).1
theorem spoilt_of {K : PySem.W.Frag} {D C : Addr} {T1 n w m b : Nat} {H1 : Hp} {N : Addr → Prop} {v : V} {Q : VK} {E : XK} (hN : ∀ a, N a → a ≠ D ∧ a ≠ C) (hN1 : ∀ a, H1 a = none → N a) (dk : DeckAt D C T1 H1) (hT : T1 ≤ 890000) (od : OdX K N w m b H1 v) (hw : w ≤ 20000) (hm : m ≤ n) (hb : b ≤ 5) (hn : n ≤ 100)
    (q : ∀ H2 u T2, T2 ≤ T1 + 4 * (n + 1) → DeckAt D C T2 H2 → Off D C H1 H2 → OdX K N (2 * w + 200) (m + 3) (b + 1) H2 u → Q u H2) : spSpoilt K n [.ref D, v] H1 Q E := by
  obtain ⟨d, dv, ok, bx⟩ := od
  have hwd := ok.gs.we
  exact ⟨D, C, T1, v, d, m, b, N, rfl, dk, by omega, dv, hN, ok.exact, by omega, hm, bx, hb, fun H2 u T2 hT2 dk2 off2 od2 => q H2 u T2 hT2 dk2 off2 (od2.mono (fun x hx => hx.elim id (hN1 x)) (by omega) (Nat.le_refl _) (Nat.le_refl _))⟩
theorem od_off {K : PySem.W.Frag} {D C : Addr} {T1 w m b : Nat} {H1 H2 : Hp} {N : Addr → Prop} {v : V} (od : OdX K N w m b H1 v) (hN : ∀ a, N a → a ≠ D ∧ a ≠ C) (dk : DeckAt D C T1 H1) (off : Off D C H1 H2) : OdX K N w m b H2 v :=
  od.kp (fun a o ha z => off a o (hN a ha).1 (hN a ha).2 z) (fun a xs z => off.tup dk z)
abbrev srN : List Str := ["_law_deck_here", "_law_letters", "_law_shelf_here", "_law_some", "_law_go", "_law_bent", "_law_it", "_law_was", "_law_due"]
def tLoopS (K : PySem.W.Frag) : TS := fun DD σ H => ∃ (ps : Addr) (sg : List Nat) (xs : List V) (N : Addr → Prop) (y0 y2 y4 y5 y6 y7 y8 : Option V), σ = [y0, some (.str (S sg)), y2, some (.ref ps), y4, y5, y6, y7, y8] ∧ sg.length ≤ 900 ∧ H ps = some (.lst xs) ∧ (∀ v ∈ xs, OdX K N 1500 12 3 H v) ∧ ∀ σ' H', Same H H' → DD.nx σ' H'
def spShR (K : PySem.W.Frag) : Sp := fun vs H Q _ => ∃ (D C b : Addr) (T : Nat) (sg : List Nat) (wss : List (List (List Nat))), vs = [.ref D, .str (S sg), .ref b] ∧ DeckAt D C T H ∧ T ≤ 800000 ∧ ShAt K H b wss ∧ ShF sg wss ∧ sg.length ≤ 3 ∧ (∀ c ∈ sg, c < 128) ∧
  ∀ H', DeckAt D C (T + 400) H' → Off D C H H' → Q (.bl true) H'
section
variable {P : Program} {w : World} {K : PySem.W.Frag} {mg : Str → Option Value} {base : Heap}
theorem ok_shelves_right {f fS fL fQ : Addr} {fd fdS fdL fdQ : FuncData} (F : Fun K "_law_shelves_right" "_law_shelves_right" s__law_shelves_right f fd) (B : Blt mg)
    (FS : Fun K "_law_spoilt" "_law_spoilt" s__law_spoilt fS fdS) (gS : mg "_law_spoilt" = some (.ref fS)) (bS : Binds K fdS ["_law_deck_here", "_law_it"] []) (GS : FnOk P w K mg base CX0 12 fS fdS ["_law_deck_here", "_law_it"] (spSpoilt K 8))
    (FL : Fun K "_law_is_shelf" "_law_is_shelf" s__law_is_shelf fL fdL) (gL : mg "_law_is_shelf" = some (.ref fL)) (bL : Binds K fdL ["_law_letters", "_law_it"] []) (GL : FnOk P w K mg base CX0 2 fL fdL ["_law_letters", "_law_it"] (spLShelf K))
    (FQ : Fun K "is_shelf" "is_shelf" s_is_shelf fQ fdQ) (gQ : mg "is_shelf" = some (.ref fQ)) (bQ : Binds K fdQ ["letters", "thing"] []) (kQ : KBn K fdQ ["letters", "thing"] 0 ["thing", "letters"] rev0 rev0) (GQ : FnOk P w K mg base CX0 4 fQ fdQ ["letters", "thing"] (spShelfA K)) :
    FnG P w K mg base CX0 13 f fd ["_law_deck_here", "_law_letters", "_law_shelf_here"] (spShR K) := by
  refine Mq.Fun.okG F sc__law_shelves_right (fun vs H Q E h => ?_) (fun cdv A outer s H vs Q E gA hr h => ?_)
  · obtain ⟨_, _, _, _, _, _, rfl, _⟩ := h
    rfl
  · obtain ⟨D, C, b, T, sg, wss, rfl, hdk, hT, hsh, hsf, hsl, hlow, q⟩ := h
    have hr4 : Room 4 (A.deeper (envOfC "_law_shelves_right" (defScope s__law_shelves_right) s.heap.objs.size f cdv)) := hr.mono (by decide)
    refine ⟨_, (pss_cons (ps_set (i := 3) sc__law_shelves_right.nd rfl (Or.inl rfl) (Mq.pe_ls (pa_cons (pv 2) (pa_cons (pe_tup pa_nil) (pa_cons pe_non (pa_cons pe_int (pa_cons pe_str (pa_cons (Mq.pe_ls pa_nil) (pa_cons pe_dnewK (pa_cons (pe_tup (pa_cons (pe_tup pa_nil) pa_nil)) (pa_cons (pe_tup (pa_cons pe_str pa_nil)) (pa_cons (pe_tup (pa_cons (pe_tup (pa_cons pe_str (pa_cons pe_str pa_nil))) pa_nil)) (pa_cons (pe_tup (pa_cons (pe_tup (pa_cons pe_str (pa_cons pe_str pa_nil))) pa_nil)) (pa_cons (pe_tup (pa_cons (pe_tup (pa_cons pe_str pa_nil)) pa_nil)) (pa_cons (pe_tup (pa_cons (pe_tup (pa_cons pe_str pa_nil)) pa_nil)) pa_nil)))))))))))))))
    (pss_cons (ps_set (i := 3) sc__law_shelves_right.nd rfl (Or.inl rfl) (pe_op op_cat (pv 3) (Mq.pe_ls (pa_cons (pe_tup (pa_cons (pe_tup (pa_cons pe_str pa_nil)) pa_nil)) (pa_cons (pe_tup (pa_cons (pe_tup pa_nil) (pa_cons (pe_tup (pa_cons pe_str (pa_cons pe_str pa_nil))) pa_nil))) (pa_cons (Mq.pe_ls (pa_cons (pe_tup (pa_cons pe_str pa_nil)) pa_nil)) (pa_cons (pe_tup (pa_cons (Mq.pe_ls (pa_cons pe_str pa_nil)) pa_nil)) (pa_cons (pe_tup (pa_cons (pe_tup (pa_cons pe_non pa_nil)) pa_nil)) (pa_cons (pe_tup (pa_cons (pe_tup (pa_cons pe_str pa_nil)) pa_nil)) (pa_cons (pe_tup (pa_cons (pe_tup (pa_cons pe_str pa_nil)) pa_nil)) (pa_cons (pe_ix ix_tup (pv 2) pe_int (fun _ _ => rfl)) pa_nil)))))))))))
    (pss_cons (ps_for (passes_of rfl) rfl (pi_range1 (by rfl) B.range (pa_cons pe_int pa_nil)) (pg_name (i := 4) sc__law_shelves_right.nd rfl (Or.inl rfl))
      (pss_cons (ps_set (i := 5) sc__law_shelves_right.nd rfl (Or.inl rfl) (pe_call GS (hr.mono (by decide)) (by rfl) gS FS.kp bS .nil pass0 (pa_cons (pv 0) (pa_cons (pv 2) pa_nil))))
      (pss_one (ps_set (i := 3) sc__law_shelves_right.nd rfl (Or.inl rfl) (pe_op op_cat (pv 3) (Mq.pe_ls (pa_cons (pv 5) (pa_cons (pe_call GS (hr.mono (by decide)) (by rfl) gS FS.kp bS .nil pass0 (pa_cons (pv 0) (pa_cons (pv 5) pa_nil))) pa_nil))))))))
    (pss_cons (PS_imp (t' := tLoopS K) (ps_for (passes_of rfl) rfl (pi_list (pv 3)) (pg_name (i := 6) sc__law_shelves_right.nd rfl (Or.inl rfl))
      (pss_cons (ps_par (i := 7) (j := 8) rfl sc__law_shelves_right.nd rfl rfl (by decide) rfl rfl (pa_cons (pe_callB (call_rep hr gA) (by rfl) B.repr (by decide +kernel) (pa_cons (pv 6) pa_nil)) (pa_cons (pe_call GL (hr.mono (by decide)) (by rfl) gL FL.kp bL .nil pass0 (pa_cons (pv 1) (pa_cons (pv 6) pa_nil))) pa_nil)) (by rfl))
      (pss_one (ps_if (PW.pt (pw_or (pt_cmpR op_ne (pe_callB (call_rep hr gA) (by rfl) B.repr (by decide +kernel) (pa_cons (Mq.pe_ls (pa_cons (pe_call GQ (hr.mono (by decide)) (by rfl) gQ FQ.kp bQ .nil pass0 (pa_cons (pv 1) (pa_cons (pv 6) pa_nil))) (pa_cons (pe_callK0 (E := fun _ => E0) GQ hr4 (by rfl) gQ FQ.kp kQ (fun _ => cx0_at) (pk_cons (pv 6) (pk_cons (pv 1) pk_nil))) pa_nil))) pa_nil)) (pe_callB (call_rep hr gA) (by rfl) B.repr (by decide +kernel) (pa_cons (Mq.pe_ls (pa_cons (pv 8) (pa_cons (pv 8) pa_nil))) pa_nil)) (nomark _)) (pw_or1 (pt_cmpR op_ne (pe_callB (call_rep hr gA) (by rfl) B.repr (by decide +kernel) (pa_cons (pv 6) pa_nil)) (pv 7) (nomark _))))) (pss_one (ps_ret pe_bl)) pss_nil)))) (fun DD σ H h => by
        obtain ⟨ps, sg, xs, N, y0, y2, y4, y5, y6, y7, y8, rfl, hsl, zps, hall, q⟩ := h
        refine ⟨_, rfl, ps, rfl, ⟨_, SqL.of zps⟩, ?_⟩
        refine for_it (walk_list (K := K) (a := ps) (xs := xs)) (fun i σ H' => Same H H' ∧ ∃ y6 y7 y8, σ = [y0, some (.str (S sg)), y2, some (.ref ps), y4, y5, y6, y7, y8]) ⟨Same.refl _, _, _, _, rfl⟩ (fun i σ H' _ pp => SqL.of (pp.1 _ _ zps)) ?_ ?_
        · rintro i v σ Ha Ha' hi ⟨sa, y6, y7, y8, rfl⟩ ⟨rfl, hx⟩
          obtain ⟨d, hv, okd, _⟩ := (hall v (List.mem_of_getElem? hx)).same sa
          have shd := okd.ok (by decide) (by decide)
          have hwt : d.weight ≤ 1500 := okd.gs.we
          have hd := hv.dg
          have sb := show_two (shelfD sg d)
          refine ⟨_, rfl, v, d, rfl, hd, shd.sh, shd.de, shd.le, ?_⟩
          refine ⟨_, rfl, _, rfl, sg, v, d, rfl, by omega, hd, by omega, fun H1 s1 => ⟨_, _, rfl, ?_⟩⟩
          refine ⟨_, rfl, _, rfl, sg, v, d, rfl, hd.same s1, by omega, fun H2 s2 => ?_⟩
          have s02 := s1.trans s2
          refine ⟨_, rfl, _, rfl, rfl, sg, v, d, rfl, hd.same s02, by omega, fun H3 s3 => ?_⟩
          have s03 := s02.trans s3
          refine ⟨sz_le (n := 2) (by decide), fun pa hpa hna => ?_⟩
          refine ⟨_, .list [.bool (shelfD sg d), .bool (shelfD sg d)], rfl, .lst hna (SqL.of upd_same) (.cons (.bl _) (.cons (.bl _) .nil)), sb.sh, sb.de, sb.le, ?_⟩
          have s4 := s03.trans (same_new (o := HO.lst [V.bl (shelfD sg d), V.bl (shelfD sg d)]) hpa)
          refine ⟨_, rfl, _, rfl, sz_le (n := 2) (by decide), fun pb hpb hnb => ?_⟩
          have s5 := s4.trans (same_new (o := HO.lst [V.bl (shelfD sg d), V.bl (shelfD sg d)]) hpb)
          refine ⟨_, .list [.bool (shelfD sg d), .bool (shelfD sg d)], rfl, .lst hnb (SqL.of upd_same) (.cons (.bl _) (.cons (.bl _) .nil)), sb.sh, sb.de, sb.le, rfl, _, rfl, ?_⟩
          rw [decide_eq_true rfl]
          refine ifF rfl ⟨_, rfl, v, d, rfl, hd.same s5, shd.sh, shd.de, shd.le, _, rfl, rfl, _, rfl, ?_⟩
          rw [decide_eq_true rfl]
          exact ifF rfl ⟨sa.trans s5, _, _, _, rfl⟩
        · rintro σ H1 ⟨s1, y6, y7, y8, rfl⟩
          exact q _ H1 s1))
    (pss_one (ps_ret pe_bl)))))), ?_⟩
    have dk := hdk
    have off : Off D C H H := Off.refl _ _ _
    obtain ⟨⟨ss, hb, hwf⟩, hit⟩ := id hsh
    have hod : OdX K (fun a => H a = none) 30 2 0 H (.ref b) := sh_od hlow hsh hsf
    obtain ⟨w0, rs, rfl, hod0⟩ : ∃ w0 rs, ss = w0 :: rs ∧ OdX K (fun a => H a = none) 9 1 0 H w0 := by
      cases hwf with
      | nil => exact absurd hsf.1 (by decide)
      | @cons w0 ws0 rs wr x t => exact ⟨w0, rs, rfl, wft_od hlow x (hsf.2.2 ws0 List.mem_cons_self).1 (hsf.2.2 ws0 List.mem_cons_self).2⟩
    refine ⟨_, rfl, sz_le (n := 0) (by decide), fun p1 hp1 => ?_⟩
    have sN := same_new (o := HO.tup []) hp1
    have hb := Same.tup sN hb
    have hod := hod.same sN
    have hod0 := hod0.same sN
    have zp1 : SqT K (upd H p1 (.tup [])) p1 [] := Or.inl (Or.inl upd_same)
    have dk := dk.same sN
    have off := off.trans (Off.same (D := D) (C := C) sN)
    clear sN hp1
    generalize upd H p1 (.tup []) = G1 at zp1 hb hod hod0 dk off ⊢
    refine ⟨sz_le (n := 0) (by decide), fun p2 hp2 mp2 => ?_⟩
    have np2 : H p2 = none := off_none off dk hp2
    have dp2 := new_ne dk hp2
    have sN := same_new (o := HO.lst []) hp2
    have hb := Same.tup sN hb
    have hod := hod.same sN
    have hod0 := hod0.same sN
    have zp1 := Same.tup sN zp1
    have zp2 : upd G1 p2 (.lst []) p2 = some (.lst []) := upd_same
    have dk := dk.same sN
    have off := off.trans (Off.same (D := D) (C := C) sN)
    clear sN hp2
    generalize upd G1 p2 (.lst []) = G2 at zp2 hb hod hod0 zp1 dk off ⊢
    refine fun p3 hp3 => ?_
    have np3 : H p3 = none := off_none off dk hp3
    have sN := same_new (o := HO.dK []) hp3
    have hb := Same.tup sN hb
    have hod := hod.same sN
    have hod0 := hod0.same sN
    have zp1 := Same.tup sN zp1
    have zp2 := sN _ _ zp2
    have zp3 : upd G2 p3 (.dK []) p3 = some (.dK []) := upd_same
    have dk := dk.same sN
    have off := off.trans (Off.same (D := D) (C := C) sN)
    clear sN hp3
    generalize upd G2 p3 (.dK []) = G3 at zp3 hb hod hod0 zp1 zp2 dk off ⊢
    refine ⟨sz_le (n := 0) (by decide), fun p4 hp4 => ?_⟩
    have sN := same_new (o := HO.tup []) hp4
    have hb := Same.tup sN hb
    have hod := hod.same sN
    have hod0 := hod0.same sN
    have zp1 := Same.tup sN zp1
    have zp2 := sN _ _ zp2
    have zp3 := sN _ _ zp3
    have zp4 : SqT K (upd G3 p4 (.tup [])) p4 [] := Or.inl (Or.inl upd_same)
    have dk := dk.same sN
    have off := off.trans (Off.same (D := D) (C := C) sN)
    clear sN hp4
    generalize upd G3 p4 (.tup []) = G4 at zp4 hb hod hod0 zp1 zp2 zp3 dk off ⊢
    refine ⟨sz_le (n := 1) (by decide), fun p5 hp5 => ?_⟩
    have sN := same_new (o := HO.tup [V.ref p4]) hp5
    have hb := Same.tup sN hb
    have hod := hod.same sN
    have hod0 := hod0.same sN
    have zp1 := Same.tup sN zp1
    have zp2 := sN _ _ zp2
    have zp3 := sN _ _ zp3
    have zp4 := Same.tup sN zp4
    have zp5 : SqT K (upd G4 p5 (.tup [V.ref p4])) p5 [V.ref p4] := Or.inl (Or.inl upd_same)
    have dk := dk.same sN
    have off := off.trans (Off.same (D := D) (C := C) sN)
    clear sN hp5
    generalize upd G4 p5 (.tup [V.ref p4]) = G5 at zp5 hb hod hod0 zp1 zp2 zp3 zp4 dk off ⊢
    refine ⟨sz_le (n := 1) (by decide), fun p6 hp6 => ?_⟩
    have sN := same_new (o := HO.tup [V.str "a"]) hp6
    have hb := Same.tup sN hb
    have hod := hod.same sN
    have hod0 := hod0.same sN
    have zp1 := Same.tup sN zp1
    have zp2 := sN _ _ zp2
    have zp3 := sN _ _ zp3
    have zp4 := Same.tup sN zp4
    have zp5 := Same.tup sN zp5
    have zp6 : SqT K (upd G5 p6 (.tup [V.str "a"])) p6 [V.str "a"] := Or.inl (Or.inl upd_same)
    have dk := dk.same sN
    have off := off.trans (Off.same (D := D) (C := C) sN)
    clear sN hp6
    generalize upd G5 p6 (.tup [V.str "a"]) = G6 at zp6 hb hod hod0 zp1 zp2 zp3 zp4 zp5 dk off ⊢
    refine ⟨sz_le (n := 2) (by decide), fun p7 hp7 => ?_⟩
    have sN := same_new (o := HO.tup [V.str "a", .str "?"]) hp7
    have hb := Same.tup sN hb
    have hod := hod.same sN
    have hod0 := hod0.same sN
    have zp1 := Same.tup sN zp1
    have zp2 := sN _ _ zp2
    have zp3 := sN _ _ zp3
    have zp4 := Same.tup sN zp4
    have zp5 := Same.tup sN zp5
    have zp6 := Same.tup sN zp6
    have zp7 : SqT K (upd G6 p7 (.tup [V.str "a", .str "?"])) p7 [V.str "a", .str "?"] := Or.inl (Or.inl upd_same)
    have dk := dk.same sN
    have off := off.trans (Off.same (D := D) (C := C) sN)
    clear sN hp7
    generalize upd G6 p7 (.tup [V.str "a", .str "?"]) = G7 at zp7 hb hod hod0 zp1 zp2 zp3 zp4 zp5 zp6 dk off ⊢
    refine ⟨sz_le (n := 1) (by decide), fun p8 hp8 => ?_⟩
    have sN := same_new (o := HO.tup [V.ref p7]) hp8
    have hb := Same.tup sN hb
    have hod := hod.same sN
    have hod0 := hod0.same sN
    have zp1 := Same.tup sN zp1
    have zp2 := sN _ _ zp2
    have zp3 := sN _ _ zp3
    have zp4 := Same.tup sN zp4
    have zp5 := Same.tup sN zp5
    have zp6 := Same.tup sN zp6
    have zp7 := Same.tup sN zp7
    have zp8 : SqT K (upd G7 p8 (.tup [V.ref p7])) p8 [V.ref p7] := Or.inl (Or.inl upd_same)
    have dk := dk.same sN
    have off := off.trans (Off.same (D := D) (C := C) sN)
    clear sN hp8
    generalize upd G7 p8 (.tup [V.ref p7]) = G8 at zp8 hb hod hod0 zp1 zp2 zp3 zp4 zp5 zp6 zp7 dk off ⊢
    refine ⟨sz_le (n := 2) (by decide), fun p9 hp9 => ?_⟩
    have sN := same_new (o := HO.tup [V.str "a", .str "?ab"]) hp9
    have hb := Same.tup sN hb
    have hod := hod.same sN
    have hod0 := hod0.same sN
    have zp1 := Same.tup sN zp1
    have zp2 := sN _ _ zp2
    have zp3 := sN _ _ zp3
    have zp4 := Same.tup sN zp4
    have zp5 := Same.tup sN zp5
    have zp6 := Same.tup sN zp6
    have zp7 := Same.tup sN zp7
    have zp8 := Same.tup sN zp8
    have zp9 : SqT K (upd G8 p9 (.tup [V.str "a", .str "?ab"])) p9 [V.str "a", .str "?ab"] := Or.inl (Or.inl upd_same)
    have dk := dk.same sN
    have off := off.trans (Off.same (D := D) (C := C) sN)
    clear sN hp9
    generalize upd G8 p9 (.tup [V.str "a", .str "?ab"]) = G9 at zp9 hb hod hod0 zp1 zp2 zp3 zp4 zp5 zp6 zp7 zp8 dk off ⊢
    refine ⟨sz_le (n := 1) (by decide), fun p10 hp10 => ?_⟩
    have sN := same_new (o := HO.tup [V.ref p9]) hp10
    have hb := Same.tup sN hb
    have hod := hod.same sN
    have hod0 := hod0.same sN
    have zp1 := Same.tup sN zp1
    have zp2 := sN _ _ zp2
    have zp3 := sN _ _ zp3
    have zp4 := Same.tup sN zp4
    have zp5 := Same.tup sN zp5
    have zp6 := Same.tup sN zp6
    have zp7 := Same.tup sN zp7
    have zp8 := Same.tup sN zp8
    have zp9 := Same.tup sN zp9
    have zp10 : SqT K (upd G9 p10 (.tup [V.ref p9])) p10 [V.ref p9] := Or.inl (Or.inl upd_same)
    have dk := dk.same sN
    have off := off.trans (Off.same (D := D) (C := C) sN)
    clear sN hp10
    generalize upd G9 p10 (.tup [V.ref p9]) = G10 at zp10 hb hod hod0 zp1 zp2 zp3 zp4 zp5 zp6 zp7 zp8 zp9 dk off ⊢
    refine ⟨sz_le (n := 1) (by decide), fun p11 hp11 => ?_⟩
    have sN := same_new (o := HO.tup [V.str "ab"]) hp11
    have hb := Same.tup sN hb
    have hod := hod.same sN
    have hod0 := hod0.same sN
    have zp1 := Same.tup sN zp1
    have zp2 := sN _ _ zp2
    have zp3 := sN _ _ zp3
    have zp4 := Same.tup sN zp4
    have zp5 := Same.tup sN zp5
    have zp6 := Same.tup sN zp6
    have zp7 := Same.tup sN zp7
    have zp8 := Same.tup sN zp8
    have zp9 := Same.tup sN zp9
    have zp10 := Same.tup sN zp10
    have zp11 : SqT K (upd G10 p11 (.tup [V.str "ab"])) p11 [V.str "ab"] := Or.inl (Or.inl upd_same)
    have dk := dk.same sN
    have off := off.trans (Off.same (D := D) (C := C) sN)
    clear sN hp11
    generalize upd G10 p11 (.tup [V.str "ab"]) = G11 at zp11 hb hod hod0 zp1 zp2 zp3 zp4 zp5 zp6 zp7 zp8 zp9 zp10 dk off ⊢
    refine ⟨sz_le (n := 1) (by decide), fun p12 hp12 => ?_⟩
    have sN := same_new (o := HO.tup [V.ref p11]) hp12
    have hb := Same.tup sN hb
    have hod := hod.same sN
    have hod0 := hod0.same sN
    have zp1 := Same.tup sN zp1
    have zp2 := sN _ _ zp2
    have zp3 := sN _ _ zp3
    have zp4 := Same.tup sN zp4
    have zp5 := Same.tup sN zp5
    have zp6 := Same.tup sN zp6
    have zp7 := Same.tup sN zp7
    have zp8 := Same.tup sN zp8
    have zp9 := Same.tup sN zp9
    have zp10 := Same.tup sN zp10
    have zp11 := Same.tup sN zp11
    have zp12 : SqT K (upd G11 p12 (.tup [V.ref p11])) p12 [V.ref p11] := Or.inl (Or.inl upd_same)
    have dk := dk.same sN
    have off := off.trans (Off.same (D := D) (C := C) sN)
    clear sN hp12
    generalize upd G11 p12 (.tup [V.ref p11]) = G12 at zp12 hb hod hod0 zp1 zp2 zp3 zp4 zp5 zp6 zp7 zp8 zp9 zp10 zp11 dk off ⊢
    refine ⟨sz_le (n := 1) (by decide), fun p13 hp13 => ?_⟩
    have sN := same_new (o := HO.tup [V.str "-"]) hp13
    have hb := Same.tup sN hb
    have hod := hod.same sN
    have hod0 := hod0.same sN
    have zp1 := Same.tup sN zp1
    have zp2 := sN _ _ zp2
    have zp3 := sN _ _ zp3
    have zp4 := Same.tup sN zp4
    have zp5 := Same.tup sN zp5
    have zp6 := Same.tup sN zp6
    have zp7 := Same.tup sN zp7
    have zp8 := Same.tup sN zp8
    have zp9 := Same.tup sN zp9
    have zp10 := Same.tup sN zp10
    have zp11 := Same.tup sN zp11
    have zp12 := Same.tup sN zp12
    have zp13 : SqT K (upd G12 p13 (.tup [V.str "-"])) p13 [V.str "-"] := Or.inl (Or.inl upd_same)
    have dk := dk.same sN
    have off := off.trans (Off.same (D := D) (C := C) sN)
    clear sN hp13
    generalize upd G12 p13 (.tup [V.str "-"]) = G13 at zp13 hb hod hod0 zp1 zp2 zp3 zp4 zp5 zp6 zp7 zp8 zp9 zp10 zp11 zp12 dk off ⊢
    refine ⟨sz_le (n := 1) (by decide), fun p14 hp14 => ?_⟩
    have sN := same_new (o := HO.tup [V.ref p13]) hp14
    have hb := Same.tup sN hb
    have hod := hod.same sN
    have hod0 := hod0.same sN
    have zp1 := Same.tup sN zp1
    have zp2 := sN _ _ zp2
    have zp3 := sN _ _ zp3
    have zp4 := Same.tup sN zp4
    have zp5 := Same.tup sN zp5
    have zp6 := Same.tup sN zp6
    have zp7 := Same.tup sN zp7
    have zp8 := Same.tup sN zp8
    have zp9 := Same.tup sN zp9
    have zp10 := Same.tup sN zp10
    have zp11 := Same.tup sN zp11
    have zp12 := Same.tup sN zp12
    have zp13 := Same.tup sN zp13
    have zp14 : SqT K (upd G13 p14 (.tup [V.ref p13])) p14 [V.ref p13] := Or.inl (Or.inl upd_same)
    have dk := dk.same sN
    have off := off.trans (Off.same (D := D) (C := C) sN)
    clear sN hp14
    generalize upd G13 p14 (.tup [V.ref p13]) = G14 at zp14 hb hod hod0 zp1 zp2 zp3 zp4 zp5 zp6 zp7 zp8 zp9 zp10 zp11 zp12 zp13 dk off ⊢
    have all0 : ∀ v ∈ ([V.ref b, .ref p1, .non, .int 0, .str "", .ref p2, .ref p3, .ref p5, .ref p6, .ref p8, .ref p10, .ref p12, .ref p14] : List V), OdX K (fun a => H a = none) 1500 12 3 G14 v := by
      intro v hv
      simp only [List.mem_cons, List.not_mem_nil, or_false] at hv
      rcases hv with rfl | rfl | rfl | rfl | rfl | rfl | rfl | rfl | rfl | rfl | rfl | rfl | rfl
      · exact hod.mono (fun _ h => h) (by decide) (by decide) (by decide)
      · exact ⟨_, .tup zp1 (.nil), (okD_of (by decide +kernel) : OkD 200 5 _).mono (by decide) (by decide), boxB_mono (by decide) _ (by decide +kernel : boxB 1 _ = true)⟩
      · exact ⟨_, .non, (okD_of (by decide +kernel) : OkD 200 5 _).mono (by decide) (by decide), boxB_mono (by decide) _ (by decide +kernel : boxB 1 _ = true)⟩
      · exact ⟨_, .int _, (okD_of (by decide +kernel) : OkD 200 5 _).mono (by decide) (by decide), boxB_mono (by decide) _ (by decide +kernel : boxB 1 _ = true)⟩
      · exact ⟨_, .str _, (okD_of (by decide +kernel) : OkD 200 5 _).mono (by decide) (by decide), boxB_mono (by decide) _ (by decide +kernel : boxB 1 _ = true)⟩
      · exact ⟨_, .lst np2 mp2 zp2 (.nil), (okD_of (by decide +kernel) : OkD 200 5 _).mono (by decide) (by decide), boxB_mono (by decide) _ (by decide +kernel : boxB 1 _ = true)⟩
      · exact ⟨_, .dct np3 zp3, (okD_of (by decide +kernel) : OkD 200 5 _).mono (by decide) (by decide), boxB_mono (by decide) _ (by decide +kernel : boxB 1 _ = true)⟩
      · exact ⟨_, .tup zp5 (.cons (.tup zp4 (.nil)) (.nil)), (okD_of (by decide +kernel) : OkD 200 5 _).mono (by decide) (by decide), boxB_mono (by decide) _ (by decide +kernel : boxB 1 _ = true)⟩
      · exact ⟨_, .tup zp6 (.cons (.str _) (.nil)), (okD_of (by decide +kernel) : OkD 200 5 _).mono (by decide) (by decide), boxB_mono (by decide) _ (by decide +kernel : boxB 1 _ = true)⟩
      · exact ⟨_, .tup zp8 (.cons (.tup zp7 (.cons (.str _) (.cons (.str _) (.nil)))) (.nil)), (okD_of (by decide +kernel) : OkD 200 5 _).mono (by decide) (by decide), boxB_mono (by decide) _ (by decide +kernel : boxB 1 _ = true)⟩
      · exact ⟨_, .tup zp10 (.cons (.tup zp9 (.cons (.str _) (.cons (.str _) (.nil)))) (.nil)), (okD_of (by decide +kernel) : OkD 200 5 _).mono (by decide) (by decide), boxB_mono (by decide) _ (by decide +kernel : boxB 1 _ = true)⟩
      · exact ⟨_, .tup zp12 (.cons (.tup zp11 (.cons (.str _) (.nil))) (.nil)), (okD_of (by decide +kernel) : OkD 200 5 _).mono (by decide) (by decide), boxB_mono (by decide) _ (by decide +kernel : boxB 1 _ = true)⟩
      · exact ⟨_, .tup zp14 (.cons (.tup zp13 (.cons (.str _) (.nil))) (.nil)), (okD_of (by decide +kernel) : OkD 200 5 _).mono (by decide) (by decide), boxB_mono (by decide) _ (by decide +kernel : boxB 1 _ = true)⟩
    refine ⟨sz_le (n := 13) (by decide), fun p15 hp15 mp15 => ?_⟩
    have np15 : H p15 = none := off_none off dk hp15
    have dp15 := new_ne dk hp15
    have sN := same_new (o := HO.lst [V.ref b, .ref p1, .non, .int 0, .str "", .ref p2, .ref p3, .ref p5, .ref p6, .ref p8, .ref p10, .ref p12, .ref p14]) hp15
    have hb := Same.tup sN hb
    have hod := hod.same sN
    have hod0 := hod0.same sN
    have zp1 := Same.tup sN zp1
    have zp2 := sN _ _ zp2
    have zp3 := sN _ _ zp3
    have zp4 := Same.tup sN zp4
    have zp5 := Same.tup sN zp5
    have zp6 := Same.tup sN zp6
    have zp7 := Same.tup sN zp7
    have zp8 := Same.tup sN zp8
    have zp9 := Same.tup sN zp9
    have zp10 := Same.tup sN zp10
    have zp11 := Same.tup sN zp11
    have zp12 := Same.tup sN zp12
    have zp13 := Same.tup sN zp13
    have zp14 := Same.tup sN zp14
    have all0 := fun v hv => (all0 v hv).same sN
    have zp15 : upd G14 p15 (.lst [V.ref b, .ref p1, .non, .int 0, .str "", .ref p2, .ref p3, .ref p5, .ref p6, .ref p8, .ref p10, .ref p12, .ref p14]) p15 = some (.lst [V.ref b, .ref p1, .non, .int 0, .str "", .ref p2, .ref p3, .ref p5, .ref p6, .ref p8, .ref p10, .ref p12, .ref p14]) := upd_same
    have dk := dk.same sN
    have off := off.trans (Off.same (D := D) (C := C) sN)
    clear sN hp15
    generalize upd G14 p15 (.lst [V.ref b, .ref p1, .non, .int 0, .str "", .ref p2, .ref p3, .ref p5, .ref p6, .ref p8, .ref p10, .ref p12, .ref p14]) = G15 at zp15 hb hod hod0 zp1 zp2 zp3 zp4 zp5 zp6 zp7 zp8 zp9 zp10 zp11 zp12 zp13 zp14 all0 dk off ⊢
    have hl0 : ([V.ref b, .ref p1, .non, .int 0, .str "", .ref p2, .ref p3, .ref p5, .ref p6, .ref p8, .ref p10, .ref p12, .ref p14] : List V).length = 13 := rfl
    generalize ([V.ref b, .ref p1, .non, .int 0, .str "", .ref p2, .ref p3, .ref p5, .ref p6, .ref p8, .ref p10, .ref p12, .ref p14] : List V) = zs0 at all0 hl0 zp15
    clear zp1 zp2 zp3 zp4 zp5 zp6 zp7 zp8 zp9 zp10 zp11 zp12 zp13 zp14
    refine ⟨_, rfl, sz_le (n := 1) (by decide), fun r1 hr1 => ?_⟩
    have sN := same_new (o := HO.tup [V.str ""]) hr1
    have hb := Same.tup sN hb
    have hod := hod.same sN
    have hod0 := hod0.same sN
    have all0 := fun v hv => (all0 v hv).same sN
    have zp15 := sN _ _ zp15
    have zr1 : SqT K (upd G15 r1 (.tup [V.str ""])) r1 [V.str ""] := Or.inl (Or.inl upd_same)
    have dk := dk.same sN
    have off := off.trans (Off.same (D := D) (C := C) sN)
    clear sN hr1
    generalize upd G15 r1 (.tup [V.str ""]) = J1 at zr1 hb hod hod0 all0 zp15 dk off ⊢
    refine ⟨sz_le (n := 1) (by decide), fun r2 hr2 => ?_⟩
    have sN := same_new (o := HO.tup [V.ref r1]) hr2
    have hb := Same.tup sN hb
    have hod := hod.same sN
    have hod0 := hod0.same sN
    have all0 := fun v hv => (all0 v hv).same sN
    have zp15 := sN _ _ zp15
    have zr1 := Same.tup sN zr1
    have zr2 : SqT K (upd J1 r2 (.tup [V.ref r1])) r2 [V.ref r1] := Or.inl (Or.inl upd_same)
    have dk := dk.same sN
    have off := off.trans (Off.same (D := D) (C := C) sN)
    clear sN hr2
    generalize upd J1 r2 (.tup [V.ref r1]) = J2 at zr2 hb hod hod0 all0 zp15 zr1 dk off ⊢
    refine ⟨sz_le (n := 0) (by decide), fun r3 hr3 => ?_⟩
    have sN := same_new (o := HO.tup []) hr3
    have hb := Same.tup sN hb
    have hod := hod.same sN
    have hod0 := hod0.same sN
    have all0 := fun v hv => (all0 v hv).same sN
    have zp15 := sN _ _ zp15
    have zr1 := Same.tup sN zr1
    have zr2 := Same.tup sN zr2
    have zr3 : SqT K (upd J2 r3 (.tup [])) r3 [] := Or.inl (Or.inl upd_same)
    have dk := dk.same sN
    have off := off.trans (Off.same (D := D) (C := C) sN)
    clear sN hr3
    generalize upd J2 r3 (.tup []) = J3 at zr3 hb hod hod0 all0 zp15 zr1 zr2 dk off ⊢
    refine ⟨sz_le (n := 2) (by decide), fun r4 hr4 => ?_⟩
    have sN := same_new (o := HO.tup [V.str "?-", .str "a"]) hr4
    have hb := Same.tup sN hb
    have hod := hod.same sN
    have hod0 := hod0.same sN
    have all0 := fun v hv => (all0 v hv).same sN
    have zp15 := sN _ _ zp15
    have zr1 := Same.tup sN zr1
    have zr2 := Same.tup sN zr2
    have zr3 := Same.tup sN zr3
    have zr4 : SqT K (upd J3 r4 (.tup [V.str "?-", .str "a"])) r4 [V.str "?-", .str "a"] := Or.inl (Or.inl upd_same)
    have dk := dk.same sN
    have off := off.trans (Off.same (D := D) (C := C) sN)
    clear sN hr4
    generalize upd J3 r4 (.tup [V.str "?-", .str "a"]) = J4 at zr4 hb hod hod0 all0 zp15 zr1 zr2 zr3 dk off ⊢
    refine ⟨sz_le (n := 2) (by decide), fun r5 hr5 => ?_⟩
    have sN := same_new (o := HO.tup [V.ref r3, .ref r4]) hr5
    have hb := Same.tup sN hb
    have hod := hod.same sN
    have hod0 := hod0.same sN
    have all0 := fun v hv => (all0 v hv).same sN
    have zp15 := sN _ _ zp15
    have zr1 := Same.tup sN zr1
    have zr2 := Same.tup sN zr2
    have zr3 := Same.tup sN zr3
    have zr4 := Same.tup sN zr4
    have zr5 : SqT K (upd J4 r5 (.tup [V.ref r3, .ref r4])) r5 [V.ref r3, .ref r4] := Or.inl (Or.inl upd_same)
    have dk := dk.same sN
    have off := off.trans (Off.same (D := D) (C := C) sN)
    clear sN hr5
    generalize upd J4 r5 (.tup [V.ref r3, .ref r4]) = J5 at zr5 hb hod hod0 all0 zp15 zr1 zr2 zr3 zr4 dk off ⊢
    refine ⟨sz_le (n := 1) (by decide), fun r6 hr6 => ?_⟩
    have sN := same_new (o := HO.tup [V.str "a"]) hr6
    have hb := Same.tup sN hb
    have hod := hod.same sN
    have hod0 := hod0.same sN
    have all0 := fun v hv => (all0 v hv).same sN
    have zp15 := sN _ _ zp15
    have zr1 := Same.tup sN zr1
    have zr2 := Same.tup sN zr2
    have zr3 := Same.tup sN zr3
    have zr4 := Same.tup sN zr4
    have zr5 := Same.tup sN zr5
    have zr6 : SqT K (upd J5 r6 (.tup [V.str "a"])) r6 [V.str "a"] := Or.inl (Or.inl upd_same)
    have dk := dk.same sN
    have off := off.trans (Off.same (D := D) (C := C) sN)
    clear sN hr6
    generalize upd J5 r6 (.tup [V.str "a"]) = J6 at zr6 hb hod hod0 all0 zp15 zr1 zr2 zr3 zr4 zr5 dk off ⊢
    refine ⟨sz_le (n := 1) (by decide), fun r7 hr7 mr7 => ?_⟩
    have nr7 : H r7 = none := off_none off dk hr7
    have dr7 := new_ne dk hr7
    have sN := same_new (o := HO.lst [V.ref r6]) hr7
    have hb := Same.tup sN hb
    have hod := hod.same sN
    have hod0 := hod0.same sN
    have all0 := fun v hv => (all0 v hv).same sN
    have zp15 := sN _ _ zp15
    have zr1 := Same.tup sN zr1
    have zr2 := Same.tup sN zr2
    have zr3 := Same.tup sN zr3
    have zr4 := Same.tup sN zr4
    have zr5 := Same.tup sN zr5
    have zr6 := Same.tup sN zr6
    have zr7 : upd J6 r7 (.lst [V.ref r6]) r7 = some (.lst [V.ref r6]) := upd_same
    have dk := dk.same sN
    have off := off.trans (Off.same (D := D) (C := C) sN)
    clear sN hr7
    generalize upd J6 r7 (.lst [V.ref r6]) = J7 at zr7 hb hod hod0 all0 zp15 zr1 zr2 zr3 zr4 zr5 zr6 dk off ⊢
    refine ⟨sz_le (n := 1) (by decide), fun r8 hr8 mr8 => ?_⟩
    have nr8 : H r8 = none := off_none off dk hr8
    have dr8 := new_ne dk hr8
    have sN := same_new (o := HO.lst [V.str "a"]) hr8
    have hb := Same.tup sN hb
    have hod := hod.same sN
    have hod0 := hod0.same sN
    have all0 := fun v hv => (all0 v hv).same sN
    have zp15 := sN _ _ zp15
    have zr1 := Same.tup sN zr1
    have zr2 := Same.tup sN zr2
    have zr3 := Same.tup sN zr3
    have zr4 := Same.tup sN zr4
    have zr5 := Same.tup sN zr5
    have zr6 := Same.tup sN zr6
    have zr7 := sN _ _ zr7
    have zr8 : upd J7 r8 (.lst [V.str "a"]) r8 = some (.lst [V.str "a"]) := upd_same
    have dk := dk.same sN
    have off := off.trans (Off.same (D := D) (C := C) sN)
    clear sN hr8
    generalize upd J7 r8 (.lst [V.str "a"]) = J8 at zr8 hb hod hod0 all0 zp15 zr1 zr2 zr3 zr4 zr5 zr6 zr7 dk off ⊢
    refine ⟨sz_le (n := 1) (by decide), fun r9 hr9 => ?_⟩
    have sN := same_new (o := HO.tup [V.ref r8]) hr9
    have hb := Same.tup sN hb
    have hod := hod.same sN
    have hod0 := hod0.same sN
    have all0 := fun v hv => (all0 v hv).same sN
    have zp15 := sN _ _ zp15
    have zr1 := Same.tup sN zr1
    have zr2 := Same.tup sN zr2
    have zr3 := Same.tup sN zr3
    have zr4 := Same.tup sN zr4
    have zr5 := Same.tup sN zr5
    have zr6 := Same.tup sN zr6
    have zr7 := sN _ _ zr7
    have zr8 := sN _ _ zr8
    have zr9 : SqT K (upd J8 r9 (.tup [V.ref r8])) r9 [V.ref r8] := Or.inl (Or.inl upd_same)
    have dk := dk.same sN
    have off := off.trans (Off.same (D := D) (C := C) sN)
    clear sN hr9
    generalize upd J8 r9 (.tup [V.ref r8]) = J9 at zr9 hb hod hod0 all0 zp15 zr1 zr2 zr3 zr4 zr5 zr6 zr7 zr8 dk off ⊢
    refine ⟨sz_le (n := 1) (by decide), fun r10 hr10 => ?_⟩
    have sN := same_new (o := HO.tup [V.non]) hr10
    have hb := Same.tup sN hb
    have hod := hod.same sN
    have hod0 := hod0.same sN
    have all0 := fun v hv => (all0 v hv).same sN
    have zp15 := sN _ _ zp15
    have zr1 := Same.tup sN zr1
    have zr2 := Same.tup sN zr2
    have zr3 := Same.tup sN zr3
    have zr4 := Same.tup sN zr4
    have zr5 := Same.tup sN zr5
    have zr6 := Same.tup sN zr6
    have zr7 := sN _ _ zr7
    have zr8 := sN _ _ zr8
    have zr9 := Same.tup sN zr9
    have zr10 : SqT K (upd J9 r10 (.tup [V.non])) r10 [V.non] := Or.inl (Or.inl upd_same)
    have dk := dk.same sN
    have off := off.trans (Off.same (D := D) (C := C) sN)
    clear sN hr10
    generalize upd J9 r10 (.tup [V.non]) = J10 at zr10 hb hod hod0 all0 zp15 zr1 zr2 zr3 zr4 zr5 zr6 zr7 zr8 zr9 dk off ⊢
    refine ⟨sz_le (n := 1) (by decide), fun r11 hr11 => ?_⟩
    have sN := same_new (o := HO.tup [V.ref r10]) hr11
    have hb := Same.tup sN hb
    have hod := hod.same sN
    have hod0 := hod0.same sN
    have all0 := fun v hv => (all0 v hv).same sN
    have zp15 := sN _ _ zp15
    have zr1 := Same.tup sN zr1
    have zr2 := Same.tup sN zr2
    have zr3 := Same.tup sN zr3
    have zr4 := Same.tup sN zr4
    have zr5 := Same.tup sN zr5
    have zr6 := Same.tup sN zr6
    have zr7 := sN _ _ zr7
    have zr8 := sN _ _ zr8
    have zr9 := Same.tup sN zr9
    have zr10 := Same.tup sN zr10
    have zr11 : SqT K (upd J10 r11 (.tup [V.ref r10])) r11 [V.ref r10] := Or.inl (Or.inl upd_same)
    have dk := dk.same sN
    have off := off.trans (Off.same (D := D) (C := C) sN)
    clear sN hr11
    generalize upd J10 r11 (.tup [V.ref r10]) = J11 at zr11 hb hod hod0 all0 zp15 zr1 zr2 zr3 zr4 zr5 zr6 zr7 zr8 zr9 zr10 dk off ⊢
    refine ⟨sz_le (n := 1) (by decide), fun r12 hr12 => ?_⟩
    have sN := same_new (o := HO.tup [V.str "z"]) hr12
    have hb := Same.tup sN hb
    have hod := hod.same sN
    have hod0 := hod0.same sN
    have all0 := fun v hv => (all0 v hv).same sN
    have zp15 := sN _ _ zp15
    have zr1 := Same.tup sN zr1
    have zr2 := Same.tup sN zr2
    have zr3 := Same.tup sN zr3
    have zr4 := Same.tup sN zr4
    have zr5 := Same.tup sN zr5
    have zr6 := Same.tup sN zr6
    have zr7 := sN _ _ zr7
    have zr8 := sN _ _ zr8
    have zr9 := Same.tup sN zr9
    have zr10 := Same.tup sN zr10
    have zr11 := Same.tup sN zr11
    have zr12 : SqT K (upd J11 r12 (.tup [V.str "z"])) r12 [V.str "z"] := Or.inl (Or.inl upd_same)
    have dk := dk.same sN
    have off := off.trans (Off.same (D := D) (C := C) sN)
    clear sN hr12
    generalize upd J11 r12 (.tup [V.str "z"]) = J12 at zr12 hb hod hod0 all0 zp15 zr1 zr2 zr3 zr4 zr5 zr6 zr7 zr8 zr9 zr10 zr11 dk off ⊢
    refine ⟨sz_le (n := 1) (by decide), fun r13 hr13 => ?_⟩
    have sN := same_new (o := HO.tup [V.ref r12]) hr13
    have hb := Same.tup sN hb
    have hod := hod.same sN
    have hod0 := hod0.same sN
    have all0 := fun v hv => (all0 v hv).same sN
    have zp15 := sN _ _ zp15
    have zr1 := Same.tup sN zr1
    have zr2 := Same.tup sN zr2
    have zr3 := Same.tup sN zr3
    have zr4 := Same.tup sN zr4
    have zr5 := Same.tup sN zr5
    have zr6 := Same.tup sN zr6
    have zr7 := sN _ _ zr7
    have zr8 := sN _ _ zr8
    have zr9 := Same.tup sN zr9
    have zr10 := Same.tup sN zr10
    have zr11 := Same.tup sN zr11
    have zr12 := Same.tup sN zr12
    have zr13 : SqT K (upd J12 r13 (.tup [V.ref r12])) r13 [V.ref r12] := Or.inl (Or.inl upd_same)
    have dk := dk.same sN
    have off := off.trans (Off.same (D := D) (C := C) sN)
    clear sN hr13
    generalize upd J12 r13 (.tup [V.ref r12]) = J13 at zr13 hb hod hod0 all0 zp15 zr1 zr2 zr3 zr4 zr5 zr6 zr7 zr8 zr9 zr10 zr11 zr12 dk off ⊢
    refine ⟨sz_le (n := 1) (by decide), fun r14 hr14 => ?_⟩
    have sN := same_new (o := HO.tup [V.str "?z"]) hr14
    have hb := Same.tup sN hb
    have hod := hod.same sN
    have hod0 := hod0.same sN
    have all0 := fun v hv => (all0 v hv).same sN
    have zp15 := sN _ _ zp15
    have zr1 := Same.tup sN zr1
    have zr2 := Same.tup sN zr2
    have zr3 := Same.tup sN zr3
    have zr4 := Same.tup sN zr4
    have zr5 := Same.tup sN zr5
    have zr6 := Same.tup sN zr6
    have zr7 := sN _ _ zr7
    have zr8 := sN _ _ zr8
    have zr9 := Same.tup sN zr9
    have zr10 := Same.tup sN zr10
    have zr11 := Same.tup sN zr11
    have zr12 := Same.tup sN zr12
    have zr13 := Same.tup sN zr13
    have zr14 : SqT K (upd J13 r14 (.tup [V.str "?z"])) r14 [V.str "?z"] := Or.inl (Or.inl upd_same)
    have dk := dk.same sN
    have off := off.trans (Off.same (D := D) (C := C) sN)
    clear sN hr14
    generalize upd J13 r14 (.tup [V.str "?z"]) = J14 at zr14 hb hod hod0 all0 zp15 zr1 zr2 zr3 zr4 zr5 zr6 zr7 zr8 zr9 zr10 zr11 zr12 zr13 dk off ⊢
    refine ⟨sz_le (n := 1) (by decide), fun r15 hr15 => ?_⟩
    have sN := same_new (o := HO.tup [V.ref r14]) hr15
    have hb := Same.tup sN hb
    have hod := hod.same sN
    have hod0 := hod0.same sN
    have all0 := fun v hv => (all0 v hv).same sN
    have zp15 := sN _ _ zp15
    have zr1 := Same.tup sN zr1
    have zr2 := Same.tup sN zr2
    have zr3 := Same.tup sN zr3
    have zr4 := Same.tup sN zr4
    have zr5 := Same.tup sN zr5
    have zr6 := Same.tup sN zr6
    have zr7 := sN _ _ zr7
    have zr8 := sN _ _ zr8
    have zr9 := Same.tup sN zr9
    have zr10 := Same.tup sN zr10
    have zr11 := Same.tup sN zr11
    have zr12 := Same.tup sN zr12
    have zr13 := Same.tup sN zr13
    have zr14 := Same.tup sN zr14
    have zr15 : SqT K (upd J14 r15 (.tup [V.ref r14])) r15 [V.ref r14] := Or.inl (Or.inl upd_same)
    have dk := dk.same sN
    have off := off.trans (Off.same (D := D) (C := C) sN)
    clear sN hr15
    generalize upd J14 r15 (.tup [V.ref r14]) = J15 at zr15 hb hod hod0 all0 zp15 zr1 zr2 zr3 zr4 zr5 zr6 zr7 zr8 zr9 zr10 zr11 zr12 zr13 zr14 dk off ⊢
    have all1 : ∀ v ∈ ([V.ref r2, .ref r5, .ref r7, .ref r9, .ref r11, .ref r13, .ref r15, w0] : List V), OdX K (fun a => H a = none) 1500 12 3 J15 v := by
      intro v hv
      simp only [List.mem_cons, List.not_mem_nil, or_false] at hv
      rcases hv with rfl | rfl | rfl | rfl | rfl | rfl | rfl | rfl
      · exact ⟨_, .tup zr2 (.cons (.tup zr1 (.cons (.str _) (.nil))) (.nil)), (okD_of (by decide +kernel) : OkD 200 5 _).mono (by decide) (by decide), boxB_mono (by decide) _ (by decide +kernel : boxB 1 _ = true)⟩
      · exact ⟨_, .tup zr5 (.cons (.tup zr3 (.nil)) (.cons (.tup zr4 (.cons (.str _) (.cons (.str _) (.nil)))) (.nil))), (okD_of (by decide +kernel) : OkD 200 5 _).mono (by decide) (by decide), boxB_mono (by decide) _ (by decide +kernel : boxB 1 _ = true)⟩
      · exact ⟨_, .lst nr7 mr7 zr7 (.cons (.tup zr6 (.cons (.str _) (.nil))) (.nil)), (okD_of (by decide +kernel) : OkD 200 5 _).mono (by decide) (by decide), boxB_mono (by decide) _ (by decide +kernel : boxB 1 _ = true)⟩
      · exact ⟨_, .tup zr9 (.cons (.lst nr8 mr8 zr8 (.cons (.str _) (.nil))) (.nil)), (okD_of (by decide +kernel) : OkD 200 5 _).mono (by decide) (by decide), boxB_mono (by decide) _ (by decide +kernel : boxB 1 _ = true)⟩
      · exact ⟨_, .tup zr11 (.cons (.tup zr10 (.cons (.non) (.nil))) (.nil)), (okD_of (by decide +kernel) : OkD 200 5 _).mono (by decide) (by decide), boxB_mono (by decide) _ (by decide +kernel : boxB 1 _ = true)⟩
      · exact ⟨_, .tup zr13 (.cons (.tup zr12 (.cons (.str _) (.nil))) (.nil)), (okD_of (by decide +kernel) : OkD 200 5 _).mono (by decide) (by decide), boxB_mono (by decide) _ (by decide +kernel : boxB 1 _ = true)⟩
      · exact ⟨_, .tup zr15 (.cons (.tup zr14 (.cons (.str _) (.nil))) (.nil)), (okD_of (by decide +kernel) : OkD 200 5 _).mono (by decide) (by decide), boxB_mono (by decide) _ (by decide +kernel : boxB 1 _ = true)⟩
      · exact hod0.mono (fun _ h => h) (by decide) (by decide) (by decide)
    refine ⟨_, rfl, b, _, 0, _, rfl, rfl, hb, atI_nat (j := 0) rfl, sz_le (n := 8) (by decide), fun r16 hr16 mr16 => ?_⟩
    have nr16 : H r16 = none := off_none off dk hr16
    have dr16 := new_ne dk hr16
    have sN := same_new (o := HO.lst [V.ref r2, .ref r5, .ref r7, .ref r9, .ref r11, .ref r13, .ref r15, w0]) hr16
    have hb := Same.tup sN hb
    have hod := hod.same sN
    have hod0 := hod0.same sN
    have all0 := fun v hv => (all0 v hv).same sN
    have zp15 := sN _ _ zp15
    have zr1 := Same.tup sN zr1
    have zr2 := Same.tup sN zr2
    have zr3 := Same.tup sN zr3
    have zr4 := Same.tup sN zr4
    have zr5 := Same.tup sN zr5
    have zr6 := Same.tup sN zr6
    have zr7 := sN _ _ zr7
    have zr8 := sN _ _ zr8
    have zr9 := Same.tup sN zr9
    have zr10 := Same.tup sN zr10
    have zr11 := Same.tup sN zr11
    have zr12 := Same.tup sN zr12
    have zr13 := Same.tup sN zr13
    have zr14 := Same.tup sN zr14
    have zr15 := Same.tup sN zr15
    have all1 := fun v hv => (all1 v hv).same sN
    have zr16 : upd J15 r16 (.lst [V.ref r2, .ref r5, .ref r7, .ref r9, .ref r11, .ref r13, .ref r15, w0]) r16 = some (.lst [V.ref r2, .ref r5, .ref r7, .ref r9, .ref r11, .ref r13, .ref r15, w0]) := upd_same
    have dk := dk.same sN
    have off := off.trans (Off.same (D := D) (C := C) sN)
    clear sN hr16
    generalize upd J15 r16 (.lst [V.ref r2, .ref r5, .ref r7, .ref r9, .ref r11, .ref r13, .ref r15, w0]) = J16 at zr16 hb hod hod0 all0 zp15 zr1 zr2 zr3 zr4 zr5 zr6 zr7 zr8 zr9 zr10 zr11 zr12 zr13 zr14 zr15 all1 dk off ⊢
    have hl1 : ([V.ref r2, .ref r5, .ref r7, .ref r9, .ref r11, .ref r13, .ref r15, w0] : List V).length = 8 := rfl
    generalize ([V.ref r2, .ref r5, .ref r7, .ref r9, .ref r11, .ref r13, .ref r15, w0] : List V) = zs1 at all1 hl1 zr16
    clear zr1 zr2 zr3 zr4 zr5 zr6 zr7 zr8 zr9 zr10 zr11 zr12 zr13 zr14 zr15
    refine ⟨p15, r16, _, _, rfl, rfl, zp15, zr16, sz_le (by omega), fun S1 hS1 => ?_⟩
    have nS1 : H S1 = none := off_none off dk hS1
    have dS1 := new_ne dk hS1
    have sN := same_new (o := HO.lst (zs0 ++ zs1)) hS1
    have zS : upd J16 S1 (.lst (zs0 ++ zs1)) S1 = some (.lst (zs0 ++ zs1)) := upd_same
    have hod := hod.same sN
    have allS : ∀ v ∈ zs0 ++ zs1, OdX K (fun a => H a = none) 1500 12 3 (upd J16 S1 (.lst (zs0 ++ zs1))) v := fun v hv => ((List.mem_append.mp hv).elim (all0 v) (all1 v)).same sN
    have dk := dk.same sN
    have off := off.trans (Off.same (D := D) (C := C) sN)
    have hlS : (zs0 ++ zs1).length = 21 := by rw [List.length_append, hl0, hl1]
    clear sN hS1 all0 all1 hl0 hl1 zp15 zr16 hb
    generalize upd J16 S1 (.lst (zs0 ++ zs1)) = L0 at zS hod allS dk off ⊢
    generalize zs0 ++ zs1 = zs at zS allS hlS
    refine ⟨4, rfl, by decide, by decide, ?_⟩
    have hN : ∀ a, H a = none → a ≠ D ∧ a ≠ C := fun a ha => new_ne hdk ha
    have hdk : DeckAt D C T L0 := dk
    refine for_it (walk_rng (n := 4)) (fun i σ H' => DeckAt D C (T + 72 * i) H' ∧ Off D C L0 H' ∧ ∃ (ps : Addr) (xs : List V) (o4 o5 : Option V), σ = [some (.ref D), some (.str (S sg)), some (.ref b), some (.ref ps), o4, o5, none, none, none] ∧ ps ≠ D ∧ ps ≠ C ∧ H' ps = some (.lst xs) ∧ xs.length ≤ 21 + 2 * i ∧ ∀ v ∈ xs, OdX K (fun a => H a = none) 1500 12 3 H' v) ⟨dk, Off.refl _ _ _, S1, zs, _, _, rfl, dS1.1, dS1.2, zS, by omega, allS⟩ (fun _ _ _ _ _ => trivial) ?_ ?_
    · rintro i x σ H1 H1' hi ⟨dk1, off1, ps, xs, o4, o5, rfl, n1, n2, zP, hxl, hxs⟩ ⟨rfl, rfl⟩
      have hN1 : ∀ {G : Hp} {T2 : Nat}, Off D C L0 G → DeckAt D C T2 G → ∀ a, G a = none → H a = none := fun o k a ha => off_none (off.trans o) k ha
      have od1 := od_off hod hN hdk off1
      refine ⟨_, rfl, _, rfl, spoilt_of (E := E0) (n := 8) hN (hN1 off1 dk1) dk1 (by omega) od1 (by decide) (by decide) (by decide) (by decide) fun H2 u T2 hT2 dk2 off2 od2 => ?_⟩
      have o12 := off1.trans off2
      refine ⟨_, rfl, _, rfl, _, rfl, _, rfl, spoilt_of (E := E0) (n := 8) hN (hN1 o12 dk2) dk2 (by omega) od2 (by decide) (by decide) (by decide) (by decide) fun H3 u2 T3 hT3 dk3 off3 od3 => ?_⟩
      have o13 := o12.trans off3
      have od2 := od_off od2 hN dk2 off3
      have z3 := (off2.trans off3) _ _ n1 n2 zP
      have hx3 : ∀ v ∈ xs, OdX K (fun a => H a = none) 1500 12 3 H3 v := fun v hv => od_off (hxs v hv) hN dk1 (off2.trans off3)
      refine ⟨sz_le (n := 2) (by decide), fun L hL nL => ?_⟩
      have sL := same_new (o := HO.lst [u, u2]) hL
      refine ⟨ps, L, _, _, rfl, rfl, sL _ _ z3, upd_same, sz_le (n := xs.length + 2) (by omega), fun S2 hS2 => ?_⟩
      have s4 := sL.trans (same_new (o := HO.lst (xs ++ [u, u2])) hS2)
      have d2 := new_ne (dk3.same sL) hS2
      refine ⟨(dk3.same s4).mono (by omega), o13.trans (Off.same s4), S2, xs ++ [u, u2], _, _, rfl, d2.1, d2.2, upd_same, by rw [List.length_append]; show xs.length + 2 ≤ _; omega, fun v hv => ?_⟩
      rcases List.mem_append.mp hv with h | h
      · exact (hx3 v h).same s4
      · rcases List.mem_cons.mp h with rfl | h
        · exact (od2.same s4).mono (fun _ h => h) (by decide) (by decide) (by decide)
        · rw [List.mem_singleton.mp h]
          exact (od3.same s4).mono (fun _ h => h) (by decide) (by decide) (by decide)
    rintro σ H1 ⟨dk1, off1, ps, xs, o4, o5, rfl, n1, n2, zP, hxl, hxs⟩
    refine ⟨ps, sg, xs, _, _, _, _, _, _, _, _, rfl, by omega, zP, hxs, fun σ' H2 s2 => ?_⟩
    exact q H2 ((dk1.same s2).mono (by omega)) ((off.trans off1).trans (Off.same s2))
end
end Lw

namespace Lw
open PySem PySem.Spec PyProof.Rows L2 Mq
open SX (S)
/-! ### the courses by hand -/
def handF : List Fd := [⟨97, 97, []⟩]
def handW : List (List (List Nat)) := [[[97], [63, 97]], [[97], [63, 45]], [[63, 45], [97]], [[63, 97], [97]]]
def hand1 : List Nat := (List.replicate 150 [2, 3]).flatten
def hand2 : List Nat := (List.replicate 149 [0, 1]).flatten ++ [2]
theorem hand_1 : crsM handF handW [] hand1 = some [] := by decide +kernel
theorem hand_2 : crsM handF handW [] hand2 = some [97] := by decide +kernel
theorem hand_3 : crsM handF handW [98] [0, 0] = none := by decide +kernel
theorem hand_in : (∀ n ∈ hand1, n < handW.length) ∧ (∀ n ∈ hand2, n < handW.length) := ⟨by decide +kernel, by decide +kernel⟩
theorem hand_len : hand1.length = 300 ∧ hand2.length = 299 := ⟨by decide +kernel, by decide +kernel⟩
theorem hand_sh {K : PySem.W.Frag} : ∀ ws ∈ handW, (∀ u ∈ ws, ItK u) ∧ ws.length ≤ 10 := by
  intro ws h
  unfold handW at h
  simp only [List.mem_cons, List.not_mem_nil, or_false] at h
  rcases h with rfl | rfl | rfl | rfl <;> refine ⟨fun u hu => ?_, by decide⟩ <;> simp only [List.mem_cons, List.not_mem_nil, or_false] at hu <;> rcases hu with rfl | rfl <;>
    first | exact Or.inl ⟨_, rfl, by decide⟩ | exact Or.inr ⟨_, rfl⟩
end Lw

namespace Lw
open PySem PySem.Spec PyProof.Rows L2 Mq
open SX (S)
/-! ### values that are no webs -/
theorem nostr_dg {K : PySem.W.Frag} {H : Hp} {v : V} {d : PyData} (h : Dg K H v d) (ns : ∀ x, d ≠ .str x) : NoStr K H v := by
  cases h with
  | non => exact ⟨_, .base .non, by decide, by decide⟩
  | bl b => exact ⟨_, .base (.bl _), by decide, by decide⟩
  | int i => exact ⟨_, .base (.int _), by decide, by decide⟩
  | str x => exact (ns _ rfl).elim
  | lst _ h _ => exact ⟨_, ty_list h, by decide, by decide⟩
  | tup h _ => exact ⟨_, ty_tup h, by decide, by decide⟩
  | dct h _ => exact ⟨_, .base (.dK h), by decide, by decide⟩
/-- a text no letter of which is a letter of any book of the menu -/
theorem text_bad {K : PySem.W.Frag} {H : Hp} {x : Str} {sg : List Nat} (ws : List Nat) (e : x = S ws) (h : (menuB.all fun sg => !allB ws sg) = true) (hl : ws.length ≤ 100) (hs : sg ∈ menuB) : WebBad K H sg (.str x) := by
  refine Or.inl ⟨ws, by rw [e], by omega, ?_⟩
  have := List.all_eq_true.mp h sg hs
  simpa using this
def pageD : List PyData := [.none, .int 0, .str "z", .str "a ", .tuple [.str "a"], .str "-", .bool true, .list [.str "a"]]
/-- each of the pages is refused -/
theorem page_bad {K : PySem.W.Frag} {H : Hp} {v : V} {d : PyData} {sg : List Nat} (hs : sg ∈ menuB) (hd : Dg K H v d) (h : d ∈ pageD) : WebBad K H sg v := by
  unfold pageD at h
  simp only [List.mem_cons, List.not_mem_nil, or_false] at h
  rcases h with rfl | rfl | rfl | rfl | rfl | rfl | rfl | rfl
  · exact Or.inr (nostr_dg hd fun _ z => nomatch z)
  · exact Or.inr (nostr_dg hd fun _ z => nomatch z)
  · rw [dg_txt hd]
    exact text_bad [122] (by decide +kernel) (by decide +kernel) (by decide) hs
  · rw [dg_txt hd]
    exact text_bad [97, 32] (by decide +kernel) (by decide +kernel) (by decide) hs
  · exact Or.inr (nostr_dg hd fun _ z => nomatch z)
  · rw [dg_txt hd]
    exact text_bad [45] (by decide +kernel) (by decide +kernel) (by decide) hs
  · exact Or.inr (nostr_dg hd fun _ z => nomatch z)
  · exact Or.inr (nostr_dg hd fun _ z => nomatch z)
end Lw

namespace Lw
open PySem PySem.Spec PyProof.Rows L2 Mq
open SX (S)
open PySem.W (EachIs)
open GxR (TabB TabG Tabbed)
/-! ### what is heard of a page that is no web -/
theorem heard_web {K : PySem.W.Frag} {Cb P0 r fa ta b : Addr} {way : Nat} {sg : List Nat} {fs : List Fd} {wss : List (List (List Nat))} {wv cv : V} {H : Hp} {Q : VK} {E : XK}
    (hb : BkAt H Cb r sg fs fa ta) (hfs : FsOk sg fs) (hsh : ShAt K H b wss) (ht : TabG H P0) (hw : WebBad K H sg wv) (q : hearX P0 "web" wv H Q) : spHeard K Cb P0 [.ref r, .ref b, wv, cv, .int ((way : Nat) : Int)] H Q E :=
  ⟨r, fa, ta, b, way, sg, fs, wss, wv, cv, rfl, hb, hfs, hsh, ht, Or.inl ⟨hw, q⟩⟩
theorem page_ok {d : PyData} (h : d ∈ pageD) : OkD 600 2 (.list [.str "web", d, .bool true]) := by
  unfold pageD at h
  simp only [List.mem_cons, List.not_mem_nil, or_false] at h
  rcases h with rfl | rfl | rfl | rfl | rfl | rfl | rfl | rfl <;> exact okD_of (by decide +kernel)
abbrev lwN : List Str := ["_law_script", "_law_deck_here", "_law_go", "_law_w", "_law_code_here", "_law_shelf_here", "_law_web", "_law_walk_here", "_law_any_one", "_law_some", "_law_page", "_law_due", "_law_said", "_law_k", "_law_it", "_law_way"]
def tPage (K : PySem.W.Frag) (Cb P0 : Addr) : TS := fun DD σ H => ∃ (D C r fa ta b ps q0 : Addr) (T : Nat) (xs : List V) (sg : List Nat) (fs : List Fd) (wss : List (List (List Nat))) (wv : V) (d : PyData) (y0 y2 y3 y6 y7 y8 y12 : Option V),
  σ = [y0, some (.ref D), y2, y3, some (.ref r), some (.ref b), y6, y7, y8, some (.ref ps), some wv, some (.ref q0), y12, none, none, none] ∧ DeckAt D C T H ∧ T ≤ 900000 ∧ sg ∈ menuB ∧ BkAt H Cb r sg fs fa ta ∧ FsOk sg fs ∧ ShAt K H b wss ∧ TabG H P0 ∧
  H ps = some (.lst xs) ∧ ps ≠ D ∧ ps ≠ C ∧ 0 < xs.length ∧ xs.length ≤ 1000 ∧ d ∈ pageD ∧ (∀ H', OffX D C H H' → Dg K H' wv d) ∧ q0 ≠ D ∧ q0 ≠ C ∧ q0 ≠ sysModules ∧ H q0 = some (.lst [.str "web", wv, .bl true]) ∧
  ∀ σ' H', σ' = σ → DeckAt D C (T + 2) H' → OffX D C H H' → TabG H' P0 → DD.nx σ' H'
end Lw

namespace Lw
open PySem PySem.Spec PyProof.Rows L2 Mq
open SX (S)
open PySem.W (EachIs)
open GxR (TabB TabG Tabbed)
/-! ### the law -/
def OdK (K : PySem.W.Frag) (D C : Addr) (H : Hp) (v : V) : Prop := ∀ H', OffX D C H H' → ∃ d, Dg K H' v d ∧ d.weight ≤ 90000 ∧ ∀ ds, d = .tuple ds → ds.length ≤ 80
def tMany (K : PySem.W.Frag) (Cb P0 : Addr) : TS := fun DD σ H => ∃ (D C wd ld r fa ta b ps : Addr) (T : Nat) (xs : List V) (sg l : List Nat) (fs gs : List Fd) (wss : List (List (List Nat))) (y0 y2 y7 y8 y10 y11 y12 : Option V),
  σ = [y0, some (.ref D), y2, some (.ref wd), some (.ref r), some (.ref b), some (.str (S l)), y7, y8, some (.ref ps), y10, y11, y12, none, none, none] ∧ DeckAt D C T H ∧ T ≤ 800000 ∧
  WAt H wd ld sg gs ∧ GsOk sg gs ∧ fs.Perm gs ∧ FsOk sg fs ∧ BkAt H Cb r sg fs fa ta ∧ ShAt K H b wss ∧ ShF sg wss ∧ TabG H P0 ∧ From sg l ∧ l.length ≤ 100 ∧ (∀ c ∈ sg, c < 128) ∧
  H ps = some (.lst xs) ∧ ps ≠ D ∧ ps ≠ C ∧ xs.length ≤ 100 ∧ (∀ v ∈ xs, OdK K D C H v) ∧ ∀ H', DeckAt D C (T + 100) H' → OffX D C H H' → TabG H' P0 → DD.nx σ H'
theorem OffX.refl (D C : Addr) (H : Hp) : OffX D C H H := fun _ _ _ _ h _ => h
theorem OffX.same {D C : Addr} {H H' : Hp} (e : Same H H') : OffX D C H H' := fun b o _ _ h _ => e b o h
theorem OffX.at {D C : Addr} {T : Nat} {H H' : Hp} {a : Addr} {o : HO} (f : OffX D C H H') (k : DeckAt D C T H) (h : H a = some o) (n : (∀ xs, o ≠ .lst xs) ∧ (∀ kvs, o ≠ .dK kvs) ∧ ∀ ps, o ≠ .tbl ps) : H' a = some o := by
  obtain ⟨m, t, js, e1, e2, _⟩ := k.ex
  refine f a o ?_ ?_ h n.2.2
  · rintro rfl
    rw [h] at e1
    cases e1
    exact n.2.1 _ rfl
  · rintro rfl
    rw [h] at e2
    cases e2
    exact n.1 _ rfl
theorem OffX.tup {K : PySem.W.Frag} {D C : Addr} {T : Nat} {H H' : Hp} (f : OffX D C H H') (k : DeckAt D C T H) : KpT K H H' := by
  intro a xs h
  rcases h with (h | ⟨o, h⟩) | h
  · exact Or.inl (Or.inl (f.at k h ⟨(fun _ z => nomatch z), (fun _ z => nomatch z), (fun _ z => nomatch z)⟩))
  · exact Or.inl (Or.inr ⟨o, f.at k h ⟨(fun _ z => nomatch z), (fun _ z => nomatch z), (fun _ z => nomatch z)⟩⟩)
  · exact Or.inr h
theorem WAt.offx {D C : Addr} {T : Nat} {H H' : Hp} {wd ld : Addr} {sg : List Nat} {gs : List Fd} (h : WAt H wd ld sg gs) (f : OffX D C H H') (k : DeckAt D C T H) : WAt H' wd ld sg gs := by
  refine ⟨f wd _ ?_ ?_ h.w (fun _ z => nomatch z), f.at k h.l ⟨(fun _ z => nomatch z), (fun _ z => nomatch z), (fun _ z => nomatch z)⟩⟩
  · rintro rfl
    obtain ⟨m, t, js, e, _⟩ := k.ex
    rw [h.w] at e
    have e2 := Option.some.inj e
    injection e2 with e2
    have e3 := congrArg List.length e2
    exact absurd e3 (by show ¬ 2 = 3; decide)
  · rintro rfl
    obtain ⟨m, t, js, _, e, _⟩ := k.ex
    rw [h.w] at e
    cases e
theorem BkAt.offx {C D Cc : Addr} {T : Nat} {H H' : Hp} {r fa ta : Addr} {sg : List Nat} {fs : List Fd} (h : BkAt H C r sg fs fa ta) (f : OffX D Cc H H') (k : DeckAt D Cc T H) : BkAt H' C r sg fs fa ta :=
  let ⟨⟨d, x⟩, y⟩ := h
  ⟨⟨d, f.at k x ⟨(fun _ z => nomatch z), (fun _ z => nomatch z), (fun _ z => nomatch z)⟩⟩, f.at k y ⟨(fun _ z => nomatch z), (fun _ z => nomatch z), (fun _ z => nomatch z)⟩⟩
theorem OffX.put {D C : Addr} {H H' : Hp} {q : Addr} {o : HO} (a : OffX D C H H') (h : H q = none) : OffX D C H (upd H' q o) := by
  intro b u e1 e2 e n
  rw [upd_ne (ne_of_none e h)]
  exact a b u e1 e2 e n
theorem menu63 : ∀ sg ∈ menuB, ∀ c ∈ sg, c ≠ 63 := by decide +kernel
theorem joinW_one : ∀ l : List Nat, TL.joinL [] (l.map fun c => [c]) = l
  | [] => rfl
  | [c] => rfl
  | c :: d :: l => by
    show [c] ++ ([] ++ TL.joinL [] ((d :: l).map fun c => [c])) = _
    rw [joinW_one (d :: l)]
    rfl
theorem sum_ones (l : List Nat) : (((l.map fun c => [c]).map S).map (·.length)).sum = l.length := by
  induction l with
  | nil => rfl
  | cons c l ih =>
    rw [List.map_cons, List.map_cons, List.map_cons, List.sum_cons, ih, SX.S_len]
    show 1 + l.length = l.length + 1
    omega
theorem intsV_snoc (ks : List Nat) (j : Nat) : intsV (ks ++ [j]) = intsV ks ++ [.int ((j : Nat) : Int)] := by
  unfold intsV
  rw [List.map_append]
  rfl
mutual
theorem dv_offx {K : PySem.W.Frag} {N : Addr → Prop} {D C : Addr} {H H' : Hp} (n : ∀ a, N a → a ≠ D ∧ a ≠ C) (f : OffX D C H H') (t : KpT K H H') : ∀ {v : V} {d : PyData}, Dv K N H v d → Dv K N H' v d
  | _, _, .non => .non
  | _, _, .bl b => .bl b
  | _, _, .int i => .int i
  | _, _, .str x => .str x
  | _, _, .lst k m h a => .lst k m (f _ _ (n _ k).1 (n _ k).2 h (fun _ z => nomatch z)) (dvs_offx n f t a)
  | _, _, .tup h a => .tup (t _ _ h) (dvs_offx n f t a)
  | _, _, .dct k h => .dct k (f _ _ (n _ k).1 (n _ k).2 h (fun _ z => nomatch z))
theorem dvs_offx {K : PySem.W.Frag} {N : Addr → Prop} {D C : Addr} {H H' : Hp} (n : ∀ a, N a → a ≠ D ∧ a ≠ C) (f : OffX D C H H') (t : KpT K H H') : ∀ {v : List V} {d : List PyData}, DvAll K N H v d → DvAll K N H' v d
  | _, _, .nil => .nil
  | _, _, .cons a b => .cons (dv_offx n f t a) (dvs_offx n f t b)
end
abbrev NDC (D C : Addr) : Addr → Prop := fun a => a ≠ D ∧ a ≠ C
theorem OdX.odk {K : PySem.W.Frag} {D C : Addr} {T w n b : Nat} {H : Hp} {v : V} (od : OdX K (NDC D C) w n b H v) (dk : DeckAt D C T H) (hw : w ≤ 90000) (hb : b ≤ 70) : OdK K D C H v := fun H' f => by
  obtain ⟨d, dv, ok, bx⟩ := od
  refine ⟨d, (dv_offx (fun _ h => h) f (f.tup dk) dv).dg, Nat.le_trans ok.gs.we hw, fun ds e => ?_⟩
  rw [e] at bx
  have := (boxB_tup.mp bx).1
  omega
theorem odk_tup {K : PySem.W.Frag} {D C p : Addr} {T w n : Nat} {H : Hp} {xs : List V} {ds : List PyData} (dk : DeckAt D C T H) (z : SqT K H p xs) (dv : DvAll K (NDC D C) H xs ds) (ok : LsOk w n ds) (hw : w ≤ 90000) (hl : ds.length ≤ 80) : OdK K D C H (.ref p) := fun H' f =>
  ⟨.tuple ds, .tup (f.tup dk _ _ z) (dvs_offx (fun _ h => h) f (f.tup dk) dv).dg, Nat.le_trans ok.tup.gs.we hw, fun ds e => by injection e with e; rw [← e]; exact hl⟩
theorem OdK.mv {K : PySem.W.Frag} {D C : Addr} {H H1 : Hp} {vs : List V} (h : ∀ v ∈ vs, OdK K D C H v) (o : OffX D C H H1) : ∀ v ∈ vs, OdK K D C H1 v := fun v hv H' f => h v hv H' (o.trans f)
theorem OdK.cons {K : PySem.W.Frag} {D C : Addr} {H : Hp} {v : V} {vs : List V} (a : OdK K D C H v) (h : ∀ v ∈ vs, OdK K D C H v) : ∀ u ∈ v :: vs, OdK K D C H u := fun u hu => (List.mem_cons.mp hu).elim (fun e => e ▸ a) (h u)
theorem odk_const {K : PySem.W.Frag} {D C : Addr} {H : Hp} {v : V} {d : PyData} (hd : ∀ H', Dg K H' v d) (hw : d.weight ≤ 90000) (hl : ∀ ds, d ≠ .tuple ds) : OdK K D C H v := fun H' _ => ⟨d, hd H', hw, fun ds e => (hl ds e).elim⟩
def nDs (ns : List Nat) : List PyData := ns.map fun n => PyData.int ((n : Nat) : Int)
theorem nDs_dv {K : PySem.W.Frag} {N : Addr → Prop} {H : Hp} : ∀ ns : List Nat, DvAll K N H (intsV ns) (nDs ns)
  | [] => .nil
  | _ :: r => .cons (.int _) (nDs_dv r)
theorem nDs_ok : ∀ {ns : List Nat}, (∀ n ∈ ns, n ≤ 4100) → LsOk (21 * ns.length) 0 (nDs ns)
  | [], _ => LsOk.nil
  | n :: r, h => (LsOk.cons (okD_int (h n List.mem_cons_self)) (nDs_ok fun x hx => h x (List.mem_cons_of_mem _ hx))).mono (by rw [List.length_cons]; omega) (Nat.le_refl _)
theorem nDs_od {K : PySem.W.Frag} {N : Addr → Prop} {H : Hp} {p : Addr} {ns : List Nat} (z : SqT K H p (intsV ns)) (h : ∀ n ∈ ns, n ≤ 4100) (hl : ns.length ≤ 8) : OdX K N 168 1 4 H (.ref p) :=
  ⟨.tuple (nDs ns), .tup z (nDs_dv ns), ((nDs_ok h).mono (by omega) (Nat.le_refl _)).tup, boxB_tup.mpr ⟨by unfold nDs; rw [List.length_map]; omega, boxAll_of fun d hd => by obtain ⟨n, hn, rfl⟩ := List.mem_map.mp hd; exact boxB_int (by have := h n hn; show n ≤ _; exact Nat.le_trans this (by decide +kernel))⟩⟩
structure LwSt (K : PySem.W.Frag) (Cb P0 D C wd ld r fa ta b tw tk : Addr) (T : Nat) (sg : List Nat) (gs fs : List Fd) (wss : List (List (List Nat))) (ns ks : List Nat) (H : Hp) : Prop where
  dk : DeckAt D C T H
  t : TabG H P0
  w : WAt H wd ld sg gs
  bk : BkAt H Cb r sg fs fa ta
  sh : ShAt K H b wss
  zw : SqT K H tw (intsV ns)
  zk : SqT K H tk (intsV ks)
section
variable {K : PySem.W.Frag} {Cb P0 D C wd ld r fa ta b tw tk : Addr} {T T' : Nat} {sg : List Nat} {gs fs : List Fd} {wss : List (List (List Nat))} {ns ks : List Nat} {H H' : Hp}
theorem LwSt.same (h : LwSt K Cb P0 D C wd ld r fa ta b tw tk T sg gs fs wss ns ks H) (s : Same H H') : LwSt K Cb P0 D C wd ld r fa ta b tw tk T sg gs fs wss ns ks H' :=
  ⟨h.dk.same s, Mq.TabG.same h.t s, h.w.same s, h.bk.same s, h.sh.kp (KpT.same s), Same.tup s h.zw, Same.tup s h.zk⟩
theorem LwSt.off (h : LwSt K Cb P0 D C wd ld r fa ta b tw tk T sg gs fs wss ns ks H) (o : Off D C H H') (dk : DeckAt D C T' H') : LwSt K Cb P0 D C wd ld r fa ta b tw tk T' sg gs fs wss ns ks H' :=
  ⟨dk, tab_off h.t h.dk o, h.w.off o h.dk, h.bk.off o h.dk, h.sh.kp (KpT.off o h.dk), o.tup h.dk h.zw, o.tup h.dk h.zk⟩
theorem LwSt.offx (h : LwSt K Cb P0 D C wd ld r fa ta b tw tk T sg gs fs wss ns ks H) (o : OffX D C H H') (dk : DeckAt D C T' H') (t : TabG H' P0) : LwSt K Cb P0 D C wd ld r fa ta b tw tk T' sg gs fs wss ns ks H' :=
  ⟨dk, t, h.w.offx o h.dk, h.bk.offx o h.dk, h.sh.kp (o.tup h.dk), o.tup h.dk _ _ h.zw, o.tup h.dk _ _ h.zk⟩
end
theorem odk_ns {K : PySem.W.Frag} {D C p : Addr} {T : Nat} {H : Hp} {ns : List Nat} (dk : DeckAt D C T H) (z : SqT K H p (intsV ns)) (h : ∀ n ∈ ns, n ≤ 4100) (hl : ns.length ≤ 80) : OdK K D C H (.ref p) :=
  odk_tup dk z (nDs_dv ns) (nDs_ok h) (by omega) (by unfold nDs; rw [List.length_map]; omega)
theorem nDx_dv {K : PySem.W.Frag} {N : Addr → Prop} {H : Hp} {xs : List V} {es : List PyData} (h : DvAll K N H xs es) : ∀ ns : List Nat, DvAll K N H (intsV ns ++ xs) (nDs ns ++ es)
  | [] => h
  | _ :: r => .cons (.int _) (nDx_dv h r)
theorem nDx_ok {w : Nat} {es : List PyData} (hw : LsOk w 0 es) : ∀ {ns : List Nat}, (∀ n ∈ ns, n ≤ 4100) → LsOk (21 * ns.length + w) 0 (nDs ns ++ es)
  | [], _ => hw.mono (by omega) (Nat.le_refl _)
  | n :: r, h => (LsOk.cons (okD_int (h n List.mem_cons_self)) (nDx_ok hw fun x hx => h x (List.mem_cons_of_mem _ hx))).mono (by rw [List.length_cons]; omega) (Nat.le_refl _)
theorem odk_nx {K : PySem.W.Frag} {D C p : Addr} {T w : Nat} {H : Hp} {ns : List Nat} {xs : List V} {es : List PyData} (dk : DeckAt D C T H) (z : SqT K H p (intsV ns ++ xs)) (h : ∀ n ∈ ns, n ≤ 4100) (hl : ns.length ≤ 60) (dv : DvAll K (NDC D C) H xs es) (hw : LsOk w 0 es) (hw2 : w ≤ 1000) (hl2 : es.length ≤ 20) : OdK K D C H (.ref p) :=
  odk_tup dk z (nDx_dv dv ns) (nDx_ok hw h) (by omega) (by unfold nDs; rw [List.length_append, List.length_map]; omega)
theorem odk_xn {K : PySem.W.Frag} {D C p : Addr} {T w : Nat} {H : Hp} {ns : List Nat} {x : V} {e : PyData} (dk : DeckAt D C T H) (z : SqT K H p ([x] ++ intsV ns)) (h : ∀ n ∈ ns, n ≤ 4100) (hl : ns.length ≤ 60) (dv : Dv K (NDC D C) H x e) (hw : OkD w 0 e) (hw2 : w ≤ 1000) : OdK K D C H (.ref p) :=
  odk_tup dk z (.cons dv (nDs_dv ns)) (LsOk.cons hw (nDs_ok h)) (by omega) (by rw [List.length_cons]; unfold nDs; rw [List.length_map]; omega)
theorem odk_ls {K : PySem.W.Frag} {D C p : Addr} {T : Nat} {H : Hp} {ns : List Nat} (dk : DeckAt D C T H) (z : H p = some (.lst (intsV ns))) (n : p ≠ D ∧ p ≠ C) (m : p ≠ sysModules) (h : ∀ n ∈ ns, n ≤ 4100) (hl : ns.length ≤ 60) : OdK K D C H (.ref p) := fun H' f =>
  ⟨.list (nDs ns), (dv_offx (fun _ h => h) f (f.tup dk) (Dv.lst (N := NDC D C) n m z (nDs_dv ns))).dg, Nat.le_trans (nDs_ok h).lst.gs.we (by omega), fun ds e => nomatch e⟩
theorem eTa : ("a" : Str) = S [97] := by decide +kernel
theorem eTb : ("b" : Str) = S [98] := by decide +kernel
theorem eTn : ("" : Str) = S [] := by decide +kernel
theorem eTab : ("ab" : Str) = S [97, 98] := by decide +kernel
theorem eTqa : ("?a" : Str) = S [63, 97] := by decide +kernel
theorem eTqm : ("?-" : Str) = S [63, 45] := by decide +kernel
theorem hand_fs : FsOk [97, 98] handF := ⟨by decide, fun f hf => by
  unfold handF at hf
  rw [List.mem_singleton.mp hf]
  exact ⟨by decide, by decide, Or.inl rfl⟩, fun i j h1 h2 f g e1 e2 => by
  have h2 : j < 1 := h2
  omega⟩
theorem hand_sg : SgOk [97, 98] := ⟨by decide, by decide, by decide, by decide +kernel⟩
theorem rep_ints (n : Nat) (xs : List Nat) : intsV (List.replicate n xs).flatten = (List.replicate n (intsV xs)).flatten := by
  unfold intsV
  rw [List.map_flatten, List.map_replicate]
theorem len_rep : (intsV (List.replicate 149 [0, 1]).flatten).length + ([V.int 2] : List V).length = 299 := by decide +kernel
def spLaw (K : PySem.W.Frag) (P0 : Addr) : Sp := fun vs H Q _ => ∃ (a : Addr) (ns : List Int), vs = [.ref a] ∧ SqL K H a (ns.map V.int) ∧ ns.length ≤ 63 ∧ TabG H P0 ∧ ∀ H', Q (.bl true) H'
section
variable {P : Program} {w : World} {K : PySem.W.Frag} {mg : Str → Option Value} {base : Heap} {Cb CW CP P0 : Addr}
theorem ok_law {f fDK fBK fCO fSH fP fD fSR fW fS fLR fH fC fBC : Addr} {fd fdDK fdBK fdCO fdSH fdP fdD fdSR fdW fdS fdLR fdH fdC fdBC : FuncData} (F : Fun K "law" "law" s_law f fd) (B : Blt mg)
    (FDK : Fun K "_law_deck" "_law_deck" s__law_deck fDK fdDK) (gDK : mg "_law_deck" = some (.ref fDK)) (bDK : Binds K fdDK ["_law_script"] []) (GDK : FnOk P w K mg base CX0 1 fDK fdDK ["_law_script"] (spDeck K))
    (FBK : Fun K "_law_book" "_law_book" s__law_book fBK fdBK) (gBK : mg "_law_book" = some (.ref fBK)) (bBK : Binds K fdBK ["_law_deck_here"] []) (GBK : FnOk P w K mg base CX0 3 fBK fdBK ["_law_deck_here"] spLBook)
    (FCO : Fun K "_law_code" "_law_code" s__law_code fCO fdCO) (gCO : mg "_law_code" = some (.ref fCO)) (bCO : Binds K fdCO ["_law_w"] []) (GCO : FnOk P w K mg base CX0 5 fCO fdCO ["_law_w"] (spCode K Cb))
    (FSH : Fun K "_law_shelf" "_law_shelf" s__law_shelf fSH fdSH) (gSH : mg "_law_shelf" = some (.ref fSH)) (bSH : Binds K fdSH ["_law_deck_here", "_law_letters"] []) (GSH : FnOk P w K mg base CX0 4 fSH fdSH ["_law_deck_here", "_law_letters"] (spLShf K))
    (FP : Fun K "_law_pick" "_law_pick" s__law_pick fP fdP) (gP : mg "_law_pick" = some (.ref fP)) (bP : Binds K fdP ["_law_deck_here", "_law_some"] []) (GP : FnOk P w K mg base CX0 2 fP fdP ["_law_deck_here", "_law_some"] spPick)
    (FD : Fun K "_law_draw" "_law_draw" s__law_draw fD fdD) (gD : mg "_law_draw" = some (.ref fD)) (bD : Binds K fdD ["_law_deck_here", "_law_below"] []) (GD : FnOk P w K mg base CX0 1 fD fdD ["_law_deck_here", "_law_below"] spDraw)
    (FSR : Fun K "_law_shelves_right" "_law_shelves_right" s__law_shelves_right fSR fdSR) (gSR : mg "_law_shelves_right" = some (.ref fSR)) (bSR : Binds K fdSR ["_law_deck_here", "_law_letters", "_law_shelf_here"] []) (GSR : FnG P w K mg base CX0 13 fSR fdSR ["_law_deck_here", "_law_letters", "_law_shelf_here"] (spShR K))
    (FW : Fun K "_law_walk" "_law_walk" s__law_walk fW fdW) (gW : mg "_law_walk" = some (.ref fW)) (bW : Binds K fdW ["_law_deck_here", "_law_w", "_law_shelf_here", "_law_web", "_law_most"] []) (GW : FnOk P w K mg base CX0 4 fW fdW ["_law_deck_here", "_law_w", "_law_shelf_here", "_law_web", "_law_most"] (spWalk K))
    (FS : Fun K "_law_spoilt" "_law_spoilt" s__law_spoilt fS fdS) (gS : mg "_law_spoilt" = some (.ref fS)) (bS : Binds K fdS ["_law_deck_here", "_law_it"] []) (GS : FnOk P w K mg base CX0 12 fS fdS ["_law_deck_here", "_law_it"] (spSpoilt K 8))
    (FLR : Fun K "_law_led_right" "_law_led_right" s__law_led_right fLR fdLR) (gLR : mg "_law_led_right" = some (.ref fLR)) (bLR : Binds K fdLR ["_law_deck_here", "_law_w", "_law_code_here", "_law_shelf_here", "_law_web", "_law_it"] []) (GLR : FnG P w K mg base CX0 9 fLR fdLR ["_law_deck_here", "_law_w", "_law_code_here", "_law_shelf_here", "_law_web", "_law_it"] (spLedR K Cb P0))
    (FH : Fun K "_law_heard" "_law_heard" s__law_heard fH fdH) (gH : mg "_law_heard" = some (.ref fH)) (bH : Binds K fdH ["_law_code_here", "_law_shelf_here", "_law_web", "_law_course_here", "_law_way"] []) (GH : FnG P w K mg base CX0 7 fH fdH ["_law_code_here", "_law_shelf_here", "_law_web", "_law_course_here", "_law_way"] (spHeard K Cb P0))
    (FC : Fun K "course_led" "course_led" s_course_led fC fdC) (gC : mg "course_led" = some (.ref fC)) (bC : Binds K fdC ["book", "shelf", "web", "course"] []) (GC : FnOk P w K mg base (L2.CX P w) 5 fC fdC ["book", "shelf", "web", "course"] (spCourse K Cb CW CP P0))
    (gBC : mg "Book" = some (.ref Cb)) (M : Mk K Cb fBC) (bBC : Binds K fdBC ["self", "letters", "folds"] []) (GBC : FnOk P w K mg base CX0 3 fBC fdBC ["self", "letters", "folds"] (spBook K Cb)) :
    FnG P w K mg base CX0 14 f fd ["_law_script"] (spLaw K P0) := by
  refine Mq.Fun.okG F sc_law (fun vs H Q E h => ?_) (fun cdv A outer s H vs Q E gA hr h => ?_)
  · obtain ⟨_, _, rfl, _⟩ := h
    rfl
  · obtain ⟨a, ns0, rfl, ha, hn0, ht, q⟩ := h
    have hr5 : Room 5 (A.deeper (envOfC "law" (defScope s_law) s.heap.objs.size f cdv)) := hr.mono (by decide)
    have hu64 : (A.deeper (envOfC "law" (defScope s_law) s.heap.objs.size f cdv)).units + 64 < cLine := by
      have := hr.units
      omega
    have hu : (A.deeper (envOfC "law" (defScope s_law) s.heap.objs.size f cdv)).units + 1 < cLine := by
      have := hr.units
      omega
    have hu0 : (A.deeper (envOfC "law" (defScope s_law) s.heap.objs.size f cdv)).units < cLine := by
      have := hr.units
      omega
    refine ⟨_, (pss_cons (ps_set (i := 1) sc_law.nd rfl (Or.inr rfl) (pe_call GDK (hr.mono (by decide)) (by rfl) gDK FDK.kp bDK .nil pass0 (pa_cons (pv 0) pa_nil)))
    (pss_cons (ps_for (passes_of rfl) rfl (pi_range1 (by rfl) B.range (pa_cons pe_int pa_nil)) (pg_name (i := 2) sc_law.nd rfl (Or.inl rfl))
      (pss_cons (ps_set (i := 3) sc_law.nd rfl (Or.inr rfl) (pe_call GBK (hr.mono (by decide)) (by rfl) gBK FBK.kp bBK .nil pass0 (pa_cons (pv 1) pa_nil)))
      (pss_cons (ps_asg (pe_tup (pa_cons (pe_call GCO (hr.mono (by decide)) (by rfl) gCO FCO.kp bCO .nil pass0 (pa_cons (pv 3) pa_nil)) (pa_cons (pe_call GSH (hr.mono (by decide)) (by rfl) gSH FSH.kp bSH .nil pass0 (pa_cons (pv 1) (pa_cons (pe_dget hu (pv 3) pe_str (fun _ _ => rfl)) pa_nil))) pa_nil))) (pg_tup rfl (pgs_cons (pg_name (i := 4) sc_law.nd rfl (Or.inr rfl)) (pgs_cons (pg_name (i := 5) sc_law.nd rfl (Or.inr rfl)) pgs_nil))))
      (pss_cons (ps_set (i := 6) sc_law.nd rfl (Or.inr rfl) (pe_join pe_str (pe_lc (own := [("_law_k", 13)]) (g := gName 13) (tt := tYes) rfl sc_law.nd (pi_range1 (by rfl) B.range (pa_cons (pe_call GD (hr.mono (by decide)) (by rfl) gD FD.kp bD .nil pass0 (pa_cons (pv 1) (pa_cons pe_int pa_nil))) pa_nil)) (blkOk_by (own := [("_law_k", 13)]) (N := lwN) (sc := defScope s_law) (by decide +kernel)) (fun _ _ _ _ _ => pg_name (i := 13) sc_law.nd rfl (Or.inl rfl)) (fun _ _ _ _ _ => pts_nil) (fun _ _ _ _ _ => (pe_call GP (hr.mono (by decide)) (by rfl) gP FP.kp bP .nil pass0 (pa_cons (pv 1) (pa_cons (pe_dget hu (pv 3) pe_str (fun _ _ => rfl)) pa_nil)))))))
      (pss_cons (ps_if (pt_not (pt_val (pe_callG GSR gA (hr.mono (by decide)) (by rfl) gSR FSR.kp bSR pass0 (pa_cons (pv 1) (pa_cons (pe_dget hu (pv 3) pe_str (fun _ _ => rfl)) (pa_cons (pv 5) pa_nil)))))) (pss_one (ps_ret pe_bl)) pss_nil)
      (pss_cons (ps_par (i := 7) (j := 8) rfl sc_law.nd rfl rfl (by decide) rfl rfl (pa_cons (pe_call GW (hr.mono (by decide)) (by rfl) gW FW.kp bW .nil pass0 (pa_cons (pv 1) (pa_cons (pv 3) (pa_cons (pv 5) (pa_cons (pv 6) (pa_cons pe_int pa_nil)))))) (pa_cons (pe_callTy call_tuple_of (by rfl) B.tuple (by decide +kernel) (pa_cons (pe_lc (own := [("_law_k", 13)]) (g := gName 13) (tt := tYes) rfl sc_law.nd (pi_range1 (by rfl) B.range (pa_cons pe_int pa_nil)) (blkOk_by (own := [("_law_k", 13)]) (N := lwN) (sc := defScope s_law) (by decide +kernel)) (fun _ _ _ _ _ => pg_name (i := 13) sc_law.nd rfl (Or.inl rfl)) (fun _ _ _ _ _ => pts_nil) (fun _ _ _ _ _ => (pe_call GD (hr.mono (by decide)) (by rfl) gD FD.kp bD .nil pass0 (pa_cons (pv 1) (pa_cons (pe_callB (call_lenKK (K := K) rfl) (by rfl) B.len (by decide +kernel) (pa_cons (pv 5) pa_nil)) pa_nil))))) pa_nil)) pa_nil)) (by rfl))
      (pss_cons (ps_set (i := 9) sc_law.nd rfl (Or.inr rfl) (Mq.pe_ls (pa_cons (pv 7) (pa_cons (pv 8) (pa_cons (pe_tup pa_nil) (pa_cons (pe_call GS (hr.mono (by decide)) (by rfl) gS FS.kp bS .nil pass0 (pa_cons (pv 1) (pa_cons (pv 7) pa_nil))) (pa_cons (pe_op op_catN (pv 7) (pe_tup (pa_cons (pe_callB call_len (by rfl) B.len (by decide +kernel) (pa_cons (pv 5) pa_nil)) pa_nil))) (pa_cons (pe_op op_catN (pe_tup (pa_cons pe_bl pa_nil)) (pv 7)) (pa_cons (pe_callTy call_lsN (by rfl) B.list (by decide +kernel) (pa_cons (pv 7) pa_nil)) (pa_cons pe_non (pa_cons pe_str pa_nil)))))))))))
      (pss_cons (ps_set (i := 9) sc_law.nd rfl (Or.inr rfl) (pe_op op_cat (pv 9) (Mq.pe_ls (pa_cons (pe_op op_catN (pv 7) (pe_tup (pa_cons (pe_un un_neg pe_int) (pa_cons pe_int pa_nil)))) (pa_cons (pe_op op_repT (pe_tup (pa_cons pe_int pa_nil)) pe_int) (pa_cons (pe_op op_catN (pv 7) (pe_tup (pa_cons pe_non pa_nil))) (pa_cons pe_int pa_nil)))))))
      (pss_cons (PS_imp (t' := tMany K Cb P0 ) (ps_if (pt_cmpR (op_neNil hu0) (pe_lc (own := [("_law_it", 14)]) (g := gName 14) rfl sc_law.nd (pi_list (pv 9)) (blkOk_by (own := [("_law_it", 14)]) (N := lwN) (sc := defScope s_law) (by decide +kernel)) (fun _ _ _ _ _ => pg_name (i := 14) sc_law.nd rfl (Or.inl rfl)) (fun _ _ _ _ _ => pts_one (pt_not (pt_val (pe_callG GLR gA (hr.mono (by decide)) (by rfl) gLR FLR.kp bLR pass0 (pa_cons (pv 1) (pa_cons (pv 3) (pa_cons (pv 4) (pa_cons (pv 5) (pa_cons (pv 6) (pa_cons (pv 14) pa_nil)))))))))) (fun _ _ _ _ _ => (pv 14))) (Mq.pe_ls pa_nil) (nomark _)) (pss_one (ps_ret pe_bl)) pss_nil) (fun DD σ H h => by
        obtain ⟨D, C, wd, ld, r, fa, ta, b, ps, T, xs, sg, l, fs, gs, wss, y0, y2, y7, y8, y10, y11, y12, rfl, dk, hT, hw, hg, hpm, hfs, hb, hsh, hsf, ht, hl, hll, hlow, zps, n1, n2, hxl, hxs, q⟩ := h
        refine ⟨_, rfl, ps, rfl, ⟨_, SqL.of zps⟩, fun M hM => ?_⟩
        obtain ⟨nD, nC⟩ := new_ne dk hM
        refine lc_it (walk_list (K := K) (a := ps) (xs := xs)) (fun k H' => DeckAt D C (T + k) H' ∧ OffX D C H H' ∧ TabG H' P0 ∧ H' M = some (.lst [])) ⟨dk.same (same_new hM), OffX.same (same_new hM), Mq.TabG.same ht (same_new hM), upd_same⟩ (fun _ _ _ pp => SqL.of (pp.2.1 _ _ n1 n2 zps (fun _ z => nomatch z))) ?_ ?_
        · rintro k x Hk Hk' hk ⟨dkk, offk, tk, zM⟩ ⟨rfl, hx⟩
          obtain ⟨d, hd, hwt, hdl⟩ := hxs x (List.mem_of_getElem? hx) _ offk
          refine ⟨rfl, _, rfl, _, rfl, _, rfl, _, rfl, _, rfl, _, rfl, D, C, wd, ld, r, fa, ta, b, T + k, sg, l, fs, gs, wss, x, d, rfl, dkk, by omega, hw.offx offk dk, hg, hg.z, hpm, hfs, hb.offx offk dk, hsh.kp (offk.tup dk), hsf, tk, hl, hll, hlow, hd, hwt, hdl, fun H7 dk7 off7 t7 => ?_⟩
          exact ⟨true, rfl, ifF rfl ⟨dk7, offk.trans off7, t7, off7 _ _ nD nC zM (fun _ z => nomatch z)⟩⟩
        rintro H7 ⟨dk7, off7, t7, zM⟩
        refine ⟨sz_le (n := 0) (by decide), fun p hp _ => ⟨M, p, _, rfl, rfl, SqL.of (same_new hp _ _ zM), SqL.of upd_same, _, rfl, ifF rfl (q _ ((dk7.same (same_new hp)).mono (by omega)) (off7.trans (OffX.same (same_new hp))) (Mq.TabG.same t7 (same_new hp)))⟩⟩
))
      (pss_cons (ps_set (i := 10) sc_law.nd rfl (Or.inr rfl) (pe_call GP (hr.mono (by decide)) (by rfl) gP FP.kp bP .nil pass0 (pa_cons (pv 1) (pa_cons (Mq.pe_ls (pa_cons pe_non (pa_cons pe_int (pa_cons pe_str (pa_cons pe_str (pa_cons (pe_tup (pa_cons pe_str pa_nil)) (pa_cons pe_str (pa_cons pe_bl (pa_cons (Mq.pe_ls (pa_cons pe_str pa_nil)) pa_nil))))))))) pa_nil))))
      (pss_cons (ps_set (i := 11) sc_law.nd rfl (Or.inl rfl) (Mq.pe_ls (pa_cons pe_str (pa_cons (pv 10) (pa_cons pe_bl pa_nil)))))
      (pss_one (PS_imp (t' := tPage K Cb P0) (ps_if (pt_cmpR op_ne (pe_callB (call_repL hr gA) (by rfl) B.repr (by decide +kernel) (pa_cons (pe_lc (own := [("_law_way", 15)]) (g := gName 15) (tt := tYes) rfl sc_law.nd (pi_tup (pe_tup (pa_cons pe_int (pa_cons pe_int pa_nil)))) (blkOk_by (own := [("_law_way", 15)]) (N := lwN) (sc := defScope s_law) (by decide +kernel)) (fun _ _ _ _ _ => pg_name (i := 15) sc_law.nd rfl (Or.inl rfl)) (fun _ _ _ _ _ => pts_nil) (fun _ _ _ _ _ => (pe_callG GH gA (hr.mono (by decide)) (by rfl) gH FH.kp bH pass0 (pa_cons (pv 4) (pa_cons (pv 5) (pa_cons (pv 10) (pa_cons (pe_call GP (hr.mono (by decide)) (by rfl) gP FP.kp bP .nil pass0 (pa_cons (pv 1) (pa_cons (pv 9) pa_nil))) (pa_cons (pv 15) pa_nil)))))))) pa_nil)) (pe_callB (call_rep hr gA) (by rfl) B.repr (by decide +kernel) (pa_cons (Mq.pe_ls (pa_cons (pv 11) (pa_cons (pv 11) pa_nil))) pa_nil)) (nomark _)) (pss_one (ps_ret pe_bl)) pss_nil) (fun DD σ H h => by
        obtain ⟨D, C, r, fa, ta, b, ps, q0, T, xs, sg, fs, wss, wv, d, y0, y2, y3, y6, y7, y8, y12, rfl, dk, hT, hs, hb, hfs, hsh, ht, zps, n1, n2, hx0, hxl, hd, hdg, m1, m2, m3, zq0, q⟩ := h
        refine ⟨sz_le (n := 2) (by decide), fun tp htp => ⟨tp, rfl, ⟨_, Or.inl (Or.inl upd_same)⟩, ?_⟩⟩
        have s0 := same_new (o := HO.tup [V.int 0, V.int 1]) htp
        have ztp : SqT K (upd H tp (.tup [V.int 0, V.int 1])) tp [V.int 0, V.int 1] := Or.inl (Or.inl upd_same)
        have dk := dk.same s0
        have hb := hb.same s0
        have hsh := hsh.kp (KpT.same s0)
        have ht := Mq.TabG.same ht s0
        have zps := s0 _ _ zps
        have zq0 := s0 _ _ zq0
        have hdg : ∀ H', OffX D C (upd H tp (.tup [V.int 0, V.int 1])) H' → Dg K H' wv d := fun H' o => hdg H' ((OffX.same s0).trans o)
        have q : ∀ σ' H', σ' = _ → DeckAt D C (T + 2) H' → OffX D C (upd H tp (.tup [V.int 0, V.int 1])) H' → TabG H' P0 → DD.nx σ' H' := fun σ' H' e a o c => q σ' H' e a ((OffX.same s0).trans o) c
        generalize upd H tp (.tup [V.int 0, V.int 1]) = H0 at ztp dk hb hsh ht zps zq0 hdg q ⊢
        refine fun M hM => ?_
        obtain ⟨nD, nC⟩ := new_ne dk hM
        refine lc_yes (walk_tup (K := K) (a := tp) (xs := [V.int 0, V.int 1])) (fun k H' => DeckAt D C (T + k) H' ∧ OffX D C H0 H' ∧ TabG H' P0 ∧ ∃ ws : List Addr, H' M = some (.lst (ws.map V.ref)) ∧ ws.length = k ∧ ∀ u ∈ ws, u ≠ M ∧ u ≠ D ∧ u ≠ C ∧ u ≠ sysModules ∧ H' u = some (.lst [.str "web", wv, .bl true])) ⟨dk.same (same_new hM), OffX.same (same_new hM), Mq.TabG.same ht (same_new hM), [], upd_same, rfl, fun _ h => nomatch h⟩ (fun _ _ _ pp => (pp.2.1).tup dk _ _ ztp) ?_ ?_
        · rintro k x Hk Hk' hk ⟨dkk, offk, tk, ws, zM, hwl, hws⟩ ⟨rfl, hx⟩
          have hk2 : k < 2 := hk
          obtain ⟨way, rfl⟩ : ∃ way : Nat, x = .int ((way : Nat) : Int) := by
            match k, hk, hx with
            | 0, _, hx => exact ⟨0, (Option.some.inj hx).symm⟩
            | 1, _, hx => exact ⟨1, (Option.some.inj hx).symm⟩
          refine ⟨rfl, _, rfl, _, rfl, _, rfl, _, rfl, _, rfl, D, C, T + k, .ref ps, rfl, dkk, by omega, Or.inr ⟨ps, xs, rfl, offk _ _ n1 n2 zps (fun _ z => nomatch z), n2, hx0, hxl, fun H2 v2 hv2 dk2 off2 => ⟨_, rfl, ?_⟩⟩⟩
          have o2 := offk.trans (OffX.of off2)
          refine heard_web (E := E0) (hb.offx o2 dk) hfs (hsh.kp (o2.tup dk)) (tab_off tk dkk off2) (page_bad hs (hdg _ o2) hd) fun H3 u e3 t3 nu nm zu => ?_
          have zM := (OffX.of off2).trans (OffX.ex e3) _ _ nD nC zM (fun _ z => nomatch z)
          have dk3 := dk2.exn e3
          have o3 := o2.trans (OffX.ex e3)
          have uM : u ≠ M := fun z => by
            have := off2 _ _ nD nC (by assumption)
            exact nu M _ this z
          have uC : u ≠ C := by
            obtain ⟨_, _, js, _, e, _⟩ := dk2.ex
            exact nu C _ e
          have uD : u ≠ D := by
            obtain ⟨_, _, js, e, _, _⟩ := dk3.ex
            rintro rfl
            rw [zu] at e
            cases e
          refine ⟨_, zM, sz_lt (by rw [List.length_map]; omega), (DeckAt.put dk3 nD nC).mono (by omega), o3.put hM, tab_put t3 zM, ws ++ [u], by rw [List.map_append]; exact upd_same, by rw [List.length_append, hwl]; rfl, fun x hx => ?_⟩
          rcases List.mem_append.mp hx with h | h
          · obtain ⟨x1, x2, x3, x4, x5⟩ := hws x h
            exact ⟨x1, x2, x3, x4, (upd_ne x1).trans ((OffX.of off2).trans (OffX.ex e3) _ _ x2 x3 x5 (fun _ z => nomatch z))⟩
          · rw [List.mem_singleton.mp h]
            exact ⟨uM, uD, uC, nm, (upd_ne uM).trans zu⟩
        rintro H7 ⟨dk7, off7, t7, ws, zM, hwl, hws⟩
        have dk7 : DeckAt D C (T + 2) H7 := dk7
        obtain ⟨u0, u1, rfl⟩ : ∃ u0 u1, ws = [u0, u1] := by
          match ws, hwl with
          | [a, b], _ => exact ⟨a, b, rfl⟩
        have dg : ∀ u ∈ [u0, u1], Dg K H7 (.ref u) (.list [.str "web", d, .bool true]) := fun u hu => by
          obtain ⟨_, _, _, x4, x5⟩ := hws u hu
          exact .lst x4 (SqL.of x5) (.cons (.str _) (.cons (hdg _ off7) (.cons (.bl _) .nil)))
        obtain ⟨ls, sk⟩ := ok_twice (page_ok hd) (by decide) (by decide)
        refine ⟨M, [.ref u0, .ref u1], [_, _], rfl, SqL.of zM, .cons (dg u0 (by simp)) (.cons (dg u1 (by simp)) .nil), ls.sh, Nat.le_trans ls.de (by decide), sk.le, ?_⟩
        refine ⟨_, rfl, _, rfl, sz_le (n := 2) (by decide), fun p1 hp1 np1 => ?_⟩
        have s9 := same_new (o := HO.lst [V.ref q0, V.ref q0]) hp1
        have dq : Dg K H7 (.ref q0) (.list [.str "web", d, .bool true]) := .lst m3 (SqL.of (off7 _ _ m1 m2 zq0 (fun _ z => nomatch z))) (.cons (.str _) (.cons (hdg _ off7) (.cons (.bl _) .nil)))
        refine ⟨_, .list [_, _], rfl, .lst np1 (SqL.of upd_same) (.cons (dq.same s9) (.cons (dq.same s9) .nil)), sk.sh, sk.de, sk.le, rfl, _, rfl, ?_⟩
        rw [decide_eq_true rfl]
        exact ifF rfl (q _ _ rfl ((dk7.same s9).mono (by omega)) (off7.trans (OffX.same s9)) (Mq.TabG.same t7 s9))
))))))))))))))
    (pss_cons (ps_asg (pe_tup (pa_cons (pe_make M GBC (hr.mono (by decide)) (by rfl) gBC bBC .nil pass0 (pa_cons pe_str (pa_cons (pe_tup (pa_cons (pe_tup (pa_cons pe_str (pa_cons pe_str (pa_cons pe_str pa_nil)))) pa_nil)) pa_nil))) (pa_cons (pe_tup (pa_cons (pe_tup (pa_cons pe_str (pa_cons pe_str pa_nil))) (pa_cons (pe_tup (pa_cons pe_str (pa_cons pe_str pa_nil))) (pa_cons (pe_tup (pa_cons pe_str (pa_cons pe_str pa_nil))) (pa_cons (pe_tup (pa_cons pe_str (pa_cons pe_str pa_nil))) pa_nil))))) pa_nil))) (pg_tup rfl (pgs_cons (pg_name (i := 4) sc_law.nd rfl (Or.inr rfl)) (pgs_cons (pg_name (i := 5) sc_law.nd rfl (Or.inr rfl)) pgs_nil))))
    (pss_cons (ps_set (i := 12) sc_law.nd rfl (Or.inl rfl) (Mq.pe_ls (pa_cons (pe_callS (E := WE fun _ _ _ _ => False) GC hr5 (by rfl) gC FC.kp bC (fun σ => passAt takes0 σ) (pa_cons (pv 4) (pa_cons (pv 5) (pa_cons pe_str (pa_cons (pe_op op_repT (pe_tup (pa_cons pe_int (pa_cons pe_int pa_nil))) pe_int) pa_nil))))) (pa_cons (pe_callS (E := WE fun _ _ _ _ => False) GC hr5 (by rfl) gC FC.kp bC (fun σ => passAt takes0 σ) (pa_cons (pv 4) (pa_cons (pv 5) (pa_cons pe_str (pa_cons (pe_op op_catN (pe_op op_repT (pe_tup (pa_cons pe_int (pa_cons pe_int pa_nil))) pe_int) (pe_tup (pa_cons pe_int pa_nil))) pa_nil))))) pa_nil))))
    (pss_one (ps_ret (pe_cmpR (op_eqD hu64) (pe_op op_cat (pv 12) (Mq.pe_ls (pa_cons (pe_callS (E := WE fun _ _ _ _ => False) GC hr5 (by rfl) gC FC.kp bC (fun σ => passAt takes0 σ) (pa_cons (pv 4) (pa_cons (pv 5) (pa_cons pe_str (pa_cons (pe_tup (pa_cons pe_int (pa_cons pe_int pa_nil))) pa_nil))))) pa_nil))) (Mq.pe_ls (pa_cons pe_str (pa_cons pe_str (pa_cons pe_non pa_nil)))) (nomark _)))))))), ?_⟩
    refine ⟨_, rfl, a, ns0, rfl, ha, hn0, fun H0 D C s0 dk0 => ?_⟩
    have ht := Mq.TabG.same ht s0
    refine ⟨3, rfl, by decide, by decide, ?_⟩
    refine for_it (walk_rng (n := 3)) (fun i σ H' => DeckAt D C (1000 * i) H' ∧ TabG H' P0 ∧ ∃ y2 y3 y4 y5 y6 y7 y8 y9 y10 y11, σ = [some (.ref a), some (.ref D), y2, y3, y4, y5, y6, y7, y8, y9, y10, y11, none, none, none, none]) ⟨dk0, ht, _, _, _, _, _, _, _, _, _, _, rfl⟩ (fun _ _ _ _ _ => trivial) ?_ ?_
    · rintro i x σ H1 H1' hi ⟨dk1, t1, y2, y3, y4, y5, y6, y7, y8, y9, y10, y11, rfl⟩ ⟨rfl, rfl⟩
      refine ⟨_, rfl, D, C, _, rfl, dk1, by omega, fun H2 wd ld sg gs hsg hg hw dk2 off2 => ?_⟩
      have t2 := tab_off t1 dk1 off2
      have hm := menuB_ok sg hsg
      refine ⟨_, rfl, wd, ld, sg, gs, rfl, hw, hg, ⟨hm.pos, Nat.le_trans hm.few (by decide), hm.low, hm.lets⟩, fun H3 r fa ta fs xf hpm hasc hfs hb zfa hfd s3 => ?_⟩
      have t3 := Mq.TabG.same t2 s3
      have dk3 := dk2.same s3
      have hw := hw.same s3
      have h63 : ∀ c ∈ sg, c ≠ 63 := menu63 sg hsg
      refine ⟨_, rfl, _, rfl, wd, _, rfl, DGet.k (k := .inr "letters") hw.w, D, C, _, sg, rfl, dk3, by omega, hm.pos, hm.few, h63, fun H4 b wss hsh hsf dk4 off4 => ?_⟩
      have t4 := tab_off t3 dk3 off4
      have hw := hw.off off4 dk3
      have hb := hb.off off4 dk3
      have hsh3 := hsh
      refine ⟨sz_le (n := 2) (by decide), fun p hp => ⟨p, _, rfl, Or.inl (Or.inl upd_same), rfl, _, _, rfl, _, _, rfl, rfl, ?_⟩⟩
      have s5 := same_new (o := HO.tup [V.ref r, V.ref b]) hp
      have dk5 := dk4.same s5
      have t5 := Mq.TabG.same t4 s5
      have hw := hw.same s5
      have hb := hb.same s5
      have hsh := hsh.kp (KpT.same s5)
      clear hsh3
      generalize upd H4 p (.tup [V.ref r, V.ref b]) = H5 at dk5 t5 hw hb hsh ⊢
      refine ⟨⟨_, rfl⟩, _, rfl, D, C, _, 5, rfl, dk5, by omega, by decide, by decide, fun H6 n hn dk6 off6 => ?_⟩
      refine ⟨_, rfl, by omega, by omega, fun M hM => ?_⟩
      have t6 := tab_off t5 dk5 off6
      have hw := hw.off off6 dk5
      have hb := hb.off off6 dk5
      have hsh := hsh.kp (KpT.off off6 dk5)
      obtain ⟨nD, nC⟩ := new_ne dk6 hM
      refine lc_yes (walk_rng (n := n)) (fun k H' => DeckAt D C (1000 * i + 131 + k) H' ∧ Off D C H6 H' ∧ ∃ l : List Nat, H' M = some (.lst (((l.map fun c => [c]).map S).map V.str)) ∧ l.length = k ∧ From sg l) ⟨dk6.same (same_new hM), Off.same (same_new hM), [], upd_same, rfl, fun _ h => nomatch h⟩ (fun _ _ _ _ => trivial) ?_ ?_
      · rintro k y Hk Hk' hk ⟨dkk, offk, l, zM, hll, hl⟩ ⟨rfl, rfl⟩
        refine ⟨rfl, _, rfl, _, rfl, wd, _, rfl, DGet.k (k := .inr "letters") (hw.off offk dk6).w, D, C, _, _, rfl, dkk, by omega, Or.inl ⟨sg, rfl, hm.pos, Nat.le_trans hm.few (by decide), fun H7 c hc dk7 off7 => ?_⟩⟩
        refine ⟨_, off7 _ _ nD nC zM, sz_lt (by rw [List.length_map, List.length_map, List.length_map]; omega), (DeckAt.put dk7 nD nC).mono (by omega), (offk.trans off7).put hM, l ++ [c], by rw [List.map_append, List.map_append, List.map_append]; exact upd_same, by rw [List.length_append, hll]; rfl, fun x hx => ?_⟩
        rcases List.mem_append.mp hx with h | h
        · exact hl x h
        · rw [List.mem_singleton.mp h]
          exact hc
      rintro H7 ⟨dk7, off7, l, zM, hll, hl⟩
      refine ⟨S [], M, (l.map fun c => [c]).map S, rfl, rfl, Or.inl (SqL.of zM), ?_, ?_⟩
      · rw [sum_ones, List.length_map, List.length_map]
        show l.length + l.length * 0 ≤ _
        omega
      rw [SX.join_S, joinW_one]
      have t7 := tab_off t6 dk6 off7
      have hw := hw.off off7 dk6
      have hb := hb.off off7 dk6
      have hsh := hsh.kp (KpT.off off7 dk6)
      have hll : l.length ≤ 4 := by omega
      refine ⟨_, rfl, _, rfl, wd, _, rfl, DGet.k (k := .inr "letters") hw.w, _, rfl, D, C, b, _, sg, wss, rfl, dk7, by omega, hsh, hsf, hm.few, hm.low, fun H8 dk8 off8 => ⟨true, rfl, ifF rfl ?_⟩⟩
      have t8 := tab_off t7 dk7 off8
      have hw := hw.off off8 dk7
      have hb := hb.off off8 dk7
      have hsh := hsh.kp (KpT.off off8 dk7)
      have hwl : wss.length ≤ 3 := hsf.2.1
      refine ⟨_, rfl, _, rfl, _, rfl, _, rfl, D, C, wd, ld, b, _, sg, l, gs, wss, rfl, dk8, by omega, hw, hg.z, hsh, by omega, by omega, fun H9 tw ns zw hnl hns dk9 off9 => ?_⟩
      have t9 := tab_off t8 dk8 off9
      have hw := hw.off off9 dk8
      have hb := hb.off off9 dk8
      have hsh := hsh.kp (KpT.off off9 dk8)
      refine ⟨4, rfl, by decide, by decide, fun M2 hM2 => ?_⟩
      obtain ⟨nD2, nC2⟩ := new_ne dk9 hM2
      refine lc_yes (walk_rng (n := 4)) (fun k H' => DeckAt D C (1000 * i + 600 + k) H' ∧ Off D C H9 H' ∧ ∃ ks : List Nat, H' M2 = some (.lst (intsV ks)) ∧ ks.length = k ∧ ∀ j ∈ ks, j < wss.length) ⟨(dk9.same (same_new hM2)).mono (by omega), Off.same (same_new hM2), [], upd_same, rfl, fun _ h => nomatch h⟩ (fun _ _ _ _ => trivial) ?_ ?_
      · rintro k y Hk Hk' hk ⟨dkk, offk, ks, zM2, hkl, hks⟩ ⟨rfl, rfl⟩
        obtain ⟨⟨ss, hss, hwf⟩, hit⟩ := hsh.kp (KpT.off offk dk9)
        have hsl := each_len hwf
        refine ⟨rfl, _, rfl, _, rfl, _, _, rfl, Or.inr ⟨_, hss, rfl⟩, D, C, _, ss.length, rfl, dkk, by omega, by have := hsf.1; omega, by omega, fun Ha j hj dka offa => ?_⟩
        refine ⟨_, offa _ _ nD2 nC2 zM2, sz_lt (by rw [List.length_map]; omega), (DeckAt.put dka nD2 nC2).mono (by omega), (offk.trans offa).put hM2, ks ++ [j], by rw [intsV_snoc]; exact upd_same, by rw [List.length_append, hkl]; rfl, fun x hx => ?_⟩
        rcases List.mem_append.mp hx with h | h
        · exact hks x h
        · rw [List.mem_singleton.mp h]
          omega
      rintro Ha ⟨dka, offa, ks, zM2, hkl, hks⟩
      have t10 := tab_off t9 dk9 offa
      have hw := hw.off offa dk9
      have hb := hb.off offa dk9
      have hsh := hsh.kp (KpT.off offa dk9)
      have zw := offa.tup dk9 zw
      refine ⟨M2, _, rfl, Or.inl ⟨SqL.of zM2, fun tk htk => ?_⟩⟩
      have s11 := same_new (o := HO.tup (intsV ks)) htk
      have st : LwSt K Cb P0 D C wd ld r fa ta b tw tk _ sg gs fs wss ns ks _ := ⟨dka.same s11, Mq.TabG.same t10 s11, hw.same s11, hb.same s11, hsh.kp (KpT.same s11), Same.tup s11 zw, Or.inl (Or.inl upd_same)⟩
      clear zM2 offa dka hw hb hsh zw t10 s11 nD2 nC2
      generalize upd Ha tk (.tup (intsV ks)) = G at st ⊢
      refine ⟨_, _, rfl, ?_⟩
      have hnl4 : ∀ n ∈ ns, n ≤ 4100 := fun n hn => by have := hns n hn; omega
      have hkl4 : ∀ n ∈ ks, n ≤ 4100 := fun n hn => by have := hks n hn; omega
      have all : ∀ v ∈ ([.ref tk, .ref tw] : List V), OdK K D C G v := OdK.cons (odk_ns st.dk st.zk hkl4 (by omega)) (OdK.cons (odk_ns st.dk st.zw hnl4 (by omega)) fun _ h => nomatch h)
      refine ⟨_, rfl, _, rfl, sz_le (n := 0) (by decide), fun p1 hp1 => ?_⟩
      have s1 := same_new (o := HO.tup []) hp1
      have st := st.same s1
      have all := OdK.cons (odk_tup (D := D) (C := C) (ds := []) (n := 0) (w := 0) st.dk (Or.inl (Or.inl upd_same) : SqT K (upd G p1 (.tup [])) p1 []) .nil LsOk.nil (by decide) (by decide)) (OdK.mv all (OffX.same s1))
      clear hp1 s1
      generalize upd G p1 (.tup []) = G1 at st all ⊢
      have dk1 := st.dk
      refine ⟨_, rfl, _, rfl, spoilt_of (E := E0) (n := 8) (N := NDC D C) (fun _ h => h) (fun _ h => new_ne dk1 h) st.dk (by omega) (nDs_od st.zw hnl4 hnl) (by decide) (by decide) (by decide) (by decide) fun G2 u T2 hT2 dk2 off2 od2 => ?_⟩
      have st := st.off off2 dk2
      have all := OdK.cons (OdX.odk od2 dk2 (by decide) (by decide)) (OdK.mv all (OffX.of off2))
      obtain ⟨⟨ss, hss, hwf⟩, hit⟩ := st.sh
      have hsl := each_len hwf
      refine ⟨_, rfl, _, rfl, _, _, rfl, Or.inr ⟨_, hss, rfl⟩, sz_le (n := 1) (by decide), fun p2 hp2 => ?_⟩
      have s2 := same_new (o := HO.tup [V.int ((ss.length : Nat) : Int)]) hp2
      have st := st.same s2
      have all := OdK.mv all (OffX.same s2)
      have z2 : SqT K (upd G2 p2 (.tup [V.int ((ss.length : Nat) : Int)])) p2 [V.int ((ss.length : Nat) : Int)] := Or.inl (Or.inl upd_same)
      clear hp2 s2
      generalize upd G2 p2 (.tup [V.int ((ss.length : Nat) : Int)]) = G3 at st all z2 ⊢
      have hil : (intsV ns).length ≤ 8 := by unfold intsV; rw [List.length_map]; exact hnl
      refine ⟨tw, p2, _, _, rfl, rfl, st.zw, z2, sz_le (by show _ + 1 ≤ _; omega), fun p3 G4 s3 z3 => ?_⟩
      have st := st.same s3
      have all := OdK.cons (odk_nx st.dk z3 hnl4 (by omega) (.cons (.int _) .nil) (LsOk.cons (okD_int (by omega)) (LsOk.nil (w := 0))) (by decide) (by show 1 ≤ 20; decide)) (OdK.mv all (OffX.same s3))
      refine ⟨sz_le (n := 1) (by decide), fun p4 hp4 => ?_⟩
      have s4 := same_new (o := HO.tup [V.bl true]) hp4
      have st := st.same s4
      have all := OdK.mv all (OffX.same s4)
      have z4 : SqT K (upd G4 p4 (.tup [V.bl true])) p4 [V.bl true] := Or.inl (Or.inl upd_same)
      clear hp4 s4 s3 z3 z2
      generalize upd G4 p4 (.tup [V.bl true]) = G5 at st all z4 ⊢
      refine ⟨_, rfl, p4, tw, _, _, rfl, rfl, z4, st.zw, sz_le (by show 1 + _ ≤ _; omega), fun p5 G6 s5 z5 => ?_⟩
      have st := st.same s5
      have all := OdK.cons (odk_xn st.dk z5 hnl4 (by omega) (.bl _) (okD_of (by decide +kernel) : OkD 20 0 _) (by decide)) (OdK.mv all (OffX.same s5))
      refine ⟨_, rfl, tw, _, rfl, st.zw, fun p6 hp6 np6 => ?_⟩
      have d6 := new_ne st.dk hp6
      have s6 := same_new (o := HO.lst (intsV ns)) hp6
      have st := st.same s6
      have all := OdK.cons (odk_ls st.dk upd_same d6 np6 hnl4 (by omega)) (OdK.mv all (OffX.same s6))
      have all := OdK.cons (odk_const (D := D) (C := C) (d := .none) (fun _ => .non) (by decide) (fun _ z => nomatch z)) all
      have all := OdK.cons (odk_const (D := D) (C := C) (d := .str "0") (fun _ => .str _) (by decide +kernel) (fun _ z => nomatch z)) all
      clear hp6 s6 d6 np6 z5 s5 z4
      generalize upd G6 p6 (.lst (intsV ns)) = G7 at st all ⊢
      refine ⟨sz_le (n := 9) (by decide), fun L1 hL1 mL1 => ?_⟩
      have dL1 := new_ne st.dk hL1
      have sL1 := same_new (o := HO.lst [V.ref tw, .ref tk, .ref p1, u, .ref p3, .ref p5, .ref p6, .non, .str "0"]) hL1
      have st := st.same sL1
      have all1 : ∀ v ∈ ([V.ref tw, .ref tk, .ref p1, u, .ref p3, .ref p5, .ref p6, .non, .str "0"] : List V), OdK K D C (upd G7 L1 (HO.lst [V.ref tw, .ref tk, .ref p1, u, .ref p3, .ref p5, .ref p6, .non, .str "0"])) v := fun v hv => OdK.mv all (OffX.same sL1) v (List.mem_reverse.mp hv)
      have zL1 : upd G7 L1 (HO.lst [V.ref tw, .ref tk, .ref p1, u, .ref p3, .ref p5, .ref p6, .non, .str "0"]) L1 = some (.lst [V.ref tw, .ref tk, .ref p1, u, .ref p3, .ref p5, .ref p6, .non, .str "0"]) := upd_same
      have hz1 : ([V.ref tw, .ref tk, .ref p1, u, .ref p3, .ref p5, .ref p6, .non, .str "0"] : List V).length = 9 := rfl
      clear all hL1 sL1 mL1
      generalize upd G7 L1 (HO.lst [V.ref tw, .ref tk, .ref p1, u, .ref p3, .ref p5, .ref p6, .non, .str "0"]) = G8 at st all1 zL1 ⊢
      generalize ([V.ref tw, .ref tk, .ref p1, u, .ref p3, .ref p5, .ref p6, .non, .str "0"] : List V) = zs1 at all1 zL1 hz1
      refine ⟨_, rfl, _, rfl, _, rfl, sz_le (n := 2) (by decide), fun p7 hp7 => ?_⟩
      have s7 := same_new (o := HO.tup [V.int (-1), .int 9]) hp7
      have st := st.same s7
      have all1 := OdK.mv all1 (OffX.same s7)
      have zL1 := s7 _ _ zL1
      have z7 : SqT K (upd G8 p7 (.tup [V.int (-1), .int 9])) p7 [V.int (-1), .int 9] := Or.inl (Or.inl upd_same)
      clear hp7 s7
      generalize upd G8 p7 (.tup [V.int (-1), .int 9]) = G9 at st all1 zL1 z7 ⊢
      refine ⟨tw, p7, _, _, rfl, rfl, st.zw, z7, sz_le (by show _ + 2 ≤ _; omega), fun p8 G10 s8 z8 => ?_⟩
      have st := st.same s8
      have all1 := OdK.mv all1 (OffX.same s8)
      have zL1 := s8 _ _ zL1
      have all : ∀ v ∈ [V.ref p8], OdK K D C G10 v := OdK.cons (odk_nx st.dk z8 hnl4 (by omega) (.cons (.int _) (.cons (.int _) .nil)) (LsOk.cons (okD_of (by decide +kernel) : OkD 20 0 (.int (-1))) (LsOk.cons (okD_of (by decide +kernel) : OkD 20 0 (.int 9)) (LsOk.nil (w := 0)))) (by decide) (by show 2 ≤ 20; decide)) fun _ h => nomatch h
      refine ⟨sz_le (n := 1) (by decide), fun p9 hp9 => ?_⟩
      have s9 := same_new (o := HO.tup [V.int 0]) hp9
      have st := st.same s9
      have all1 := OdK.mv all1 (OffX.same s9)
      have all := OdK.mv all (OffX.same s9)
      have zL1 := s9 _ _ zL1
      have z9 : SqT K (upd G10 p9 (.tup [V.int 0])) p9 [V.int 0] := Or.inl (Or.inl upd_same)
      clear hp9 s9 s8 z8
      generalize upd G10 p9 (.tup [V.int 0]) = G11 at st all1 all zL1 z9 ⊢
      refine ⟨p9, 40, _, rfl, rfl, z9, (fun z => nomatch z), by decide, by decide, by decide, fun p10 hp10 => ?_⟩
      have s10 := same_new (o := HO.tup (List.replicate (40 : Int).toNat [V.int 0]).flatten) hp10
      have st := st.same s10
      have all1 := OdK.mv all1 (OffX.same s10)
      have zL1 := s10 _ _ zL1
      have z10 : SqT K (upd G11 p10 (.tup (List.replicate (40 : Int).toNat [V.int 0]).flatten)) p10 (intsV (List.replicate 40 0)) := Or.inl (Or.inl upd_same)
      have all := OdK.cons (odk_ns st.dk z10 (by decide +kernel) (by decide)) (OdK.mv all (OffX.same s10))
      clear hp10 s10 z10
      generalize upd G11 p10 (.tup (List.replicate (40 : Int).toNat [V.int 0]).flatten) = G12 at st all1 all zL1 ⊢
      refine ⟨_, rfl, sz_le (n := 1) (by decide), fun p11 hp11 => ?_⟩
      have s11 := same_new (o := HO.tup [V.non]) hp11
      have st := st.same s11
      have all1 := OdK.mv all1 (OffX.same s11)
      have all := OdK.mv all (OffX.same s11)
      have zL1 := s11 _ _ zL1
      have z11 : SqT K (upd G12 p11 (.tup [V.non])) p11 [V.non] := Or.inl (Or.inl upd_same)
      clear hp11 s11
      generalize upd G12 p11 (.tup [V.non]) = G13 at st all1 all zL1 z11 ⊢
      refine ⟨tw, p11, _, _, rfl, rfl, st.zw, z11, sz_le (by show _ + 1 ≤ _; omega), fun p12 G14 s12 z12 => ?_⟩
      have st := st.same s12
      have all1 := OdK.mv all1 (OffX.same s12)
      have zL1 := s12 _ _ zL1
      have all := OdK.cons (odk_nx st.dk z12 hnl4 (by omega) (.cons .non .nil) (LsOk.cons (okD_of (by decide +kernel) : OkD 20 0 .none) (LsOk.nil (w := 0))) (by decide) (by show 1 ≤ 20; decide)) (OdK.mv all (OffX.same s12))
      have all := OdK.cons (odk_const (D := D) (C := C) (d := .int 0) (fun _ => .int _) (by decide) (fun _ z => nomatch z)) all
      refine ⟨sz_le (n := 4) (by decide), fun L2 hL2 mL2 => ?_⟩
      have sL2 := same_new (o := HO.lst [V.ref p8, .ref p10, .ref p12, .int 0]) hL2
      have st := st.same sL2
      have all1 := OdK.mv all1 (OffX.same sL2)
      have zL1 := sL2 _ _ zL1
      have all2 : ∀ v ∈ ([V.ref p8, .ref p10, .ref p12, .int 0] : List V), OdK K D C (upd G14 L2 (HO.lst [V.ref p8, .ref p10, .ref p12, .int 0])) v := fun v hv => OdK.mv all (OffX.same sL2) v (List.mem_reverse.mp hv)
      have zL2 : upd G14 L2 (HO.lst [V.ref p8, .ref p10, .ref p12, .int 0]) L2 = some (.lst [V.ref p8, .ref p10, .ref p12, .int 0]) := upd_same
      have hz2 : ([V.ref p8, .ref p10, .ref p12, .int 0] : List V).length = 4 := rfl
      clear all hL2 sL2 mL2
      generalize upd G14 L2 (HO.lst [V.ref p8, .ref p10, .ref p12, .int 0]) = G15 at st all1 all2 zL1 zL2 ⊢
      generalize ([V.ref p8, .ref p10, .ref p12, .int 0] : List V) = zs2 at all2 zL2 hz2
      refine ⟨L1, L2, _, _, rfl, rfl, zL1, zL2, sz_le (by omega), fun L3 hL3 => ?_⟩
      have dL3 := new_ne st.dk hL3
      have sL3 := same_new (o := HO.lst (zs1 ++ zs2)) hL3
      have st := st.same sL3
      have all : ∀ v ∈ zs1 ++ zs2, OdK K D C (upd G15 L3 (.lst (zs1 ++ zs2))) v := fun v hv => (List.mem_append.mp hv).elim (OdK.mv all1 (OffX.same sL3) v) (OdK.mv all2 (OffX.same sL3) v)
      have zL3 : upd G15 L3 (.lst (zs1 ++ zs2)) L3 = some (.lst (zs1 ++ zs2)) := upd_same
      have hz3 : (zs1 ++ zs2).length = 13 := by rw [List.length_append, hz1, hz2]
      clear all1 all2 zL1 zL2 sL3 hL3
      generalize upd G15 L3 (.lst (zs1 ++ zs2)) = G16 at st all zL3 ⊢
      generalize zs1 ++ zs2 = zs at all zL3 hz3
      refine ⟨D, C, wd, ld, r, fa, ta, b, L3, _, zs, sg, l, fs, gs, wss, _, _, _, _, _, _, _, rfl, st.dk, by omega, st.w, hg, hpm, hfs, st.bk, st.sh, hsf, st.t, hl, by omega, hm.low, zL3, dL3.1, dL3.2, by omega, all, fun G17 dk17 off17 t17 => ?_⟩
      have st := st.offx off17 dk17 t17
      have zL3 := off17 _ _ dL3.1 dL3.2 zL3 (fun _ z => nomatch z)
      refine ⟨_, rfl, sz_le (n := 1) (by decide), fun q1 hq1 => ?_⟩
      have s18 := same_new (o := HO.tup [V.str "a"]) hq1
      have st := st.same s18
      have zL3 := s18 _ _ zL3
      have zq1 : SqT K (upd G17 q1 (.tup [V.str "a"])) q1 [V.str "a"] := Or.inl (Or.inl upd_same)
      clear hq1 s18
      generalize upd G17 q1 (.tup [V.str "a"]) = G18 at st zL3 zq1 ⊢
      refine ⟨sz_le (n := 1) (by decide), fun q2 hq2 mq2 => ?_⟩
      have d2 := new_ne st.dk hq2
      have s19 := same_new (o := HO.lst [V.str "a"]) hq2
      have st := st.same s19
      have zL3 := s19 _ _ zL3
      have zq1 := Same.tup s19 zq1
      have zq2 : upd G18 q2 (.lst [V.str "a"]) q2 = some (.lst [V.str "a"]) := upd_same
      clear hq2 s19
      generalize upd G18 q2 (.lst [V.str "a"]) = G19 at st zL3 zq1 zq2 ⊢
      refine ⟨sz_le (n := 8) (by decide), fun q3 hq3 mq3 => ?_⟩
      have d3 := new_ne st.dk hq3
      have s20 := same_new (o := HO.lst [V.non, .int 0, .str "z", .str "a ", .ref q1, .str "-", .bl true, .ref q2]) hq3
      have st := st.same s20
      have zL3 := s20 _ _ zL3
      have zq1 := Same.tup s20 zq1
      have zq2 := s20 _ _ zq2
      have zq3 : upd G19 q3 (.lst [V.non, .int 0, .str "z", .str "a ", .ref q1, .str "-", .bl true, .ref q2]) q3 = some (.lst [V.non, .int 0, .str "z", .str "a ", .ref q1, .str "-", .bl true, .ref q2]) := upd_same
      clear hq3 s20
      generalize upd G19 q3 (.lst [V.non, .int 0, .str "z", .str "a ", .ref q1, .str "-", .bl true, .ref q2]) = G20 at st zL3 zq1 zq2 zq3 ⊢
      have dk20 := st.dk
      refine ⟨D, C, _, .ref q3, rfl, dk20, by omega, Or.inr ⟨q3, _, rfl, zq3, d3.2, Nat.succ_pos _, by show 8 ≤ 1000; decide, fun G21 v hv dk21 off21 => ?_⟩⟩
      have st := st.off off21 dk21
      have zL3 := off21 _ _ dL3.1 dL3.2 zL3
      have zq1 := off21.tup dk20 zq1
      have zq2 := off21 _ _ d2.1 d2.2 zq2
      obtain ⟨d, hd, hdg⟩ : ∃ d ∈ pageD, ∀ H', OffX D C G21 H' → Dg K H' v d := by
        have dk := st.dk
        simp only [List.mem_cons, List.not_mem_nil, or_false] at hv
        rcases hv with rfl | rfl | rfl | rfl | rfl | rfl | rfl | rfl
        · exact ⟨.none, by simp [pageD], fun _ _ => .non⟩
        · exact ⟨.int 0, by simp [pageD], fun _ _ => .int _⟩
        · exact ⟨.str "z", by simp [pageD], fun _ _ => .str _⟩
        · exact ⟨.str "a ", by simp [pageD], fun _ _ => .str _⟩
        · exact ⟨.tuple [.str "a"], by simp [pageD], fun _ o => .tup (o.tup dk _ _ zq1) (.cons (.str _) .nil)⟩
        · exact ⟨.str "-", by simp [pageD], fun _ _ => .str _⟩
        · exact ⟨.bool true, by simp [pageD], fun _ _ => .bl _⟩
        · exact ⟨.list [.str "a"], by simp [pageD], fun _ o => .lst mq2 (SqL.of (o _ _ d2.1 d2.2 zq2 (fun _ z => nomatch z))) (.cons (.str _) .nil)⟩
      refine ⟨_, rfl, sz_le (n := 3) (by decide), fun q0 hq0 mq0 => ?_⟩
      have d0 := new_ne st.dk hq0
      have s22 := same_new (o := HO.lst [V.str "web", v, .bl true]) hq0
      have st := st.same s22
      have zL3 := s22 _ _ zL3
      refine ⟨D, C, r, fa, ta, b, L3, q0, _, zs, sg, fs, wss, v, d, _, _, _, _, _, _, _, rfl, st.dk, by omega, hsg, st.bk, hfs, st.sh, st.t, zL3, dL3.1, dL3.2, by omega, by omega, hd, fun H' o => hdg H' ((OffX.same s22).trans o), d0.1, d0.2, mq0, upd_same, fun σ' H' e dk' off' t' => ?_⟩
      rw [e]
      exact ⟨dk'.mono (by omega), t', _, _, _, _, _, _, _, _, _, _, rfl⟩
    · rintro σ H1 ⟨dk1, t1, y2, y3, y4, y5, y6, y7, y8, y9, y10, y11, rfl⟩
      clear hu hu0 dk0 s0 ha ht
      refine ⟨sz_le (n := 3) (by decide), fun a1 ha1 => ?_⟩
      have t1 := Mq.TabG.same t1 (same_new (o := HO.tup [V.str "a", .str "a", .str ""]) ha1)
      have z1 : SqT K (upd H1 a1 (.tup [V.str "a", .str "a", .str ""])) a1 (fdV ⟨97, 97, []⟩) := by
        rw [eTa, eTn]
        exact Or.inl (Or.inl upd_same)
      clear ha1
      generalize upd H1 a1 (.tup [V.str "a", .str "a", .str ""]) = H2 at t1 z1 ⊢
      refine ⟨sz_le (n := 1) (by decide), fun a2 ha2 => ?_⟩
      have s2 := same_new (o := HO.tup [V.ref a1]) ha2
      have t2 := Mq.TabG.same t1 s2
      have z1 := Same.tup s2 z1
      have z2 : SqT K (upd H2 a2 (.tup [V.ref a1])) a2 [V.ref a1] := Or.inl (Or.inl upd_same)
      clear ha2 s2 t1
      generalize upd H2 a2 (.tup [V.ref a1]) = H3 at t2 z1 z2 ⊢
      refine fun x dx hx hdx hne => ⟨x, dx, a2, [97, 98], handF, [.ref a1], by rw [eTab]; rfl, upd_same, ?_, ?_, hand_fs, hand_sg, fun H4 ta hbk keep => ⟨rfl, ?_⟩⟩
      · exact Same.tup (same_new ((upd_ne (Ne.symm hne)).trans hx)) (Same.tup (same_new hdx) z2)
      · exact .cons ⟨a1, rfl, Same.tup (same_new ((upd_ne (Ne.symm hne)).trans hx)) (Same.tup (same_new hdx) z1)⟩ .nil
      have t4 := Mq.TabG.same t2 (make_same hx hdx hne keep)
      clear hx hdx hne keep z1 z2 t2
      refine ⟨sz_le (n := 2) (by decide), fun b1 hb1 => ?_⟩
      have sN := same_new (o := HO.tup [V.str "a", .str "?a"]) hb1
      have hbk := hbk.same sN
      have t4 := Mq.TabG.same t4 sN
      have zb1 : SqT K (upd H4 b1 (.tup [V.str "a", .str "?a"])) b1 (txs [[97], [63, 97]]) := by
        rw [eTqa, eTa]
        exact Or.inl (Or.inl upd_same)
      clear hb1 sN
      generalize upd H4 b1 (.tup [V.str "a", .str "?a"]) = H5 at hbk t4  zb1 ⊢
      refine ⟨sz_le (n := 2) (by decide), fun b2 hb2 => ?_⟩
      have sN := same_new (o := HO.tup [V.str "a", .str "?-"]) hb2
      have hbk := hbk.same sN
      have t4 := Mq.TabG.same t4 sN
      have zb1 := Same.tup sN zb1
      have zb2 : SqT K (upd H5 b2 (.tup [V.str "a", .str "?-"])) b2 (txs [[97], [63, 45]]) := by
        rw [eTqm, eTa]
        exact Or.inl (Or.inl upd_same)
      clear hb2 sN
      generalize upd H5 b2 (.tup [V.str "a", .str "?-"]) = H6 at hbk t4 zb1 zb2 ⊢
      refine ⟨sz_le (n := 2) (by decide), fun b3 hb3 => ?_⟩
      have sN := same_new (o := HO.tup [V.str "?-", .str "a"]) hb3
      have hbk := hbk.same sN
      have t4 := Mq.TabG.same t4 sN
      have zb1 := Same.tup sN zb1
      have zb2 := Same.tup sN zb2
      have zb3 : SqT K (upd H6 b3 (.tup [V.str "?-", .str "a"])) b3 (txs [[63, 45], [97]]) := by
        rw [eTqm, eTa]
        exact Or.inl (Or.inl upd_same)
      clear hb3 sN
      generalize upd H6 b3 (.tup [V.str "?-", .str "a"]) = H7 at hbk t4 zb1 zb2 zb3 ⊢
      refine ⟨sz_le (n := 2) (by decide), fun b4 hb4 => ?_⟩
      have sN := same_new (o := HO.tup [V.str "?a", .str "a"]) hb4
      have hbk := hbk.same sN
      have t4 := Mq.TabG.same t4 sN
      have zb1 := Same.tup sN zb1
      have zb2 := Same.tup sN zb2
      have zb3 := Same.tup sN zb3
      have zb4 : SqT K (upd H7 b4 (.tup [V.str "?a", .str "a"])) b4 (txs [[63, 97], [97]]) := by
        rw [eTqa, eTa]
        exact Or.inl (Or.inl upd_same)
      clear hb4 sN
      generalize upd H7 b4 (.tup [V.str "?a", .str "a"]) = H8 at hbk t4 zb1 zb2 zb3 zb4 ⊢
      refine ⟨sz_le (n := 4) (by decide), fun b hb0 => ?_⟩
      have sN := same_new (o := HO.tup [V.ref b1, .ref b2, .ref b3, .ref b4]) hb0
      have hbk := hbk.same sN
      have t4 := Mq.TabG.same t4 sN
      have hsh : ShAt K (upd H8 b (.tup [V.ref b1, .ref b2, .ref b3, .ref b4])) b handW := ⟨⟨_, Or.inl (Or.inl upd_same), .cons ⟨b1, rfl, Same.tup sN zb1⟩ (.cons ⟨b2, rfl, Same.tup sN zb2⟩ (.cons ⟨b3, rfl, Same.tup sN zb3⟩ (.cons ⟨b4, rfl, Same.tup sN zb4⟩ .nil)))⟩, hand_sh (K := K)⟩
      clear hb0 sN zb1 zb2 zb3 zb4
      generalize upd H8 b (.tup [V.ref b1, .ref b2, .ref b3, .ref b4]) = H9 at hbk t4 hsh ⊢
      refine ⟨sz_le (n := 2) (by decide), fun p hp => ⟨p, _, rfl, Or.inl (Or.inl upd_same), rfl, _, _, rfl, _, _, rfl, rfl, ?_⟩⟩
      have sN := same_new (o := HO.tup [V.ref x, V.ref b]) hp
      have hbk := hbk.same sN
      have t4 := Mq.TabG.same t4 sN
      have hsh := hsh.kp (KpT.same sN)
      clear hp sN
      generalize upd H9 p (.tup [V.ref x, V.ref b]) = H10 at hbk t4 hsh ⊢
      refine ⟨_, rfl, _, rfl, sz_le (n := 2) (by decide), fun c1 hc1 => ?_⟩
      have sN := same_new (o := HO.tup [V.int 2, .int 3]) hc1
      have hbk := hbk.same sN
      have t4 := Mq.TabG.same t4 sN
      have hsh := hsh.kp (KpT.same sN)
      have zc1 : SqT K (upd H10 c1 (.tup [V.int 2, .int 3])) c1 [V.int 2, .int 3] := Or.inl (Or.inl upd_same)
      clear hc1 sN
      generalize upd H10 c1 (.tup [V.int 2, .int 3]) = H11 at hbk t4 hsh zc1 ⊢
      refine ⟨c1, 150, _, rfl, rfl, zc1, (fun z => nomatch z), by decide, by decide, by decide, fun c2 hc2 => ?_⟩
      have sN := same_new (o := HO.tup (List.replicate (150 : Int).toNat [V.int 2, .int 3]).flatten) hc2
      have hbk := hbk.same sN
      have t4 := Mq.TabG.same t4 sN
      have hsh := hsh.kp (KpT.same sN)
      have zc2 : SqT K (upd H11 c2 (.tup (List.replicate (150 : Int).toNat [V.int 2, .int 3]).flatten)) c2 (intsV hand1) := by
        rw [show intsV hand1 = (List.replicate (150 : Int).toNat [V.int 2, .int 3]).flatten from rep_ints 150 [2, 3]]
        exact Or.inl (Or.inl upd_same)
      clear hc2 sN
      generalize upd H11 c2 (.tup (List.replicate (150 : Int).toNat [V.int 2, .int 3]).flatten) = H12 at hbk t4 hsh zc2 ⊢
      unfold tNil
      dsimp only
      rw [eTn]
      refine course_of (l := []) hbk hand_fs hsh t4 (fun _ h => nomatch h) (by decide) zc2 hand_in.1 (by rw [hand_len.1]; decide) fun H13 e13 t13 => ?_
      rw [hand_1]
      have hbk := hbk.exn e13
      have hsh := hsh.kp (KpT.exn e13)
      refine ⟨_, rfl, _, rfl, sz_le (n := 2) (by decide), fun c3 hc3 => ?_⟩
      have sN := same_new (o := HO.tup [V.int 0, .int 1]) hc3
      have hbk := hbk.same sN
      have t13 := Mq.TabG.same t13 sN
      have hsh := hsh.kp (KpT.same sN)
      have zc3 : SqT K (upd H13 c3 (.tup [V.int 0, .int 1])) c3 [V.int 0, .int 1] := Or.inl (Or.inl upd_same)
      clear hc3 sN
      generalize upd H13 c3 (.tup [V.int 0, .int 1]) = H14 at hbk t13 hsh zc3 ⊢
      refine ⟨c3, 149, _, rfl, rfl, zc3, (fun z => nomatch z), by decide, by decide, by decide, fun c4 hc4 => ?_⟩
      have sN := same_new (o := HO.tup (List.replicate (149 : Int).toNat [V.int 0, .int 1]).flatten) hc4
      have hbk := hbk.same sN
      have t13 := Mq.TabG.same t13 sN
      have hsh := hsh.kp (KpT.same sN)
      have zc4 : SqT K (upd H14 c4 (.tup (List.replicate (149 : Int).toNat [V.int 0, .int 1]).flatten)) c4 (intsV (List.replicate 149 [0, 1]).flatten) := by
        rw [show intsV (List.replicate 149 [0, 1]).flatten = (List.replicate (149 : Int).toNat [V.int 0, .int 1]).flatten from rep_ints 149 [0, 1]]
        exact Or.inl (Or.inl upd_same)
      clear hc4 sN
      generalize upd H14 c4 (.tup (List.replicate (149 : Int).toNat [V.int 0, .int 1]).flatten) = H15 at hbk t13 hsh zc4 ⊢
      refine ⟨sz_le (n := 1) (by decide), fun c5 hc5 => ?_⟩
      have sN := same_new (o := HO.tup [V.int 2]) hc5
      have hbk := hbk.same sN
      have t13 := Mq.TabG.same t13 sN
      have hsh := hsh.kp (KpT.same sN)
      have zc4 := Same.tup sN zc4
      have zc5 : SqT K (upd H15 c5 (.tup [V.int 2])) c5 [V.int 2] := Or.inl (Or.inl upd_same)
      clear hc5 sN
      generalize upd H15 c5 (.tup [V.int 2]) = H16 at hbk t13 hsh zc4 zc5 ⊢
      refine ⟨c4, c5, _, _, rfl, rfl, zc4, zc5, sz_le (by rw [len_rep]; decide), fun c6 H17 sN zc6 => ?_⟩
      have hbk := hbk.same sN
      have t13 := Mq.TabG.same t13 sN
      have hsh := hsh.kp (KpT.same sN)
      have zc6 : SqT K H17 c6 (intsV hand2) := by
        unfold hand2
        rw [intsV_snoc]
        exact zc6
      dsimp only
      refine course_of (l := []) hbk hand_fs hsh t13 (fun _ h => nomatch h) (by decide) zc6 hand_in.2 (by rw [hand_len.2]; decide) fun H18 e18 t18 => ?_
      rw [hand_2]
      have hbk := hbk.exn e18
      have hsh := hsh.kp (KpT.exn e18)
      clear e18 sN zc6 zc4 zc5 t13
      refine ⟨sz_le (n := 2) (by decide), fun l1 hl1 _ => ?_⟩
      have sN := same_new (o := HO.lst [V.str (S []), .str (S [97])]) hl1
      have hbk := hbk.same sN
      have t18 := Mq.TabG.same t18 sN
      have hsh := hsh.kp (KpT.same sN)
      have zl1 : upd H18 l1 (.lst [V.str (S []), .str (S [97])]) l1 = some (.lst [V.str (S []), .str (S [97])]) := upd_same
      clear hl1 sN
      generalize hG : upd H18 l1 (.lst [V.str (S []), .str (S [97])]) = H19 at hbk t18 hsh zl1
      show tRet _ _ _ (upd H18 l1 (.lst [V.str (S []), .str (S [97])]))
      rw [hG]
      clear hG
      refine ⟨_, rfl, _, rfl, _, rfl, sz_le (n := 2) (by decide), fun c7 hc7 => ?_⟩
      have sN := same_new (o := HO.tup [V.int 0, .int 0]) hc7
      have hbk := hbk.same sN
      have t18 := Mq.TabG.same t18 sN
      have hsh := hsh.kp (KpT.same sN)
      have zl1 := sN _ _ zl1
      have zc7 : SqT K (upd H19 c7 (.tup [V.int 0, .int 0])) c7 (intsV [0, 0]) := Or.inl (Or.inl upd_same)
      clear hc7 sN
      generalize upd H19 c7 (.tup [V.int 0, .int 0]) = H20 at hbk t18 hsh zl1 zc7 ⊢
      rw [eTb]
      refine course_of (l := [98]) hbk hand_fs hsh t18 (by unfold From; decide) (by decide) zc7 (by decide) (by decide) fun H21 e21 t21 => ?_
      rw [hand_3]
      have zl1 := e21 _ _ zl1 (fun _ z => nomatch z)
      refine ⟨sz_le (n := 1) (by decide), fun l2 hl2 _ => ⟨l1, l2, _, _, rfl, rfl, same_new hl2 _ _ zl1, upd_same, sz_le (n := 3) (by decide), fun l3 hl3 => ?_⟩⟩
      generalize upd H21 l2 (.lst [optZ none]) = H22 at hl3 ⊢
      have zl3 : upd H22 l3 (.lst ([V.str (S []), .str (S [97])] ++ [optZ none])) l3 = some (.lst [V.str (S []), .str (S [97]), .non]) := upd_same
      generalize upd H22 l3 (.lst ([V.str (S []), .str (S [97])] ++ [optZ none])) = H23 at zl3 ⊢
      rw [eTa]
      refine ⟨sz_le (n := 3) (by decide), fun l4 hl4 _ => ⟨.list [.str (S []), .str (S [97]), .none], .list [.str (S []), .str (S [97]), .none], .lst (SqL.of (same_new hl4 _ _ zl3)) (.cons (.str _) (.cons (.str _) (.cons .non .nil))), .lst (SqL.of upd_same) (.cons (.str _) (.cons (.str _) (.cons .non .nil))), by decide +kernel, by decide +kernel, ?_⟩⟩
      rw [show PyData.eqv (.list [.str (S []), .str (S [97]), .none]) (.list [.str (S []), .str (S [97]), .none]) = true by decide +kernel]
      exact q _
end
end Lw

namespace Mq
open PySem PySem.Spec PyProof.Rows L2
/-! ### facts of the head for own classes with `==`: kinds that they are not, kinds that are not they -/
def fOwnEq (x : Str) : PySem.W.Frag → Bool := fun K => kinds6.all (fun T => decide (PySem.W.subIn K (.ref (He.ga K x)) (.type T) = some false)) &&
  (He.eqO (PySem.W.findIn K (.ref (He.ga K x)) "__ne__") (some (some (.builtin "object.__ne__"))) && (decide (PySem.W.mroIn K (He.ga K x) (.type "object") = some true) &&
  ((PySem.W.clsIn K (He.ga K x)).isSome && decide (PySem.W.typeIn K (.ref (He.ga K x)) = some (.type "type")))))
structure OwnEqK (K : PySem.W.Frag) (C : Addr) : Prop where
  own : OwnEq K C
  kits : ∀ T ∈ kinds6, PySem.W.kitOne K (.type T) (.ref C) = some false
theorem ownEq_of {K : PySem.W.Frag} {x : Str} (h : fOwnEq x K = true) : OwnEqK K (He.ga K x) := by
  obtain ⟨a, h⟩ := Bool.and_eq_true_iff.mp h
  obtain ⟨b, h⟩ := Bool.and_eq_true_iff.mp h
  obtain ⟨c, h⟩ := Bool.and_eq_true_iff.mp h
  obtain ⟨d, e⟩ := Bool.and_eq_true_iff.mp h
  have e := of_decide_eq_true e
  refine ⟨⟨fun T hT => of_decide_eq_true (List.all_eq_true.mp a T hT), He.eqO_ok b, of_decide_eq_true c⟩, fun T hT => ?_⟩
  have s := sub_kind (K := K) (C := He.ga K x) T hT
  unfold PySem.W.kitOne
  rw [if_neg (by simp)]
  show (if ((PySem.W.clsIn K (He.ga K x)).isSome && PySem.W.typeIn K (.ref (He.ga K x)) == some (.type "type")) = true then PySem.W.subIn K (.type T) (.ref (He.ga K x)) else none) = some false
  rw [d, e, s]
  simp
/-! ### calls by keywords turned round, behind self -/
def app2r {α : Type} (a b : List α) : List α := a ++ b.reverse
theorem kbn_1r2 {K : PySem.W.Frag} {x qual : Str} {st : Stmt} {f : Addr} {fd : FuncData} {p1 p2 p3 : Str} (F : Fun K x qual st f fd)
    (h : ∀ (kV doc pm : Value) (an : Option Addr) (cdv ct : Value) (a b c : Value), bindArgs (PySem.W.fnOf x qual (defArgs st) (defBody st) (defScope st) .none kV doc pm an cdv ct) ⟨[a], [(p3, b), (p2, c)]⟩ = pure [(p1, a), (p2, c), (p3, b)]) :
    KBn K fd [p1, p2, p3] 1 [p3, p2] app2r app2r := by
  obtain ⟨oc, od, kV, doc, pm, an, cdv, ct, osl, rfl, lk, hcd⟩ := F.ex
  refine ⟨fun s us ws _ h1 h2 => ?_, fun a b => a.append (vals_rev b)⟩
  match us, ws, h1, h2 with
  | [a], [b, c], _, _ => exact .of_eq (h kV doc pm an cdv ct a b c)
theorem KindV.same {K : PySem.W.Frag} {H H' : Hp} {y : V} {T : String} (h : KindV K H y T) (e : Same H H') : KindV K H' y T := by
  cases h with
  | non => exact .non
  | int i => exact .int i
  | str z => exact .str z
  | lst h => exact .lst (e.seq h)
  | tup h => exact .tup (Same.tup e h)
  | dct h => exact .dct (e _ _ h)
end Mq

namespace Mq
open PySem PySem.Spec PyProof.Rows L2
/-! ### a built-in type that the top imports by name; a call with one keyword -/
def fTyp (x : Str) (v : String) : PySem.W.Frag → Bool := fun K => match PySem.W.nsIn K mainGlobals x with
  | some (some (.type y)) => decide (y = v)
  | _ => false
theorem typ_of {K : PySem.W.Frag} {x : Str} {v : String} (h : fTyp x v K = true) : PySem.W.nsIn K mainGlobals x = some (some (.type v)) := by
  unfold fTyp at h
  split at h
  · rename_i y e
    have := of_decide_eq_true h
    subst this
    exact e
  · cases h
theorem kbn_one {K : PySem.W.Frag} {x qual : Str} {st : Stmt} {f : Addr} {fd : FuncData} {p1 : Str} (F : Fun K x qual st f fd)
    (h : ∀ (kV doc pm : Value) (an : Option Addr) (cdv ct : Value) (a : Value), bindArgs (PySem.W.fnOf x qual (defArgs st) (defBody st) (defScope st) .none kV doc pm an cdv ct) ⟨[], [(p1, a)]⟩ = pure [(p1, a)]) :
    KBn K fd [p1] 0 [p1] rev0 rev0 := by
  obtain ⟨oc, od, kV, doc, pm, an, cdv, ct, osl, rfl, lk, hcd⟩ := F.ex
  refine ⟨fun s us ws _ h1 h2 => ?_, fun a b => vals_rev b⟩
  match us, ws, h1, h2 with
  | [], [a], _, _ => exact .of_eq (h kV doc pm an cdv ct a)
end Mq

namespace Mq
open PySem PySem.Spec PyProof.Rows L2
/-! ### four keywords, turned round -/
theorem kbn_rev4 {K : PySem.W.Frag} {x qual : Str} {st : Stmt} {f : Addr} {fd : FuncData} {p1 p2 p3 p4 : Str} (F : Fun K x qual st f fd)
    (h : ∀ (kV doc pm : Value) (an : Option Addr) (cdv ct : Value) (a b c d : Value), bindArgs (PySem.W.fnOf x qual (defArgs st) (defBody st) (defScope st) .none kV doc pm an cdv ct) ⟨[], [(p4, a), (p3, b), (p2, c), (p1, d)]⟩ = pure [(p1, d), (p2, c), (p3, b), (p4, a)]) :
    KBn K fd [p1, p2, p3, p4] 0 [p4, p3, p2, p1] rev0 rev0 := by
  obtain ⟨oc, od, kV, doc, pm, an, cdv, ct, osl, rfl, lk, hcd⟩ := F.ex
  refine ⟨fun s us ws _ h1 h2 => ?_, fun a b => vals_rev b⟩
  match us, ws, h1, h2 with
  | [], [a, b, c, d], _, _ => exact .of_eq (h kV doc pm an cdv ct a b c d)
end Mq

namespace Lw
open PySem PySem.Spec PyProof.Rows L2 Mq
open SX (S)
theorem all_mk {P : Program} {w : World} {K : PySem.W.Frag} {h : Heap} {mg : Str → Option Value} {fa CM : Addr} (X : K.In h) (G : h.Ns mainGlobals mg) (hfa : mg "law" = some (.ref fa))
    (aM : PySem.W.nsIn K mainGlobals "MillError" = some (some (.ref CM)))
    (mill : PySem.W.isClsIn K CM = true ∧ PySem.W.typeIn K (.ref CM) = some (.type "type"))
    (sp : PySem.W.specialIn K (.builtin "object.__class__") "__get__" = some (some (.builtin "getset_descriptor.__get__")))
    (tk : PySem.W.takesIn K (.builtin "object.__class__") = some true)
    {CB : Addr}
    (aB : PySem.W.nsIn K mainGlobals "Book" = some (some (.ref CB)))
    (owB : PySem.W.plainGet K CB Str.empty = true ∧ PySem.W.hasDictIn K CB = true ∧ PySem.W.plainOver K CB = true ∧ PySem.W.makesIn K CB = true ∧ PySem.W.keepIn K (.ref CB) = true)
    (saB : PySem.W.findIn K (.ref CB) "__setattr__" = some (some (.builtin "object.__setattr__")))
    (caB : PySem.W.findIn K (.ref CB) "__class__" = some (some (.builtin "object.__class__")))
    (moB : PySem.W.mroIn K CB (.type "object") = some true)
    (kiB : PySem.W.kitOne K (.ref CB) (.ref CB) = some true)
    (nB_letters : PySem.W.findIn K (.ref CB) "letters" = some none)
    (nB_folds : PySem.W.findIn K (.ref CB) "folds" = some none)
    (nB_table : PySem.W.findIn K (.ref CB) "table" = some none)
    {finit : Addr} {odinit aninit : Option Addr} {slinit : Array (Option Value)} {ocinit kVinit dcinit pminit cdinit ctinit : Value}
    (minit : PySem.W.findIn K (.ref CB) "__init__" = some (some (.ref finit)) ∧ PySem.W.isFn K (.ref finit) = true)
    (linit : K.lookup finit = some ⟨ocinit, odinit, .func (PySem.W.fnOf "__init__" "Book.__init__" (defArgs s_Book___init__) (defBody s_Book___init__) (defScope s_Book___init__) .none kVinit dcinit pminit aninit cdinit ctinit), slinit⟩)
    (cinit : PySem.W.codeIn K cdinit "Book.__init__" = true)
    {fleft : Addr} {odleft anleft : Option Addr} {slleft : Array (Option Value)} {ocleft kVleft dcleft pmleft cdleft ctleft : Value}
    (mleft : PySem.W.findIn K (.ref CB) "left_of" = some (some (.ref fleft)) ∧ PySem.W.isFn K (.ref fleft) = true)
    (lleft : K.lookup fleft = some ⟨ocleft, odleft, .func (PySem.W.fnOf "left_of" "Book.left_of" (defArgs s_Book_left_of) (defBody s_Book_left_of) (defScope s_Book_left_of) .none kVleft dcleft pmleft anleft cdleft ctleft), slleft⟩)
    (cleft : PySem.W.codeIn K cdleft "Book.left_of" = true)
    {CW FW : Addr}
    (aW : PySem.W.nsIn K mainGlobals "BadWeb" = some (some (.ref CW)))
    (xW : ClsAt K CM CW)
    (gaW : PySem.W.findIn K (.ref CW) "__getattribute__" = some (some (.builtin "BaseException.__getattribute__")))
    (ggW : PySem.W.findIn K (.ref CW) "__getattr__" = some none)
    (caW : PySem.W.findIn K (.ref CW) "__class__" = some (some (.builtin "object.__class__")))
    (wsW : PySem.W.findIn K (.ref CW) "__setattr__" = some (some (.builtin "object.__setattr__")))
    (ntW : PySem.W.findIn K (.ref CW) "thing" = some none)
    (wiW : PySem.W.findIn K (.ref CW) "__init__" = some (some (.ref FW)))
    {odEW anEW : Option Addr} {slEW : Array (Option Value)} {dcEW pmEW cdEW ctEW : Value}
    (lEW : K.lookup FW = some ⟨.type "function", odEW, .func (PySem.W.fnOf "__init__" "BadWeb.__init__" (MqE_thing.iA ⟨14, 17, 14, 21⟩ ⟨14, 23, 14, 28⟩) (MqE_thing.iB ⟨15, 8, 15, 12⟩ ⟨15, 8, 15, 18⟩ ⟨15, 21, 15, 26⟩ ⟨15, 8, 15, 26⟩) MqE_thing.iS .none .none dcEW pmEW anEW cdEW ctEW), slEW⟩)
    (cEW : PySem.W.codeIn K cdEW "BadWeb.__init__" = true)
    {CP FP : Addr}
    (aP : PySem.W.nsIn K mainGlobals "BadCourse" = some (some (.ref CP)))
    (xP : ClsAt K CM CP)
    (gaP : PySem.W.findIn K (.ref CP) "__getattribute__" = some (some (.builtin "BaseException.__getattribute__")))
    (ggP : PySem.W.findIn K (.ref CP) "__getattr__" = some none)
    (caP : PySem.W.findIn K (.ref CP) "__class__" = some (some (.builtin "object.__class__")))
    (wsP : PySem.W.findIn K (.ref CP) "__setattr__" = some (some (.builtin "object.__setattr__")))
    (ntP : PySem.W.findIn K (.ref CP) "place" = some none)
    (wiP : PySem.W.findIn K (.ref CP) "__init__" = some (some (.ref FP)))
    {odEP anEP : Option Addr} {slEP : Array (Option Value)} {dcEP pmEP cdEP ctEP : Value}
    (lEP : K.lookup FP = some ⟨.type "function", odEP, .func (PySem.W.fnOf "__init__" "BadCourse.__init__" (MqE_place.iA ⟨18, 17, 18, 21⟩ ⟨18, 23, 18, 28⟩) (MqE_place.iB ⟨19, 8, 19, 12⟩ ⟨19, 8, 19, 18⟩ ⟨19, 21, 19, 26⟩ ⟨19, 8, 19, 26⟩) MqE_place.iS .none .none dcEP pmEP anEP cdEP ctEP), slEP⟩)
    (cEP : PySem.W.codeIn K cdEP "BadCourse.__init__" = true)
    (noPW : PySem.W.exmOne K (.ref CP) (.ref CW) = some false)
    {f0 : Addr} {od0 an0 : Option Addr} {sl0 : Array (Option Value)} {oc0 kV0 dc0 pm0 cd0 ct0 : Value}
    (a0 : PySem.W.nsIn K mainGlobals "is_letters" = some (some (.ref f0)))
    (l0 : K.lookup f0 = some ⟨oc0, od0, .func (PySem.W.fnOf "is_letters" "is_letters" (defArgs s_is_letters) (defBody s_is_letters) (defScope s_is_letters) .none kV0 dc0 pm0 an0 cd0 ct0), sl0⟩)
    (c0 : PySem.W.codeIn K cd0 "is_letters" = true)
    {f1 : Addr} {od1 an1 : Option Addr} {sl1 : Array (Option Value)} {oc1 kV1 dc1 pm1 cd1 ct1 : Value}
    (a1 : PySem.W.nsIn K mainGlobals "is_letter" = some (some (.ref f1)))
    (l1 : K.lookup f1 = some ⟨oc1, od1, .func (PySem.W.fnOf "is_letter" "is_letter" (defArgs s_is_letter) (defBody s_is_letter) (defScope s_is_letter) .none kV1 dc1 pm1 an1 cd1 ct1), sl1⟩)
    (c1 : PySem.W.codeIn K cd1 "is_letter" = true)
    {f2 : Addr} {od2 an2 : Option Addr} {sl2 : Array (Option Value)} {oc2 kV2 dc2 pm2 cd2 ct2 : Value}
    (a2 : PySem.W.nsIn K mainGlobals "is_word" = some (some (.ref f2)))
    (l2 : K.lookup f2 = some ⟨oc2, od2, .func (PySem.W.fnOf "is_word" "is_word" (defArgs s_is_word) (defBody s_is_word) (defScope s_is_word) .none kV2 dc2 pm2 an2 cd2 ct2), sl2⟩)
    (c2 : PySem.W.codeIn K cd2 "is_word" = true)
    {f3 : Addr} {od3 an3 : Option Addr} {sl3 : Array (Option Value)} {oc3 kV3 dc3 pm3 cd3 ct3 : Value}
    (a3 : PySem.W.nsIn K mainGlobals "is_number" = some (some (.ref f3)))
    (l3 : K.lookup f3 = some ⟨oc3, od3, .func (PySem.W.fnOf "is_number" "is_number" (defArgs s_is_number) (defBody s_is_number) (defScope s_is_number) .none kV3 dc3 pm3 an3 cd3 ct3), sl3⟩)
    (c3 : PySem.W.codeIn K cd3 "is_number" = true)
    {f4 : Addr} {od4 an4 : Option Addr} {sl4 : Array (Option Value)} {oc4 kV4 dc4 pm4 cd4 ct4 : Value}
    (a4 : PySem.W.nsIn K mainGlobals "is_below" = some (some (.ref f4)))
    (l4 : K.lookup f4 = some ⟨oc4, od4, .func (PySem.W.fnOf "is_below" "is_below" (defArgs s_is_below) (defBody s_is_below) (defScope s_is_below) .none kV4 dc4 pm4 an4 cd4 ct4), sl4⟩)
    (c4 : PySem.W.codeIn K cd4 "is_below" = true)
    {f5 : Addr} {od5 an5 : Option Addr} {sl5 : Array (Option Value)} {oc5 kV5 dc5 pm5 cd5 ct5 : Value}
    (a5 : PySem.W.nsIn K mainGlobals "is_ascending" = some (some (.ref f5)))
    (l5 : K.lookup f5 = some ⟨oc5, od5, .func (PySem.W.fnOf "is_ascending" "is_ascending" (defArgs s_is_ascending) (defBody s_is_ascending) (defScope s_is_ascending) .none kV5 dc5 pm5 an5 cd5 ct5), sl5⟩)
    (c5 : PySem.W.codeIn K cd5 "is_ascending" = true)
    {f6 : Addr} {od6 an6 : Option Addr} {sl6 : Array (Option Value)} {oc6 kV6 dc6 pm6 cd6 ct6 : Value}
    (a6 : PySem.W.nsIn K mainGlobals "is_fold" = some (some (.ref f6)))
    (l6 : K.lookup f6 = some ⟨oc6, od6, .func (PySem.W.fnOf "is_fold" "is_fold" (defArgs s_is_fold) (defBody s_is_fold) (defScope s_is_fold) .none kV6 dc6 pm6 an6 cd6 ct6), sl6⟩)
    (c6 : PySem.W.codeIn K cd6 "is_fold" = true)
    {f7 : Addr} {od7 an7 : Option Addr} {sl7 : Array (Option Value)} {oc7 kV7 dc7 pm7 cd7 ct7 : Value}
    (a7 : PySem.W.nsIn K mainGlobals "is_web" = some (some (.ref f7)))
    (l7 : K.lookup f7 = some ⟨oc7, od7, .func (PySem.W.fnOf "is_web" "is_web" (defArgs s_is_web) (defBody s_is_web) (defScope s_is_web) .none kV7 dc7 pm7 an7 cd7 ct7), sl7⟩)
    (c7 : PySem.W.codeIn K cd7 "is_web" = true)
    {f8 : Addr} {od8 an8 : Option Addr} {sl8 : Array (Option Value)} {oc8 kV8 dc8 pm8 cd8 ct8 : Value}
    (a8 : PySem.W.nsIn K mainGlobals "check_web" = some (some (.ref f8)))
    (l8 : K.lookup f8 = some ⟨oc8, od8, .func (PySem.W.fnOf "check_web" "check_web" (defArgs s_check_web) (defBody s_check_web) (defScope s_check_web) .none kV8 dc8 pm8 an8 cd8 ct8), sl8⟩)
    (c8 : PySem.W.codeIn K cd8 "check_web" = true)
    {f9 : Addr} {od9 an9 : Option Addr} {sl9 : Array (Option Value)} {oc9 kV9 dc9 pm9 cd9 ct9 : Value}
    (a9 : PySem.W.nsIn K mainGlobals "laid_behind" = some (some (.ref f9)))
    (l9 : K.lookup f9 = some ⟨oc9, od9, .func (PySem.W.fnOf "laid_behind" "laid_behind" (defArgs s_laid_behind) (defBody s_laid_behind) (defScope s_laid_behind) .none kV9 dc9 pm9 an9 cd9 ct9), sl9⟩)
    (c9 : PySem.W.codeIn K cd9 "laid_behind" = true)
    {f10 : Addr} {od10 an10 : Option Addr} {sl10 : Array (Option Value)} {oc10 kV10 dc10 pm10 cd10 ct10 : Value}
    (a10 : PySem.W.nsIn K mainGlobals "is_item" = some (some (.ref f10)))
    (l10 : K.lookup f10 = some ⟨oc10, od10, .func (PySem.W.fnOf "is_item" "is_item" (defArgs s_is_item) (defBody s_is_item) (defScope s_is_item) .none kV10 dc10 pm10 an10 cd10 ct10), sl10⟩)
    (c10 : PySem.W.codeIn K cd10 "is_item" = true)
    {f11 : Addr} {od11 an11 : Option Addr} {sl11 : Array (Option Value)} {oc11 kV11 dc11 pm11 cd11 ct11 : Value}
    (a11 : PySem.W.nsIn K mainGlobals "is_weft" = some (some (.ref f11)))
    (l11 : K.lookup f11 = some ⟨oc11, od11, .func (PySem.W.fnOf "is_weft" "is_weft" (defArgs s_is_weft) (defBody s_is_weft) (defScope s_is_weft) .none kV11 dc11 pm11 an11 cd11 ct11), sl11⟩)
    (c11 : PySem.W.codeIn K cd11 "is_weft" = true)
    {f12 : Addr} {od12 an12 : Option Addr} {sl12 : Array (Option Value)} {oc12 kV12 dc12 pm12 cd12 ct12 : Value}
    (a12 : PySem.W.nsIn K mainGlobals "does_see" = some (some (.ref f12)))
    (l12 : K.lookup f12 = some ⟨oc12, od12, .func (PySem.W.fnOf "does_see" "does_see" (defArgs s_does_see) (defBody s_does_see) (defScope s_does_see) .none kV12 dc12 pm12 an12 cd12 ct12), sl12⟩)
    (c12 : PySem.W.codeIn K cd12 "does_see" = true)
    {f13 : Addr} {od13 an13 : Option Addr} {sl13 : Array (Option Value)} {oc13 kV13 dc13 pm13 cd13 ct13 : Value}
    (a13 : PySem.W.nsIn K mainGlobals "run_on" = some (some (.ref f13)))
    (l13 : K.lookup f13 = some ⟨oc13, od13, .func (PySem.W.fnOf "run_on" "run_on" (defArgs s_run_on) (defBody s_run_on) (defScope s_run_on) .none kV13 dc13 pm13 an13 cd13 ct13), sl13⟩)
    (c13 : PySem.W.codeIn K cd13 "run_on" = true)
    {f14 : Addr} {od14 an14 : Option Addr} {sl14 : Array (Option Value)} {oc14 kV14 dc14 pm14 cd14 ct14 : Value}
    (a14 : PySem.W.nsIn K mainGlobals "is_shelf" = some (some (.ref f14)))
    (l14 : K.lookup f14 = some ⟨oc14, od14, .func (PySem.W.fnOf "is_shelf" "is_shelf" (defArgs s_is_shelf) (defBody s_is_shelf) (defScope s_is_shelf) .none kV14 dc14 pm14 an14 cd14 ct14), sl14⟩)
    (c14 : PySem.W.codeIn K cd14 "is_shelf" = true)
    {f15 : Addr} {od15 an15 : Option Addr} {sl15 : Array (Option Value)} {oc15 kV15 dc15 pm15 cd15 ct15 : Value}
    (a15 : PySem.W.nsIn K mainGlobals "wrong_place" = some (some (.ref f15)))
    (l15 : K.lookup f15 = some ⟨oc15, od15, .func (PySem.W.fnOf "wrong_place" "wrong_place" (defArgs s_wrong_place) (defBody s_wrong_place) (defScope s_wrong_place) .none kV15 dc15 pm15 an15 cd15 ct15), sl15⟩)
    (c15 : PySem.W.codeIn K cd15 "wrong_place" = true)
    {f16 : Addr} {od16 an16 : Option Addr} {sl16 : Array (Option Value)} {oc16 kV16 dc16 pm16 cd16 ct16 : Value}
    (a16 : PySem.W.nsIn K mainGlobals "led_by" = some (some (.ref f16)))
    (l16 : K.lookup f16 = some ⟨oc16, od16, .func (PySem.W.fnOf "led_by" "led_by" (defArgs s_led_by) (defBody s_led_by) (defScope s_led_by) .none kV16 dc16 pm16 an16 cd16 ct16), sl16⟩)
    (c16 : PySem.W.codeIn K cd16 "led_by" = true)
    {f17 : Addr} {od17 an17 : Option Addr} {sl17 : Array (Option Value)} {oc17 kV17 dc17 pm17 cd17 ct17 : Value}
    (a17 : PySem.W.nsIn K mainGlobals "course_led" = some (some (.ref f17)))
    (l17 : K.lookup f17 = some ⟨oc17, od17, .func (PySem.W.fnOf "course_led" "course_led" (defArgs s_course_led) (defBody s_course_led) (defScope s_course_led) .none kV17 dc17 pm17 an17 cd17 ct17), sl17⟩)
    (c17 : PySem.W.codeIn K cd17 "course_led" = true)
    {f18 : Addr} {od18 an18 : Option Addr} {sl18 : Array (Option Value)} {oc18 kV18 dc18 pm18 cd18 ct18 : Value}
    (a18 : PySem.W.nsIn K mainGlobals "_law_deck" = some (some (.ref f18)))
    (l18 : K.lookup f18 = some ⟨oc18, od18, .func (PySem.W.fnOf "_law_deck" "_law_deck" (defArgs s__law_deck) (defBody s__law_deck) (defScope s__law_deck) .none kV18 dc18 pm18 an18 cd18 ct18), sl18⟩)
    (c18 : PySem.W.codeIn K cd18 "_law_deck" = true)
    {f19 : Addr} {od19 an19 : Option Addr} {sl19 : Array (Option Value)} {oc19 kV19 dc19 pm19 cd19 ct19 : Value}
    (a19 : PySem.W.nsIn K mainGlobals "_law_draw" = some (some (.ref f19)))
    (l19 : K.lookup f19 = some ⟨oc19, od19, .func (PySem.W.fnOf "_law_draw" "_law_draw" (defArgs s__law_draw) (defBody s__law_draw) (defScope s__law_draw) .none kV19 dc19 pm19 an19 cd19 ct19), sl19⟩)
    (c19 : PySem.W.codeIn K cd19 "_law_draw" = true)
    {f20 : Addr} {od20 an20 : Option Addr} {sl20 : Array (Option Value)} {oc20 kV20 dc20 pm20 cd20 ct20 : Value}
    (a20 : PySem.W.nsIn K mainGlobals "_law_pick" = some (some (.ref f20)))
    (l20 : K.lookup f20 = some ⟨oc20, od20, .func (PySem.W.fnOf "_law_pick" "_law_pick" (defArgs s__law_pick) (defBody s__law_pick) (defScope s__law_pick) .none kV20 dc20 pm20 an20 cd20 ct20), sl20⟩)
    (c20 : PySem.W.codeIn K cd20 "_law_pick" = true)
    {f21 : Addr} {od21 an21 : Option Addr} {sl21 : Array (Option Value)} {oc21 kV21 dc21 pm21 cd21 ct21 : Value}
    (a21 : PySem.W.nsIn K mainGlobals "_law_book" = some (some (.ref f21)))
    (l21 : K.lookup f21 = some ⟨oc21, od21, .func (PySem.W.fnOf "_law_book" "_law_book" (defArgs s__law_book) (defBody s__law_book) (defScope s__law_book) .none kV21 dc21 pm21 an21 cd21 ct21), sl21⟩)
    (c21 : PySem.W.codeIn K cd21 "_law_book" = true)
    {f22 : Addr} {od22 an22 : Option Addr} {sl22 : Array (Option Value)} {oc22 kV22 dc22 pm22 cd22 ct22 : Value}
    (a22 : PySem.W.nsIn K mainGlobals "_law_code" = some (some (.ref f22)))
    (l22 : K.lookup f22 = some ⟨oc22, od22, .func (PySem.W.fnOf "_law_code" "_law_code" (defArgs s__law_code) (defBody s__law_code) (defScope s__law_code) .none kV22 dc22 pm22 an22 cd22 ct22), sl22⟩)
    (c22 : PySem.W.codeIn K cd22 "_law_code" = true)
    {f23 : Addr} {od23 an23 : Option Addr} {sl23 : Array (Option Value)} {oc23 kV23 dc23 pm23 cd23 ct23 : Value}
    (a23 : PySem.W.nsIn K mainGlobals "_law_laid" = some (some (.ref f23)))
    (l23 : K.lookup f23 = some ⟨oc23, od23, .func (PySem.W.fnOf "_law_laid" "_law_laid" (defArgs s__law_laid) (defBody s__law_laid) (defScope s__law_laid) .none kV23 dc23 pm23 an23 cd23 ct23), sl23⟩)
    (c23 : PySem.W.codeIn K cd23 "_law_laid" = true)
    {f24 : Addr} {od24 an24 : Option Addr} {sl24 : Array (Option Value)} {oc24 kV24 dc24 pm24 cd24 ct24 : Value}
    (a24 : PySem.W.nsIn K mainGlobals "_law_led" = some (some (.ref f24)))
    (l24 : K.lookup f24 = some ⟨oc24, od24, .func (PySem.W.fnOf "_law_led" "_law_led" (defArgs s__law_led) (defBody s__law_led) (defScope s__law_led) .none kV24 dc24 pm24 an24 cd24 ct24), sl24⟩)
    (c24 : PySem.W.codeIn K cd24 "_law_led" = true)
    {f25 : Addr} {od25 an25 : Option Addr} {sl25 : Array (Option Value)} {oc25 kV25 dc25 pm25 cd25 ct25 : Value}
    (a25 : PySem.W.nsIn K mainGlobals "_law_weft" = some (some (.ref f25)))
    (l25 : K.lookup f25 = some ⟨oc25, od25, .func (PySem.W.fnOf "_law_weft" "_law_weft" (defArgs s__law_weft) (defBody s__law_weft) (defScope s__law_weft) .none kV25 dc25 pm25 an25 cd25 ct25), sl25⟩)
    (c25 : PySem.W.codeIn K cd25 "_law_weft" = true)
    {f26 : Addr} {od26 an26 : Option Addr} {sl26 : Array (Option Value)} {oc26 kV26 dc26 pm26 cd26 ct26 : Value}
    (a26 : PySem.W.nsIn K mainGlobals "_law_shelf" = some (some (.ref f26)))
    (l26 : K.lookup f26 = some ⟨oc26, od26, .func (PySem.W.fnOf "_law_shelf" "_law_shelf" (defArgs s__law_shelf) (defBody s__law_shelf) (defScope s__law_shelf) .none kV26 dc26 pm26 an26 cd26 ct26), sl26⟩)
    (c26 : PySem.W.codeIn K cd26 "_law_shelf" = true)
    {f27 : Addr} {od27 an27 : Option Addr} {sl27 : Array (Option Value)} {oc27 kV27 dc27 pm27 cd27 ct27 : Value}
    (a27 : PySem.W.nsIn K mainGlobals "_law_course" = some (some (.ref f27)))
    (l27 : K.lookup f27 = some ⟨oc27, od27, .func (PySem.W.fnOf "_law_course" "_law_course" (defArgs s__law_course) (defBody s__law_course) (defScope s__law_course) .none kV27 dc27 pm27 an27 cd27 ct27), sl27⟩)
    (c27 : PySem.W.codeIn K cd27 "_law_course" = true)
    {f28 : Addr} {od28 an28 : Option Addr} {sl28 : Array (Option Value)} {oc28 kV28 dc28 pm28 cd28 ct28 : Value}
    (a28 : PySem.W.nsIn K mainGlobals "_law_walk" = some (some (.ref f28)))
    (l28 : K.lookup f28 = some ⟨oc28, od28, .func (PySem.W.fnOf "_law_walk" "_law_walk" (defArgs s__law_walk) (defBody s__law_walk) (defScope s__law_walk) .none kV28 dc28 pm28 an28 cd28 ct28), sl28⟩)
    (c28 : PySem.W.codeIn K cd28 "_law_walk" = true)
    {f29 : Addr} {od29 an29 : Option Addr} {sl29 : Array (Option Value)} {oc29 kV29 dc29 pm29 cd29 ct29 : Value}
    (a29 : PySem.W.nsIn K mainGlobals "_law_odd" = some (some (.ref f29)))
    (l29 : K.lookup f29 = some ⟨oc29, od29, .func (PySem.W.fnOf "_law_odd" "_law_odd" (defArgs s__law_odd) (defBody s__law_odd) (defScope s__law_odd) .none kV29 dc29 pm29 an29 cd29 ct29), sl29⟩)
    (c29 : PySem.W.codeIn K cd29 "_law_odd" = true)
    {f30 : Addr} {od30 an30 : Option Addr} {sl30 : Array (Option Value)} {oc30 kV30 dc30 pm30 cd30 ct30 : Value}
    (a30 : PySem.W.nsIn K mainGlobals "_law_spoilt" = some (some (.ref f30)))
    (l30 : K.lookup f30 = some ⟨oc30, od30, .func (PySem.W.fnOf "_law_spoilt" "_law_spoilt" (defArgs s__law_spoilt) (defBody s__law_spoilt) (defScope s__law_spoilt) .none kV30 dc30 pm30 an30 cd30 ct30), sl30⟩)
    (c30 : PySem.W.codeIn K cd30 "_law_spoilt" = true)
    {f31 : Addr} {od31 an31 : Option Addr} {sl31 : Array (Option Value)} {oc31 kV31 dc31 pm31 cd31 ct31 : Value}
    (a31 : PySem.W.nsIn K mainGlobals "_law_is_weft" = some (some (.ref f31)))
    (l31 : K.lookup f31 = some ⟨oc31, od31, .func (PySem.W.fnOf "_law_is_weft" "_law_is_weft" (defArgs s__law_is_weft) (defBody s__law_is_weft) (defScope s__law_is_weft) .none kV31 dc31 pm31 an31 cd31 ct31), sl31⟩)
    (c31 : PySem.W.codeIn K cd31 "_law_is_weft" = true)
    {f32 : Addr} {od32 an32 : Option Addr} {sl32 : Array (Option Value)} {oc32 kV32 dc32 pm32 cd32 ct32 : Value}
    (a32 : PySem.W.nsIn K mainGlobals "_law_is_shelf" = some (some (.ref f32)))
    (l32 : K.lookup f32 = some ⟨oc32, od32, .func (PySem.W.fnOf "_law_is_shelf" "_law_is_shelf" (defArgs s__law_is_shelf) (defBody s__law_is_shelf) (defScope s__law_is_shelf) .none kV32 dc32 pm32 an32 cd32 ct32), sl32⟩)
    (c32 : PySem.W.codeIn K cd32 "_law_is_shelf" = true)
    {f33 : Addr} {od33 an33 : Option Addr} {sl33 : Array (Option Value)} {oc33 kV33 dc33 pm33 cd33 ct33 : Value}
    (a33 : PySem.W.nsIn K mainGlobals "_law_fault" = some (some (.ref f33)))
    (l33 : K.lookup f33 = some ⟨oc33, od33, .func (PySem.W.fnOf "_law_fault" "_law_fault" (defArgs s__law_fault) (defBody s__law_fault) (defScope s__law_fault) .none kV33 dc33 pm33 an33 cd33 ct33), sl33⟩)
    (c33 : PySem.W.codeIn K cd33 "_law_fault" = true)
    {f34 : Addr} {od34 an34 : Option Addr} {sl34 : Array (Option Value)} {oc34 kV34 dc34 pm34 cd34 ct34 : Value}
    (a34 : PySem.W.nsIn K mainGlobals "_law_heard" = some (some (.ref f34)))
    (l34 : K.lookup f34 = some ⟨oc34, od34, .func (PySem.W.fnOf "_law_heard" "_law_heard" (defArgs s__law_heard) (defBody s__law_heard) (defScope s__law_heard) .none kV34 dc34 pm34 an34 cd34 ct34), sl34⟩)
    (c34 : PySem.W.codeIn K cd34 "_law_heard" = true)
    {f35 : Addr} {od35 an35 : Option Addr} {sl35 : Array (Option Value)} {oc35 kV35 dc35 pm35 cd35 ct35 : Value}
    (a35 : PySem.W.nsIn K mainGlobals "_law_led_right" = some (some (.ref f35)))
    (l35 : K.lookup f35 = some ⟨oc35, od35, .func (PySem.W.fnOf "_law_led_right" "_law_led_right" (defArgs s__law_led_right) (defBody s__law_led_right) (defScope s__law_led_right) .none kV35 dc35 pm35 an35 cd35 ct35), sl35⟩)
    (c35 : PySem.W.codeIn K cd35 "_law_led_right" = true)
    {f36 : Addr} {od36 an36 : Option Addr} {sl36 : Array (Option Value)} {oc36 kV36 dc36 pm36 cd36 ct36 : Value}
    (a36 : PySem.W.nsIn K mainGlobals "_law_shelves_right" = some (some (.ref f36)))
    (l36 : K.lookup f36 = some ⟨oc36, od36, .func (PySem.W.fnOf "_law_shelves_right" "_law_shelves_right" (defArgs s__law_shelves_right) (defBody s__law_shelves_right) (defScope s__law_shelves_right) .none kV36 dc36 pm36 an36 cd36 ct36), sl36⟩)
    (c36 : PySem.W.codeIn K cd36 "_law_shelves_right" = true)
    {f37 : Addr} {od37 an37 : Option Addr} {sl37 : Array (Option Value)} {oc37 kV37 dc37 pm37 cd37 ct37 : Value}
    (a37 : PySem.W.nsIn K mainGlobals "law" = some (some (.ref f37)))
    (l37 : K.lookup f37 = some ⟨oc37, od37, .func (PySem.W.fnOf "law" "law" (defArgs s_law) (defBody s_law) (defScope s_law) .none kV37 dc37 pm37 an37 cd37 ct37), sl37⟩)
    (c37 : PySem.W.codeIn K cd37 "law" = true)
    (b_len : PySem.W.nsIn K mainGlobals "len" = some none)
    (b_range : PySem.W.nsIn K mainGlobals "range" = some none)
    (b_isinstance : PySem.W.nsIn K mainGlobals "isinstance" = some none)
    (b_all : PySem.W.nsIn K mainGlobals "all" = some none)
    (b_any : PySem.W.nsIn K mainGlobals "any" = some none)
    (b_int : PySem.W.nsIn K mainGlobals "int" = some none)
    (b_str : PySem.W.nsIn K mainGlobals "str" = some none)
    (b_bool : PySem.W.nsIn K mainGlobals "bool" = some none)
    (b_tuple : PySem.W.nsIn K mainGlobals "tuple" = some none)
    (b_list : PySem.W.nsIn K mainGlobals "list" = some none)
    (b_repr : PySem.W.nsIn K mainGlobals "repr" = some none)
    (b_enumerate : PySem.W.nsIn K mainGlobals "enumerate" = some none)
    (b_sorted : PySem.W.nsIn K mainGlobals "sorted" = some none)
    (b_max : PySem.W.nsIn K mainGlobals "max" = some none)
    (b_next : PySem.W.nsIn K mainGlobals "next" = some none)
    (t_ALPHABET : ∃ t, PySem.W.nsIn K mainGlobals "ALPHABET" = some (some (.str "abcdefghijklmnopqrstuvwxyz" t)))
    {cT0 PT0 : Addr} (hcT : cd15 = .ref cT0) :
    ∃ fd : FuncData, (∀ (s : Shared) (u : Value), BindsTo s fd ⟨[u], []⟩ [("_law_script", u)]) ∧ ∀ base : Heap, K.In base → base.Ns mainGlobals mg → GxR.TabB base mg cT0 PT0 → FnG P w K mg base CX0 14 fa fd ["_law_script"] (spLaw K PT0) := by
  have e := hfa.symm.trans (PySem.W.mg_of X G a37)
  cases e
  have B : Blt mg := ⟨PySem.W.mg_none_of X G b_len, PySem.W.mg_none_of X G b_range, PySem.W.mg_none_of X G b_isinstance, PySem.W.mg_none_of X G b_all, PySem.W.mg_none_of X G b_any, PySem.W.mg_none_of X G b_int, PySem.W.mg_none_of X G b_str, PySem.W.mg_none_of X G b_bool, PySem.W.mg_none_of X G b_tuple, PySem.W.mg_none_of X G b_list, PySem.W.mg_none_of X G b_repr, PySem.W.mg_none_of X G b_enumerate⟩
  have n_sorted : mg "sorted" = none := PySem.W.mg_none_of X G b_sorted
  have n_max : mg "max" = none := PySem.W.mg_none_of X G b_max
  have n_next : mg "next" = none := PySem.W.mg_none_of X G b_next
  have U0 := fun_mk (st := s_is_letters) l0 c0 (keep_fn l0)
  have g0 := PySem.W.mg_of X G a0
  have b0 := U0.binds (ps := ["thing"]) fun _ _ _ _ _ _ us hl => match us, hl with | [_], _ => rfl
  have U1 := fun_mk (st := s_is_letter) l1 c1 (keep_fn l1)
  have g1 := PySem.W.mg_of X G a1
  have b1 := U1.binds (ps := ["letters", "thing"]) fun _ _ _ _ _ _ us hl => match us, hl with | [_, _], _ => rfl
  have U2 := fun_mk (st := s_is_word) l2 c2 (keep_fn l2)
  have g2 := PySem.W.mg_of X G a2
  have b2 := U2.binds (ps := ["letters", "thing"]) fun _ _ _ _ _ _ us hl => match us, hl with | [_, _], _ => rfl
  have U3 := fun_mk (st := s_is_number) l3 c3 (keep_fn l3)
  have g3 := PySem.W.mg_of X G a3
  have b3 := U3.binds (ps := ["thing"]) fun _ _ _ _ _ _ us hl => match us, hl with | [_], _ => rfl
  have U4 := fun_mk (st := s_is_below) l4 c4 (keep_fn l4)
  have g4 := PySem.W.mg_of X G a4
  have b4 := U4.binds (ps := ["thing", "many"]) fun _ _ _ _ _ _ us hl => match us, hl with | [_, _], _ => rfl
  have U5 := fun_mk (st := s_is_ascending) l5 c5 (keep_fn l5)
  have g5 := PySem.W.mg_of X G a5
  have b5 := U5.binds (ps := ["parts"]) fun _ _ _ _ _ _ us hl => match us, hl with | [_], _ => rfl
  have U6 := fun_mk (st := s_is_fold) l6 c6 (keep_fn l6)
  have g6 := PySem.W.mg_of X G a6
  have b6 := U6.binds (ps := ["letters", "thing"]) fun _ _ _ _ _ _ us hl => match us, hl with | [_, _], _ => rfl
  have U7 := fun_mk (st := s_is_web) l7 c7 (keep_fn l7)
  have g7 := PySem.W.mg_of X G a7
  have b7 := U7.binds (ps := ["letters", "thing"]) fun _ _ _ _ _ _ us hl => match us, hl with | [_, _], _ => rfl
  have U8 := fun_mk (st := s_check_web) l8 c8 (keep_fn l8)
  have g8 := PySem.W.mg_of X G a8
  have b8 := U8.binds (ps := ["letters", "thing"]) fun _ _ _ _ _ _ us hl => match us, hl with | [_, _], _ => rfl
  have U9 := fun_mk (st := s_laid_behind) l9 c9 (keep_fn l9)
  have g9 := PySem.W.mg_of X G a9
  have b9 := U9.binds (ps := ["book", "web", "letter"]) fun _ _ _ _ _ _ us hl => match us, hl with | [_, _, _], _ => rfl
  have U10 := fun_mk (st := s_is_item) l10 c10 (keep_fn l10)
  have g10 := PySem.W.mg_of X G a10
  have b10 := U10.binds (ps := ["letters", "thing"]) fun _ _ _ _ _ _ us hl => match us, hl with | [_, _], _ => rfl
  have U11 := fun_mk (st := s_is_weft) l11 c11 (keep_fn l11)
  have g11 := PySem.W.mg_of X G a11
  have b11 := U11.binds (ps := ["letters", "thing"]) fun _ _ _ _ _ _ us hl => match us, hl with | [_, _], _ => rfl
  have U12 := fun_mk (st := s_does_see) l12 c12 (keep_fn l12)
  have g12 := PySem.W.mg_of X G a12
  have b12 := U12.binds (ps := ["item", "web"]) fun _ _ _ _ _ _ us hl => match us, hl with | [_, _], _ => rfl
  have U13 := fun_mk (st := s_run_on) l13 c13 (keep_fn l13)
  have g13 := PySem.W.mg_of X G a13
  have b13 := U13.binds (ps := ["book", "weft", "web"]) fun _ _ _ _ _ _ us hl => match us, hl with | [_, _, _], _ => rfl
  have U14 := fun_mk (st := s_is_shelf) l14 c14 (keep_fn l14)
  have g14 := PySem.W.mg_of X G a14
  have b14 := U14.binds (ps := ["letters", "thing"]) fun _ _ _ _ _ _ us hl => match us, hl with | [_, _], _ => rfl
  have U15 := fun_mk (st := s_wrong_place) l15 c15 (keep_fn l15)
  have g15 := PySem.W.mg_of X G a15
  have b15 := U15.binds (ps := ["shelf", "thing"]) fun _ _ _ _ _ _ us hl => match us, hl with | [_, _], _ => rfl
  have U16 := fun_mk (st := s_led_by) l16 c16 (keep_fn l16)
  have g16 := PySem.W.mg_of X G a16
  have b16 := U16.binds (ps := ["book", "shelf", "web", "course"]) fun _ _ _ _ _ _ us hl => match us, hl with | [_, _, _, _], _ => rfl
  have U17 := fun_mk (st := s_course_led) l17 c17 (keep_fn l17)
  have g17 := PySem.W.mg_of X G a17
  have b17 := U17.binds (ps := ["book", "shelf", "web", "course"]) fun _ _ _ _ _ _ us hl => match us, hl with | [_, _, _, _], _ => rfl
  have U18 := fun_mk (st := s__law_deck) l18 c18 (keep_fn l18)
  have g18 := PySem.W.mg_of X G a18
  have b18 := U18.binds (ps := ["_law_script"]) fun _ _ _ _ _ _ us hl => match us, hl with | [_], _ => rfl
  have U19 := fun_mk (st := s__law_draw) l19 c19 (keep_fn l19)
  have g19 := PySem.W.mg_of X G a19
  have b19 := U19.binds (ps := ["_law_deck_here", "_law_below"]) fun _ _ _ _ _ _ us hl => match us, hl with | [_, _], _ => rfl
  have U20 := fun_mk (st := s__law_pick) l20 c20 (keep_fn l20)
  have g20 := PySem.W.mg_of X G a20
  have b20 := U20.binds (ps := ["_law_deck_here", "_law_some"]) fun _ _ _ _ _ _ us hl => match us, hl with | [_, _], _ => rfl
  have U21 := fun_mk (st := s__law_book) l21 c21 (keep_fn l21)
  have g21 := PySem.W.mg_of X G a21
  have b21 := U21.binds (ps := ["_law_deck_here"]) fun _ _ _ _ _ _ us hl => match us, hl with | [_], _ => rfl
  have U22 := fun_mk (st := s__law_code) l22 c22 (keep_fn l22)
  have g22 := PySem.W.mg_of X G a22
  have b22 := U22.binds (ps := ["_law_w"]) fun _ _ _ _ _ _ us hl => match us, hl with | [_], _ => rfl
  have U23 := fun_mk (st := s__law_laid) l23 c23 (keep_fn l23)
  have g23 := PySem.W.mg_of X G a23
  have b23 := U23.binds (ps := ["_law_w", "_law_web", "_law_sign"]) fun _ _ _ _ _ _ us hl => match us, hl with | [_, _, _], _ => rfl
  have U24 := fun_mk (st := s__law_led) l24 c24 (keep_fn l24)
  have g24 := PySem.W.mg_of X G a24
  have b24 := U24.binds (ps := ["_law_w", "_law_web", "_law_items"]) fun _ _ _ _ _ _ us hl => match us, hl with | [_, _, _], _ => rfl
  have U25 := fun_mk (st := s__law_weft) l25 c25 (keep_fn l25)
  have g25 := PySem.W.mg_of X G a25
  have b25 := U25.binds (ps := ["_law_deck_here", "_law_letters", "_law_most"]) fun _ _ _ _ _ _ us hl => match us, hl with | [_, _, _], _ => rfl
  have U26 := fun_mk (st := s__law_shelf) l26 c26 (keep_fn l26)
  have g26 := PySem.W.mg_of X G a26
  have b26 := U26.binds (ps := ["_law_deck_here", "_law_letters"]) fun _ _ _ _ _ _ us hl => match us, hl with | [_, _], _ => rfl
  have U27 := fun_mk (st := s__law_course) l27 c27 (keep_fn l27)
  have g27 := PySem.W.mg_of X G a27
  have b27 := U27.binds (ps := ["_law_w", "_law_shelf_here", "_law_web", "_law_course_here"]) fun _ _ _ _ _ _ us hl => match us, hl with | [_, _, _, _], _ => rfl
  have U28 := fun_mk (st := s__law_walk) l28 c28 (keep_fn l28)
  have g28 := PySem.W.mg_of X G a28
  have b28 := U28.binds (ps := ["_law_deck_here", "_law_w", "_law_shelf_here", "_law_web", "_law_most"]) fun _ _ _ _ _ _ us hl => match us, hl with | [_, _, _, _, _], _ => rfl
  have U29 := fun_mk (st := s__law_odd) l29 c29 (keep_fn l29)
  have g29 := PySem.W.mg_of X G a29
  have b29 := U29.binds (ps := ["_law_deck_here", "_law_it"]) fun _ _ _ _ _ _ us hl => match us, hl with | [_, _], _ => rfl
  have U30 := fun_mk (st := s__law_spoilt) l30 c30 (keep_fn l30)
  have g30 := PySem.W.mg_of X G a30
  have b30 := U30.binds (ps := ["_law_deck_here", "_law_it"]) fun _ _ _ _ _ _ us hl => match us, hl with | [_, _], _ => rfl
  have U31 := fun_mk (st := s__law_is_weft) l31 c31 (keep_fn l31)
  have g31 := PySem.W.mg_of X G a31
  have b31 := U31.binds (ps := ["_law_letters", "_law_it"]) fun _ _ _ _ _ _ us hl => match us, hl with | [_, _], _ => rfl
  have U32 := fun_mk (st := s__law_is_shelf) l32 c32 (keep_fn l32)
  have g32 := PySem.W.mg_of X G a32
  have b32 := U32.binds (ps := ["_law_letters", "_law_it"]) fun _ _ _ _ _ _ us hl => match us, hl with | [_, _], _ => rfl
  have U33 := fun_mk (st := s__law_fault) l33 c33 (keep_fn l33)
  have g33 := PySem.W.mg_of X G a33
  have b33 := U33.binds (ps := ["_law_shelf_here", "_law_it"]) fun _ _ _ _ _ _ us hl => match us, hl with | [_, _], _ => rfl
  have U34 := fun_mk (st := s__law_heard) l34 c34 (keep_fn l34)
  have g34 := PySem.W.mg_of X G a34
  have b34 := U34.binds (ps := ["_law_code_here", "_law_shelf_here", "_law_web", "_law_course_here", "_law_way"]) fun _ _ _ _ _ _ us hl => match us, hl with | [_, _, _, _, _], _ => rfl
  have U35 := fun_mk (st := s__law_led_right) l35 c35 (keep_fn l35)
  have g35 := PySem.W.mg_of X G a35
  have b35 := U35.binds (ps := ["_law_deck_here", "_law_w", "_law_code_here", "_law_shelf_here", "_law_web", "_law_it"]) fun _ _ _ _ _ _ us hl => match us, hl with | [_, _, _, _, _, _], _ => rfl
  have U36 := fun_mk (st := s__law_shelves_right) l36 c36 (keep_fn l36)
  have g36 := PySem.W.mg_of X G a36
  have b36 := U36.binds (ps := ["_law_deck_here", "_law_letters", "_law_shelf_here"]) fun _ _ _ _ _ _ us hl => match us, hl with | [_, _, _], _ => rfl
  have U37 := fun_mk (st := s_law) l37 c37 (keep_fn l37)
  have g37 := PySem.W.mg_of X G a37
  have b37 := U37.binds (ps := ["_law_script"]) fun _ _ _ _ _ _ us hl => match us, hl with | [_], _ => rfl
  have gCB := PySem.W.mg_of X G aB
  have Uinit := fun_mk (st := s_Book___init__) linit cinit (keep_fn linit)
  have binit := Uinit.binds (ps := ["self", "letters", "folds"]) fun _ _ _ _ _ _ us hl => match us, hl with | [_, _, _], _ => rfl
  have Minit : Meth K CB "__init__" finit := ⟨minit.1, minit.2, keep_fn linit⟩
  have Uleft := fun_mk (st := s_Book_left_of) lleft cleft (keep_fn lleft)
  have bleft := Uleft.binds (ps := ["self", "last", "laid"]) fun _ _ _ _ _ _ us hl => match us, hl with | [_, _, _], _ => rfl
  have Mleft : Meth K CB "left_of" fleft := ⟨mleft.1, mleft.2, keep_fn lleft⟩
  have gCW := PySem.W.mg_of X G aW
  have YW : ClsF K CM CW := ⟨xW, gaW, ggW, caW⟩
  have TW : MqE_thing.Txt K mg "BadWeb" "BadWeb.__init__" CW FW := ⟨gCW, YW.at_.keep, YW.at_.init, YW.at_.over, YW.at_.has, NoAttr.taker ntW, wsW, wiW, (by simp [PySem.W.typeIn, lEW]), YW.base, YW.at_.ty, _, _, _, _, _, _, _, _, _, _, _, _, _, _, lEW, cEW⟩
  have gCP := PySem.W.mg_of X G aP
  have YP : ClsF K CM CP := ⟨xP, gaP, ggP, caP⟩
  have TP : MqE_place.Txt K mg "BadCourse" "BadCourse.__init__" CP FP := ⟨gCP, YP.at_.keep, YP.at_.init, YP.at_.over, YP.at_.has, NoAttr.taker ntP, wsP, wiP, (by simp [PySem.W.typeIn, lEP]), YP.base, YP.at_.ty, _, _, _, _, _, _, _, _, _, _, _, _, _, _, lEP, cEP⟩
  refine ⟨PySem.W.fnOf "law" "law" (defArgs s_law) (defBody s_law) (defScope s_law) .none kV37 dc37 pm37 an37 cd37 ct37, fun s u => .of_eq rfl, fun base _ _ TB => ?_⟩
  have R : BkC K CB := ⟨⟨owB.1, owB.2.1, owB.2.2.1, saB⟩, nB_letters, nB_folds, nB_table⟩
  have MK : Mk K CB finit := ⟨owB.2.2.2.1, minit.1, minit.2, owB.2.2.2.2⟩
  have EW : ErrW K mg CW CM FW := ⟨TW, YW.xf, ntW, YW.held sp tk, PySem.W.mg_of X G aM, YW.at_.mill mill.1 mill.2, exm_own YW⟩
  have EP : ErrP K mg CP CM FP := ⟨TP, YP.xf, ntP, YP.held sp tk, PySem.W.mg_of X G aM, YP.at_.mill mill.1 mill.2, exm_own YP⟩
  obtain ⟨tA, aA⟩ := t_ALPHABET
  have G_laid_behind := ok_behind (P := P) (w := w) (mg := mg) (base := base) U9 R Uleft Mleft bleft
  have G__law_deck := ok_deck (P := P) (w := w) (mg := mg) (base := base) U18 B
  have G_does_see := ok_does_see (P := P) (w := w) (mg := mg) (base := base) U12 B
  have G__law_draw := ok_draw (P := P) (w := w) (mg := mg) (base := base) U19 B
  have G__law_fault := ok_fault (P := P) (w := w) (mg := mg) (base := base) U33 B
  have G_is_ascending := ok_is_ascending (P := P) (w := w) (mg := mg) (base := base) U5 B
  have G_is_below := ok_is_belowA (P := P) (w := w) (mg := mg) (base := base) U4 B U3 g3 b3
  have G_is_fold := ok_is_fold (P := P) (w := w) (mg := mg) (base := base) U6 B U1 g1 b1
  have G_is_letter := ok_is_letter (P := P) (w := w) (mg := mg) (base := base) U1 B
  have G_is_letters := ok_is_letters (P := P) (w := w) (mg := mg) (base := base) U0 B U5 g5 b5 ⟨tA, PySem.W.mg_of X G aA⟩
  have G_is_number := ok_is_numberA (P := P) (w := w) (mg := mg) (base := base) U3 B
  have G_is_web := ok_is_web (P := P) (w := w) (mg := mg) (base := base) U7 B U2 g2 b2
  have G_is_word := ok_is_word (P := P) (w := w) (mg := mg) (base := base) U2 B
  have G_is_item := ok_itemA (P := P) (w := w) (mg := mg) (base := base) U10 B U1 g1 b1
  have G__law_laid := ok_laid (P := P) (w := w) (mg := mg) (base := base) U23
  have G__law_led := ok_led (P := P) (w := w) (mg := mg) (base := base) U24 U23 g23 b23
  have G_is_letterA := ok_letterA (P := P) (w := w) (mg := mg) (base := base) U1 B
  have G__law_is_shelf := ok_lshelf (P := P) (w := w) (mg := mg) (base := base) U32 B U31 g31 b31
  have G__law_is_weft := ok_lweft (P := P) (w := w) (mg := mg) (base := base) U31 B
  have G__law_pick := ok_pick (P := P) (w := w) (mg := mg) (base := base) U20 B U19 g19 b19
  have G_init := ok_book (P := P) (w := w) (mg := mg) (base := base) Uinit B R U0 g0 b0 G_is_letters U6 g6 b6 G_is_fold
  have G_check_web := ok_check_web (P := P) (w := w) (mg := mg) (base := base) U8 B U7 g7 b7 G_is_web TW
  have G__law_book := ok_law_book (P := P) (w := w) (mg := mg) (base := base) U21 B U19 g19 b19 G__law_draw U20 g20 b20 G__law_pick
  have G__law_course := ok_lcourse (P := P) (w := w) (mg := mg) (base := base) U27 U24 g24 b24 G__law_led
  have G__law_odd := ok_odd (P := P) (w := w) (mg := mg) (base := base) U29 B U20 g20 b20 G__law_pick
  have G_run_on := ok_run_on (P := P) (w := w) (mg := mg) (base := base) U13 B U9 g9 b9 G_laid_behind U12 g12 b12
  have G__law_weft := ok_weft (P := P) (w := w) (mg := mg) (base := base) U25 B n_max U19 g19 b19 G__law_draw U20 g20 b20 G__law_pick
  have G_is_weft := ok_weftA (P := P) (w := w) (mg := mg) (base := base) U11 B U10 g10 b10 G_is_item
  have G_wrong_place := ok_wrong_place (P := P) (w := w) (mg := mg) (base := base) U15 hcT TB B n_next U4 g4 b4 G_is_below
  have G_led_by := ok_led_by (P := P) (w := w) (mg := mg) (base := base) U16 U13 g13 b13 G_run_on
  have G__law_shelf := ok_lshf (P := P) (w := w) (mg := mg) (base := base) U26 B n_max U19 g19 b19 G__law_draw U25 g25 b25 G__law_weft
  have G_is_shelf := ok_shelfA (P := P) (w := w) (mg := mg) (base := base) U14 B U11 g11 b11 G_is_weft
  have G__law_spoilt := ok_spoilt (P := P) (w := w) (mg := mg) (base := base) U30 B U19 g19 b19 G__law_draw U29 g29 b29 G__law_odd g30 b30 8
  have G__law_walk := ok_walk (P := P) (w := w) (mg := mg) (base := base) U28 B U19 g19 b19 G__law_draw U20 g20 b20 G__law_pick U27 g27 b27 G__law_course U24 g24 b24 G__law_led
  have G_course_led := ok_course_led (P := P) (w := w) (mg := mg) (base := base) U17 R U8 g8 b8 G_check_web U15 g15 b15 G_wrong_place U16 g16 b16 G_led_by TP
  have k_is_shelf : KBn K _ ["letters", "thing"] 0 ["thing", "letters"] rev0 rev0 := kbn_rev2 U14 fun _ _ _ _ _ _ _ _ => rfl
  have G__law_shelves_right := ok_shelves_right (P := P) (w := w) (mg := mg) (base := base) U36 B U30 g30 b30 G__law_spoilt U32 g32 b32 G__law_is_shelf U14 g14 b14 k_is_shelf G_is_shelf
  have G__law_code := ok_code (P := P) (w := w) (mg := mg) (base := base) U22 B n_sorted gCB MK binit G_init
  have k_course_led : KBn K _ ["book", "shelf", "web", "course"] 0 ["course", "web", "shelf", "book"] rev0 rev0 := kbn_rev4 U17 fun _ _ _ _ _ _ _ _ _ _ => rfl
  have G__law_heard := ok_heard (P := P) (w := w) (mg := mg) (base := base) U34 B EW EP noPW U17 g17 b17 k_course_led G_course_led
  have G__law_led_right := ok_led_right (P := P) (w := w) (mg := mg) (base := base) U35 B U19 g19 b19 G__law_draw U33 g33 b33 G__law_fault U27 g27 b27 G__law_course U34 g34 b34 G__law_heard U17 g17 b17 G_course_led
  exact ok_law U37 B U18 g18 b18 G__law_deck U21 g21 b21 G__law_book U22 g22 b22 G__law_code U26 g26 b26 G__law_shelf U20 g20 b20 G__law_pick U19 g19 b19 G__law_draw U36 g36 b36 G__law_shelves_right U28 g28 b28 G__law_walk U30 g30 b30 G__law_spoilt U35 g35 b35 G__law_led_right U34 g34 b34 G__law_heard U17 g17 b17 G_course_led gCB MK binit G_init
end Lw

namespace Lw
open PySem PySem.Spec PyProof.Rows L2 Mq
open SX (S)
def fnL : List He.FnD := [⟨("Book", some "__init__"), "__init__", "Book.__init__", defArgs s_Book___init__, defBody s_Book___init__, defScope s_Book___init__⟩,
  ⟨("Book", some "left_of"), "left_of", "Book.left_of", defArgs s_Book_left_of, defBody s_Book_left_of, defScope s_Book_left_of⟩,
  ⟨("BadWeb", some "__init__"), "__init__", "BadWeb.__init__", MqE_thing.iA ⟨14, 17, 14, 21⟩ ⟨14, 23, 14, 28⟩, MqE_thing.iB ⟨15, 8, 15, 12⟩ ⟨15, 8, 15, 18⟩ ⟨15, 21, 15, 26⟩ ⟨15, 8, 15, 26⟩, MqE_thing.iS⟩,
  ⟨("BadCourse", some "__init__"), "__init__", "BadCourse.__init__", MqE_place.iA ⟨18, 17, 18, 21⟩ ⟨18, 23, 18, 28⟩, MqE_place.iB ⟨19, 8, 19, 12⟩ ⟨19, 8, 19, 18⟩ ⟨19, 21, 19, 26⟩ ⟨19, 8, 19, 26⟩, MqE_place.iS⟩,
  ⟨("is_letters", none), "is_letters", "is_letters", defArgs s_is_letters, defBody s_is_letters, defScope s_is_letters⟩,
  ⟨("is_letter", none), "is_letter", "is_letter", defArgs s_is_letter, defBody s_is_letter, defScope s_is_letter⟩,
  ⟨("is_word", none), "is_word", "is_word", defArgs s_is_word, defBody s_is_word, defScope s_is_word⟩,
  ⟨("is_number", none), "is_number", "is_number", defArgs s_is_number, defBody s_is_number, defScope s_is_number⟩,
  ⟨("is_below", none), "is_below", "is_below", defArgs s_is_below, defBody s_is_below, defScope s_is_below⟩,
  ⟨("is_ascending", none), "is_ascending", "is_ascending", defArgs s_is_ascending, defBody s_is_ascending, defScope s_is_ascending⟩,
  ⟨("is_fold", none), "is_fold", "is_fold", defArgs s_is_fold, defBody s_is_fold, defScope s_is_fold⟩,
  ⟨("is_web", none), "is_web", "is_web", defArgs s_is_web, defBody s_is_web, defScope s_is_web⟩,
  ⟨("check_web", none), "check_web", "check_web", defArgs s_check_web, defBody s_check_web, defScope s_check_web⟩,
  ⟨("laid_behind", none), "laid_behind", "laid_behind", defArgs s_laid_behind, defBody s_laid_behind, defScope s_laid_behind⟩,
  ⟨("is_item", none), "is_item", "is_item", defArgs s_is_item, defBody s_is_item, defScope s_is_item⟩,
  ⟨("is_weft", none), "is_weft", "is_weft", defArgs s_is_weft, defBody s_is_weft, defScope s_is_weft⟩,
  ⟨("does_see", none), "does_see", "does_see", defArgs s_does_see, defBody s_does_see, defScope s_does_see⟩,
  ⟨("run_on", none), "run_on", "run_on", defArgs s_run_on, defBody s_run_on, defScope s_run_on⟩,
  ⟨("is_shelf", none), "is_shelf", "is_shelf", defArgs s_is_shelf, defBody s_is_shelf, defScope s_is_shelf⟩,
  ⟨("wrong_place", none), "wrong_place", "wrong_place", defArgs s_wrong_place, defBody s_wrong_place, defScope s_wrong_place⟩,
  ⟨("led_by", none), "led_by", "led_by", defArgs s_led_by, defBody s_led_by, defScope s_led_by⟩,
  ⟨("course_led", none), "course_led", "course_led", defArgs s_course_led, defBody s_course_led, defScope s_course_led⟩,
  ⟨("_law_deck", none), "_law_deck", "_law_deck", defArgs s__law_deck, defBody s__law_deck, defScope s__law_deck⟩,
  ⟨("_law_draw", none), "_law_draw", "_law_draw", defArgs s__law_draw, defBody s__law_draw, defScope s__law_draw⟩,
  ⟨("_law_pick", none), "_law_pick", "_law_pick", defArgs s__law_pick, defBody s__law_pick, defScope s__law_pick⟩,
  ⟨("_law_book", none), "_law_book", "_law_book", defArgs s__law_book, defBody s__law_book, defScope s__law_book⟩,
  ⟨("_law_code", none), "_law_code", "_law_code", defArgs s__law_code, defBody s__law_code, defScope s__law_code⟩,
  ⟨("_law_laid", none), "_law_laid", "_law_laid", defArgs s__law_laid, defBody s__law_laid, defScope s__law_laid⟩,
  ⟨("_law_led", none), "_law_led", "_law_led", defArgs s__law_led, defBody s__law_led, defScope s__law_led⟩,
  ⟨("_law_weft", none), "_law_weft", "_law_weft", defArgs s__law_weft, defBody s__law_weft, defScope s__law_weft⟩,
  ⟨("_law_shelf", none), "_law_shelf", "_law_shelf", defArgs s__law_shelf, defBody s__law_shelf, defScope s__law_shelf⟩,
  ⟨("_law_course", none), "_law_course", "_law_course", defArgs s__law_course, defBody s__law_course, defScope s__law_course⟩,
  ⟨("_law_walk", none), "_law_walk", "_law_walk", defArgs s__law_walk, defBody s__law_walk, defScope s__law_walk⟩,
  ⟨("_law_odd", none), "_law_odd", "_law_odd", defArgs s__law_odd, defBody s__law_odd, defScope s__law_odd⟩,
  ⟨("_law_spoilt", none), "_law_spoilt", "_law_spoilt", defArgs s__law_spoilt, defBody s__law_spoilt, defScope s__law_spoilt⟩,
  ⟨("_law_is_weft", none), "_law_is_weft", "_law_is_weft", defArgs s__law_is_weft, defBody s__law_is_weft, defScope s__law_is_weft⟩,
  ⟨("_law_is_shelf", none), "_law_is_shelf", "_law_is_shelf", defArgs s__law_is_shelf, defBody s__law_is_shelf, defScope s__law_is_shelf⟩,
  ⟨("_law_fault", none), "_law_fault", "_law_fault", defArgs s__law_fault, defBody s__law_fault, defScope s__law_fault⟩,
  ⟨("_law_heard", none), "_law_heard", "_law_heard", defArgs s__law_heard, defBody s__law_heard, defScope s__law_heard⟩,
  ⟨("_law_led_right", none), "_law_led_right", "_law_led_right", defArgs s__law_led_right, defBody s__law_led_right, defScope s__law_led_right⟩,
  ⟨("_law_shelves_right", none), "_law_shelves_right", "_law_shelves_right", defArgs s__law_shelves_right, defBody s__law_shelves_right, defScope s__law_shelves_right⟩,
  ⟨("law", none), "law", "law", defArgs s_law, defBody s_law, defScope s_law⟩]
def fs0 : List (PySem.W.Frag → Bool) := [fGlo "MillError",
  fMill,
  fSp,
  fTk,
  fGlo "Book",
  fOwn "Book",
  fFind "Book" "__setattr__" (some (.builtin "object.__setattr__")),
  fFind "Book" "__class__" (some (.builtin "object.__class__")),
  fMro "Book",
  fKit "Book" "Book" true,
  fFind "Book" "letters" none,
  fFind "Book" "folds" none,
  fFind "Book" "table" none,
  fMeth "Book" "__init__",
  fMeth "Book" "left_of",
  fGlo "BadWeb",
  fCls "BadWeb",
  fFind "BadWeb" "__getattribute__" (some (.builtin "BaseException.__getattribute__")),
  fFind "BadWeb" "__getattr__" none,
  fFind "BadWeb" "__class__" (some (.builtin "object.__class__")),
  fFind "BadWeb" "__setattr__" (some (.builtin "object.__setattr__")),
  fFind "BadWeb" "thing" none,
  fInit "BadWeb",
  fFn "BadWeb",
  fGlo "BadCourse",
  fCls "BadCourse",
  fFind "BadCourse" "__getattribute__" (some (.builtin "BaseException.__getattribute__")),
  fFind "BadCourse" "__getattr__" none,
  fFind "BadCourse" "__class__" (some (.builtin "object.__class__")),
  fFind "BadCourse" "__setattr__" (some (.builtin "object.__setattr__"))]
def fs1 : List (PySem.W.Frag → Bool) := [fFind "BadCourse" "place" none,
  fInit "BadCourse",
  fFn "BadCourse",
  fExm "BadCourse" "BadWeb" false,
  fGlo "is_letters",
  fGlo "is_letter",
  fGlo "is_word",
  fGlo "is_number",
  fGlo "is_below",
  fGlo "is_ascending",
  fGlo "is_fold",
  fGlo "is_web",
  fGlo "check_web",
  fGlo "laid_behind",
  fGlo "is_item",
  fGlo "is_weft",
  fGlo "does_see",
  fGlo "run_on",
  fGlo "is_shelf",
  fGlo "wrong_place",
  fGlo "led_by",
  fGlo "course_led",
  fGlo "_law_deck",
  fGlo "_law_draw",
  fGlo "_law_pick",
  fGlo "_law_book",
  fGlo "_law_code",
  fGlo "_law_laid",
  fGlo "_law_led",
  fGlo "_law_weft"]
def fs2 : List (PySem.W.Frag → Bool) := [fGlo "_law_shelf",
  fGlo "_law_course",
  fGlo "_law_walk",
  fGlo "_law_odd",
  fGlo "_law_spoilt",
  fGlo "_law_is_weft",
  fGlo "_law_is_shelf",
  fGlo "_law_fault",
  fGlo "_law_heard",
  fGlo "_law_led_right",
  fGlo "_law_shelves_right",
  fGlo "law",
  fFree "len",
  fFree "range",
  fFree "isinstance",
  fFree "all",
  fFree "any",
  fFree "int",
  fFree "str",
  fFree "bool",
  fFree "tuple",
  fFree "list",
  fFree "repr",
  fFree "enumerate",
  fFree "sorted",
  fFree "max",
  fFree "next",
  fTxt "ALPHABET" "abcdefghijklmnopqrstuvwxyz"]
def fsL : List (PySem.W.Frag → Bool) := fs0 ++ fs1 ++ fs2
def prL : List He.FnD := []
def dfL : List He.DefD := []
theorem facts {P : Program} {w : World} {K : PySem.W.Frag} {h : Heap} {mg : Str → Option Value} {fa : Addr} (X : K.In h) (G : h.Ns mainGlobals mg) (hfa : mg ("law" : Str) = some (.ref fa)) (c : He.SaysE [] fnL K) (hx : exB fsL K = true) (hp : prL.map (fun d => cmObs K d.at_) = prL.map He.FnD.val) (hd : He.SaysD [] dfL K) (hT : TabAt K h "wrong_place") :
    ∃ fd : FuncData, ∃ cT0 PT0 : Addr, h.get? PT0 = some { cls := .none, data := .fields #[] } ∧ K.lookup PT0 = none ∧ PySem.W.CodeHd h cT0 PT0 ∧ (∀ (s : Shared) (u : Value), BindsTo s fd ⟨[u], []⟩ [("_law_script", u)]) ∧ ∀ base : Heap, K.In base → base.Ns mainGlobals mg → GxR.TabB base mg cT0 PT0 → FnG P w K mg base CX0 14 fa fd ["_law_script"] (spLaw K PT0) := by
  obtain ⟨cT0, PT0, ocT, odT, fdT, slT, hT1, hT2, hT3, hT4, hT5⟩ := hT
  obtain ⟨_, _, _, _, _, _, _, _, _, linit, cinit⟩ := c.def_ 0 rfl
  obtain ⟨_, _, _, _, _, _, _, _, _, lleft, cleft⟩ := c.def_ 1 rfl
  obtain ⟨_, _, _, _, _, _, _, _, _, lEW, cEW⟩ := c.def_ 2 rfl
  obtain ⟨rfl, rfl⟩ := fnB_ok (exAt hx 23 (f := fFn "BadWeb") rfl) lEW
  obtain ⟨_, _, _, _, _, _, _, _, _, lEP, cEP⟩ := c.def_ 3 rfl
  obtain ⟨rfl, rfl⟩ := fnB_ok (exAt hx 32 (f := fFn "BadCourse") rfl) lEP
  obtain ⟨_, _, _, _, _, _, _, _, _, l0, c0⟩ := c.def_ 4 rfl
  obtain ⟨_, _, _, _, _, _, _, _, _, l1, c1⟩ := c.def_ 5 rfl
  obtain ⟨_, _, _, _, _, _, _, _, _, l2, c2⟩ := c.def_ 6 rfl
  obtain ⟨_, _, _, _, _, _, _, _, _, l3, c3⟩ := c.def_ 7 rfl
  obtain ⟨_, _, _, _, _, _, _, _, _, l4, c4⟩ := c.def_ 8 rfl
  obtain ⟨_, _, _, _, _, _, _, _, _, l5, c5⟩ := c.def_ 9 rfl
  obtain ⟨_, _, _, _, _, _, _, _, _, l6, c6⟩ := c.def_ 10 rfl
  obtain ⟨_, _, _, _, _, _, _, _, _, l7, c7⟩ := c.def_ 11 rfl
  obtain ⟨_, _, _, _, _, _, _, _, _, l8, c8⟩ := c.def_ 12 rfl
  obtain ⟨_, _, _, _, _, _, _, _, _, l9, c9⟩ := c.def_ 13 rfl
  obtain ⟨_, _, _, _, _, _, _, _, _, l10, c10⟩ := c.def_ 14 rfl
  obtain ⟨_, _, _, _, _, _, _, _, _, l11, c11⟩ := c.def_ 15 rfl
  obtain ⟨_, _, _, _, _, _, _, _, _, l12, c12⟩ := c.def_ 16 rfl
  obtain ⟨_, _, _, _, _, _, _, _, _, l13, c13⟩ := c.def_ 17 rfl
  obtain ⟨_, _, _, _, _, _, _, _, _, l14, c14⟩ := c.def_ 18 rfl
  obtain ⟨_, _, _, _, _, _, _, _, _, l15, c15⟩ := c.def_ 19 rfl
  obtain ⟨_, _, _, _, _, _, _, _, _, l16, c16⟩ := c.def_ 20 rfl
  obtain ⟨_, _, _, _, _, _, _, _, _, l17, c17⟩ := c.def_ 21 rfl
  obtain ⟨_, _, _, _, _, _, _, _, _, l18, c18⟩ := c.def_ 22 rfl
  obtain ⟨_, _, _, _, _, _, _, _, _, l19, c19⟩ := c.def_ 23 rfl
  obtain ⟨_, _, _, _, _, _, _, _, _, l20, c20⟩ := c.def_ 24 rfl
  obtain ⟨_, _, _, _, _, _, _, _, _, l21, c21⟩ := c.def_ 25 rfl
  obtain ⟨_, _, _, _, _, _, _, _, _, l22, c22⟩ := c.def_ 26 rfl
  obtain ⟨_, _, _, _, _, _, _, _, _, l23, c23⟩ := c.def_ 27 rfl
  obtain ⟨_, _, _, _, _, _, _, _, _, l24, c24⟩ := c.def_ 28 rfl
  obtain ⟨_, _, _, _, _, _, _, _, _, l25, c25⟩ := c.def_ 29 rfl
  obtain ⟨_, _, _, _, _, _, _, _, _, l26, c26⟩ := c.def_ 30 rfl
  obtain ⟨_, _, _, _, _, _, _, _, _, l27, c27⟩ := c.def_ 31 rfl
  obtain ⟨_, _, _, _, _, _, _, _, _, l28, c28⟩ := c.def_ 32 rfl
  obtain ⟨_, _, _, _, _, _, _, _, _, l29, c29⟩ := c.def_ 33 rfl
  obtain ⟨_, _, _, _, _, _, _, _, _, l30, c30⟩ := c.def_ 34 rfl
  obtain ⟨_, _, _, _, _, _, _, _, _, l31, c31⟩ := c.def_ 35 rfl
  obtain ⟨_, _, _, _, _, _, _, _, _, l32, c32⟩ := c.def_ 36 rfl
  obtain ⟨_, _, _, _, _, _, _, _, _, l33, c33⟩ := c.def_ 37 rfl
  obtain ⟨_, _, _, _, _, _, _, _, _, l34, c34⟩ := c.def_ 38 rfl
  obtain ⟨_, _, _, _, _, _, _, _, _, l35, c35⟩ := c.def_ 39 rfl
  obtain ⟨_, _, _, _, _, _, _, _, _, l36, c36⟩ := c.def_ 40 rfl
  obtain ⟨_, _, _, _, _, _, _, _, _, l37, c37⟩ := c.def_ 41 rfl
  obtain ⟨fd, hb, hF⟩ := all_mk X G hfa (glo_of (exAt hx 0 (f := fGlo "MillError") rfl)) (mill_of (exAt hx 1 (f := fMill) rfl)) (sp_of (exAt hx 2 (f := fSp) rfl)) (tk_of (exAt hx 3 (f := fTk) rfl)) (glo_of (exAt hx 4 (f := fGlo "Book") rfl)) (own_of (exAt hx 5 (f := fOwn "Book") rfl)) (find_of (exAt hx 6 (f := fFind "Book" "__setattr__" (some (.builtin "object.__setattr__"))) rfl)) (find_of (exAt hx 7 (f := fFind "Book" "__class__" (some (.builtin "object.__class__"))) rfl)) (mro_of (exAt hx 8 (f := fMro "Book") rfl)) (kit_of (exAt hx 9 (f := fKit "Book" "Book" true) rfl)) (find_of (exAt hx 10 (f := fFind "Book" "letters" none) rfl)) (find_of (exAt hx 11 (f := fFind "Book" "folds" none) rfl)) (find_of (exAt hx 12 (f := fFind "Book" "table" none) rfl)) (meth_of (exAt hx 13 (f := fMeth "Book" "__init__") rfl)) linit cinit (meth_of (exAt hx 14 (f := fMeth "Book" "left_of") rfl)) lleft cleft (glo_of (exAt hx 15 (f := fGlo "BadWeb") rfl)) (cls_of (exAt hx 16 (f := fCls "BadWeb") rfl)) (find_of (exAt hx 17 (f := fFind "BadWeb" "__getattribute__" (some (.builtin "BaseException.__getattribute__"))) rfl)) (find_of (exAt hx 18 (f := fFind "BadWeb" "__getattr__" none) rfl)) (find_of (exAt hx 19 (f := fFind "BadWeb" "__class__" (some (.builtin "object.__class__"))) rfl)) (find_of (exAt hx 20 (f := fFind "BadWeb" "__setattr__" (some (.builtin "object.__setattr__"))) rfl)) (find_of (exAt hx 21 (f := fFind "BadWeb" "thing" none) rfl)) (init_of (exAt hx 22 (f := fInit "BadWeb") rfl)) lEW cEW (glo_of (exAt hx 24 (f := fGlo "BadCourse") rfl)) (cls_of (exAt hx 25 (f := fCls "BadCourse") rfl)) (find_of (exAt hx 26 (f := fFind "BadCourse" "__getattribute__" (some (.builtin "BaseException.__getattribute__"))) rfl)) (find_of (exAt hx 27 (f := fFind "BadCourse" "__getattr__" none) rfl)) (find_of (exAt hx 28 (f := fFind "BadCourse" "__class__" (some (.builtin "object.__class__"))) rfl)) (find_of (exAt hx 29 (f := fFind "BadCourse" "__setattr__" (some (.builtin "object.__setattr__"))) rfl)) (find_of (exAt hx 30 (f := fFind "BadCourse" "place" none) rfl)) (init_of (exAt hx 31 (f := fInit "BadCourse") rfl)) lEP cEP (exm_of (exAt hx 33 (f := fExm "BadCourse" "BadWeb" false) rfl)) (glo_of (exAt hx 34 (f := fGlo "is_letters") rfl)) l0 c0 (glo_of (exAt hx 35 (f := fGlo "is_letter") rfl)) l1 c1 (glo_of (exAt hx 36 (f := fGlo "is_word") rfl)) l2 c2 (glo_of (exAt hx 37 (f := fGlo "is_number") rfl)) l3 c3 (glo_of (exAt hx 38 (f := fGlo "is_below") rfl)) l4 c4 (glo_of (exAt hx 39 (f := fGlo "is_ascending") rfl)) l5 c5 (glo_of (exAt hx 40 (f := fGlo "is_fold") rfl)) l6 c6 (glo_of (exAt hx 41 (f := fGlo "is_web") rfl)) l7 c7 (glo_of (exAt hx 42 (f := fGlo "check_web") rfl)) l8 c8 (glo_of (exAt hx 43 (f := fGlo "laid_behind") rfl)) l9 c9 (glo_of (exAt hx 44 (f := fGlo "is_item") rfl)) l10 c10 (glo_of (exAt hx 45 (f := fGlo "is_weft") rfl)) l11 c11 (glo_of (exAt hx 46 (f := fGlo "does_see") rfl)) l12 c12 (glo_of (exAt hx 47 (f := fGlo "run_on") rfl)) l13 c13 (glo_of (exAt hx 48 (f := fGlo "is_shelf") rfl)) l14 c14 (glo_of (exAt hx 49 (f := fGlo "wrong_place") rfl)) l15 c15 (glo_of (exAt hx 50 (f := fGlo "led_by") rfl)) l16 c16 (glo_of (exAt hx 51 (f := fGlo "course_led") rfl)) l17 c17 (glo_of (exAt hx 52 (f := fGlo "_law_deck") rfl)) l18 c18 (glo_of (exAt hx 53 (f := fGlo "_law_draw") rfl)) l19 c19 (glo_of (exAt hx 54 (f := fGlo "_law_pick") rfl)) l20 c20 (glo_of (exAt hx 55 (f := fGlo "_law_book") rfl)) l21 c21 (glo_of (exAt hx 56 (f := fGlo "_law_code") rfl)) l22 c22 (glo_of (exAt hx 57 (f := fGlo "_law_laid") rfl)) l23 c23 (glo_of (exAt hx 58 (f := fGlo "_law_led") rfl)) l24 c24 (glo_of (exAt hx 59 (f := fGlo "_law_weft") rfl)) l25 c25 (glo_of (exAt hx 60 (f := fGlo "_law_shelf") rfl)) l26 c26 (glo_of (exAt hx 61 (f := fGlo "_law_course") rfl)) l27 c27 (glo_of (exAt hx 62 (f := fGlo "_law_walk") rfl)) l28 c28 (glo_of (exAt hx 63 (f := fGlo "_law_odd") rfl)) l29 c29 (glo_of (exAt hx 64 (f := fGlo "_law_spoilt") rfl)) l30 c30 (glo_of (exAt hx 65 (f := fGlo "_law_is_weft") rfl)) l31 c31 (glo_of (exAt hx 66 (f := fGlo "_law_is_shelf") rfl)) l32 c32 (glo_of (exAt hx 67 (f := fGlo "_law_fault") rfl)) l33 c33 (glo_of (exAt hx 68 (f := fGlo "_law_heard") rfl)) l34 c34 (glo_of (exAt hx 69 (f := fGlo "_law_led_right") rfl)) l35 c35 (glo_of (exAt hx 70 (f := fGlo "_law_shelves_right") rfl)) l36 c36 (glo_of (exAt hx 71 (f := fGlo "law") rfl)) l37 c37 (free_of (exAt hx 72 (f := fFree "len") rfl)) (free_of (exAt hx 73 (f := fFree "range") rfl)) (free_of (exAt hx 74 (f := fFree "isinstance") rfl)) (free_of (exAt hx 75 (f := fFree "all") rfl)) (free_of (exAt hx 76 (f := fFree "any") rfl)) (free_of (exAt hx 77 (f := fFree "int") rfl)) (free_of (exAt hx 78 (f := fFree "str") rfl)) (free_of (exAt hx 79 (f := fFree "bool") rfl)) (free_of (exAt hx 80 (f := fFree "tuple") rfl)) (free_of (exAt hx 81 (f := fFree "list") rfl)) (free_of (exAt hx 82 (f := fFree "repr") rfl)) (free_of (exAt hx 83 (f := fFree "enumerate") rfl)) (free_of (exAt hx 84 (f := fFree "sorted") rfl)) (free_of (exAt hx 85 (f := fFree "max") rfl)) (free_of (exAt hx 86 (f := fFree "next") rfl)) (txt_of (exAt hx 87 (f := fTxt "ALPHABET" "abcdefghijklmnopqrstuvwxyz") rfl)) (cT0 := cT0) (PT0 := PT0) (by have e := l15.symm.trans hT1; injection e with e; injection e with e1 e2 e3; injection e3 with e4; rw [← e4] at hT2; exact hT2)
  exact ⟨fd, cT0, PT0, hT3, hT4, hT5, hb, hF⟩
end Lw

namespace Lw
open PySem PySem.W PySem.Calls PyProof.Rows Mq
abbrev RR : OpenRow := OpenLaw.row PySem.Challenge.rw_millhands_k55_courses_and_shelves
def nm0 : List PySem.Str := ["MillError", "BadBook", "BadText", "BadWeb", "BadCourse", "is_letters", "is_letter", "is_word", "is_number", "is_below", "is_ascending", "text_parts", "Book", "is_fold", "fold_read", "is_web", "check_web", "laid_behind", "is_item", "is_weft", "does_see", "run_on", "is_shelf", "wrong_place", "led_by", "course_led", "_law_deck", "_law_draw", "_law_pick", "_law_book"]
def nm1 : List PySem.Str := ["_law_code", "_law_laid", "_law_led", "_law_weft", "_law_shelf", "_law_course", "_law_walk", "_law_odd", "_law_spoilt", "_law_is_weft", "_law_is_shelf", "_law_fault", "_law_heard", "_law_led_right", "_law_shelves_right", "ALPHABET"]
abbrev nmL : List PySem.Str := nm0 ++ nm1
abbrev hk : Hook := hookT 5 fnL prL dfL fsL "wrong_place"
def ob (s : SharedT) : AlT' := obsT 5 fnL prL dfL fsL "wrong_place" (HandSHeadRun.getT s)
theorem ob_eq (s : SharedT) : ob s = hk.obs s.abs := obsT_eq (HandSHeadRun.getT_eq s)
theorem run (w : World) : HandSHeadRun.RunEq RR (view RR.prog [52]) hk ob 40000 nmL w := by
  intro os
  kernel_rfl
end Lw

open PySem PySem.W PySem.Calls PyProof.Rows
theorem PySem.Challenge.cw_millhands_k55_courses_and_shelves_holds : PySem.Challenge.rw_millhands_k55_courses_and_shelves.Holds := by
  w_on; o_law
  refine HandSHeadRun.head_any (r := OpenLaw.row PySem.Challenge.rw_millhands_k55_courses_and_shelves) (q := view (OpenLaw.row PySem.Challenge.rw_millhands_k55_courses_and_shelves).prog [52]) (H := Lw.hk) (ob := Lw.ob) (M := 40000) (loose := Lw.nmL) (d := HandSHeadRun.topDef (OpenLaw.row PySem.Challenge.rw_millhands_k55_courses_and_shelves).prog 52) (kwd := []) Lw.ob_eq
    (by kernel_rfl) (fun s => by kernel_rfl) Lw.run (by kernel_rfl) (by kernel_rfl) (by kernel_rfl) (by rfl) (by first | assumption | decide +kernel) (by decide +kernel) ⟨rfl, rfl, rfl, rfl, rfl, by decide +kernel⟩ ?hw ?hc
  case hw => w_witness2
  case hc =>
    refine Mq.walk_ofGT (l := PySem.Challenge.rw_millhands_k55_courses_and_shelves) (n := 63) (k := 14) (x := "_law_script") (CX := L2.CX0) rfl (by decide) (by kernel_rfl) ⟨rfl, by decide, by decide⟩ ?F (fun _ _ _ _ z => z)
    intro w mg fa h Y G hmg0
    obtain ⟨K, KX, c, hx, hpr, hdf, hTT⟩ := Y
    have hmg : mg ("law" : PySem.Str) = some (.ref fa) := by
      have e : (HandSHeadRun.topDef (OpenLaw.row PySem.Challenge.rw_millhands_k55_courses_and_shelves).prog 52).name = ("law" : PySem.Str) := by kernel_rfl
      rw [← e]
      exact hmg0
    obtain ⟨fd, c0, P0, hT3, hT4, hT5, hb, hF⟩ := Lw.facts (P := (PySem.Challenge.rw_millhands_k55_courses_and_shelves).prog) (w := w) KX G hmg c hx hpr hdf hTT
    exact ⟨K, fd, Lw.spLaw K P0, c0, P0, KX, hT3, hT4, hT5, hb, fun H a ns hl hP hS => ⟨a, ns, rfl, hS, hl, ⟨_, hP, trivial⟩, fun _ => rfl⟩, hF⟩

