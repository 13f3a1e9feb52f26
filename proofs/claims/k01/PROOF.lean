import PyProof.Rows.All
import Wide.All
import OpenK.AllK
import Wide.FinOn
import PyProof.EqAt
import PyProof.EqKinds
import PyProof.TupleCall
import PyProof.ReprReads
import KE.KExcInit
import HandS.ForMost
import HandS.ForExc
import HandS.ExcField
import HandS.Flow
import HandS.Style
import PyProof.ReprRoads
import HandS.ExcIs
import KE.KExcIs
import HandS.Defaults
import HandS.Walk
import HandS.IsInst
import HandS.Codes
import HandS.StrMore
import KE.GoesMore
import HandS.CallLocal
import HandS.More
import PyProof.StrOps2
import PySem.Challenge.RW_millhands_k01_books_of_any_values
import HandS.Replace
import KE.KSortTupG
import KE.KDictSum
import HandS.Iter
import HandS.Dict
import HandS.Conv
import HandS.TupLe
import PyProof.StrLawsChain
import PyProof.Rows.StrItems
import HandS.MakeKwOnly
import HandS.ClsMeth
import HandS.Text
import HandS.Set
import HandS.SetFor
import HandS.SetTxt0
import HandS.Strs
import HandS.SetTxtIn
import HandS.TupAny
import PyProof.ListStr
import PyProof.ListMulRight
import PyProof.AutoIntG3
import HandS.FStr
import HandS.Star
import HandS.ExcValue
import HandS.Property
import KE.KCallOwn
import HandS.OwnEq
import PyProof.InstEq
import PyProof.NeKinds
import PyProof.ReprLen
import HandS.HeadEnd
import HandS.Head0
import HandS.Head1
import HandS.Head2
import HandS.HeadHook1
import HandS.HeadHook2
set_option Elab.async false
set_option linter.all false
set_option maxRecDepth 100000
set_option maxHeartbeats 0
namespace Mq
open PySem PySem.Spec PyProof.Rows L2

/-! ### defs that are entered where no repr is under way -/
def Still (A : Around) : Prop := A.guards = some []

structure FnG (P : Program) (w : World) (K : PySem.W.Frag) (mg : Str → Option Value)
    (base : Heap) (CX : CXT) (k : Nat) (f : Addr) (fd : FuncData) (ps : List Str) (sp : Sp) : Prop where
  many : ∀ vs H Q E, sp vs H Q E → vs.length = ps.length
  go : ∀ (A : Around) (outer : List Env) (s : Shared) (H : Hp) (args : Args)
    (us : List Value) (vs : List V) (Q : VK) (E : XK), Still A → Room k A →
    Env0 P w K mg base A outer s H → BindsTo s fd args (ps.zip us) → Vals vs us → sp vs H Q E →
    codeAny (model P w) A (.call (.ref f) args) (CR CX outer P w H s Q E) s

theorem FnG.of {P : Program} {w : World} {K : PySem.W.Frag} {mg : Str → Option Value}
    {base : Heap} {CX : CXT} {k : Nat} {f : Addr} {fd : FuncData} {ps : List Str} {sp : Sp}
    (F : FnOk P w K mg base CX k f fd ps sp) : FnG P w K mg base CX k f fd ps sp :=
  ⟨F.len, fun A outer s H args us vs Q E _ => F.run A outer s H args us vs Q E⟩

section
variable {P : Program} {w : World} {K : PySem.W.Frag} {mg : Str → Option Value} {base : Heap}

theorem Fun.okG {CX : CXT} {x qual : Str} {st : Stmt} {f : Addr} {fd : FuncData} {N ps : List Str}
    {k : Nat} {sp : Sp} (F : L2.Fun K x qual st f fd) (S : FnScope N ps (defScope st))
    (many : ∀ vs H Q E, sp vs H Q E → vs.length = ps.length)
    (body : ∀ (cdv : Value) (A : Around) (outer : List Env) (s : Shared) (H : Hp) (vs : List V) (Q : VK) (E : XK),
      Still (A.deeper (envOfC qual (defScope st) s.heap.objs.size f cdv)) →
      Room k (A.deeper (envOfC qual (defScope st) s.heap.objs.size f cdv)) → sp vs H Q E →
      ∃ t, PSs (cxOf CX P w K mg base N qual (defScope st) f cdv A outer s H E) (defBody st) t ∧
        t { nx := fun _ H' => Q .non H', rt := Q } (start N vs) H) :
    FnG P w K mg base CX (k + 1) f fd ps sp := by
  obtain ⟨oc, od, kV, doc, pm, an, cdv, ct, osl, rfl, lk, hcd⟩ := F.ex
  refine ⟨many, fun A outer s H args us vs Q E gA hr e0 hb r h => ?_⟩
  have old : ∀ b o, base.get? b = some o → s.heap.get? b = some o := fun b o e => (e0.bs b o e).1
  have KX := e0.mod.kin.keeps old
  have lim := e0.mod.nolimit.keeps old
  have hlen := many _ _ _ _ h
  have kinds : ∀ y ∈ ps.zip us, (defScope st).names.lookup y.1 = some .local ∨
      ((defScope st).names.lookup y.1 = some .cell ∧
        ((cellsFrom (s.heap.objs.size + 1) (defScope st).names []).lookup y.1).isSome = true) := by
    rintro ⟨n, v⟩ hy
    rcases S.par n (List.of_mem_zip hy).1 with q | q
    · exact Or.inl q
    · exact Or.inr ⟨q, PySem.W.cellsFrom_some _ _ _ (Or.inl q)⟩
  refine codeAny_call_function hr.depth (KX _ _ lk) rfl S.co S.gen rfl
    (PySem.W.codeRec_of KX hcd) (hb _ _ _ _ ?_)
  refine wpAny_newFunctionEnv_cells S.kind kinds (fun env he s1 x => ?_)
  subst he
  refine ⟨lim.keeps x.toInCall.keep, codeAny_func ?_⟩
  obtain ⟨t, ht, hq⟩ := body cdv A outer s H vs Q E gA (hr.deeper _) h
  have I := inv_start (CX := CX) (E := E) S hr.hd e0 hlen r x
  refine wpAny_mono (ht.run [] s1 (start N vs) H _ I hq) (fun fl s' hs => ?_) (fun e s' hs => hs)
  cases fl with
  | ret u =>
    obtain ⟨v, σ', H', J, rv, q⟩ := hs
    exact ⟨v, H', J.os, J.bare, J.base, J.hok, rv, q⟩
  | next =>
    obtain ⟨σ', H', J, q⟩ := hs
    exact ⟨V.non, H', J.os, J.bare, J.base, J.hok, rfl, q⟩
  | brk =>
    obtain ⟨_, _, _, q⟩ := hs
    exact q.elim
  | cont =>
    obtain ⟨_, _, _, q⟩ := hs
    exact q.elim
end

section
variable {X : Cx} {CX : CXT} {k : Nat} {f : Addr} {fd : FuncData} {ps : List Str} {sp : Sp}
  {E : XK} {x : Str} {p pos : Pos} {e : Expr} {es : List Expr} {t : TA}

theorem run_G {pins : List (Addr × Obj)} {σ : L2.St} {H : Hp} {s : Shared} {Q : VK} {us : List Value} {vs : List V}
    (F : FnG X.prog X.w X.K X.mg X.base CX k f fd ps sp) (gA : Still X.A) (hr : Room k X.A)
    (hb : Binds X.K fd ps []) (hx : Passes CX X E) (I : Inv X pins σ H s) (r : Vals vs us) (h : sp vs H Q E) :
    wpAny (model X.prog X.w) X.A (call (.ref f) us) (EP X pins σ Q) X.xe s := by
  have hl : us.length = ps.length := by rw [← r.length]; exact F.many _ _ _ _ h
  have b := hb s us I.kIn (by rw [List.append_nil]; exact hl)
  rw [List.append_nil] at b
  refine wpAny_call (codeAny_mono (F.go X.A X.stack s H ⟨us, []⟩ us vs Q E gA hr I.env0 b r h) (fun r s' hq => ?_))
  match r, hq with
  | .error er, hq => exact hx pins σ H s er s' I hq
  | .ok (.ret u), hq => exact I.after hq
  | .ok .next, hq => exact hq.elim
  | .ok .brk, hq => exact hq.elim
  | .ok .cont, hq => exact hq.elim

/-- f(e, ..) where no repr is under way -/
theorem pe_callG (F : FnG X.prog X.w X.K X.mg X.base CX k f fd ps sp) (gA : Still X.A) (hr : Room k X.A)
    (hg : Gl X x) (hm : X.mg x = some (.ref f)) (hk : PySem.W.keepIn X.K (.ref f) = true)
    (hb : Binds X.K fd ps []) (hx : Passes CX X E) (ha : PA X (e :: es) t)
    (hdb : (x == ("__debug__" : Str)) = false := by decide)
    (he : starEach (e :: es) X.env = (false, eval e X.env) :: starEach es X.env := by rfl)
    (hpl : (backTo pos (starEach es X.env)).any (·.1) = false := by rfl) :
    PE X (.Call (.Name x p) (e :: es) [] pos) (tCall sp [] E t) := by
  refine ⟨fun pins s σ H Q I h => wpAny_Call_Name_kw (ld_glob I hg hm ?_ hdb)⟩
  refine PySem.W.callWith_K (h₀ := X.base) I.ok.mod.kin hk (thn (ha.run pos pins s σ H _ I h) ?_) he hpl
  rintro us s1 ⟨vs, H1, I1, r, q⟩
  rw [List.append_nil] at q
  exact ⟨I1.kIn, run_G F gA hr hb hx I1 r q⟩
end

/-! ### the law's own call -/
theorem law_callG {P : Program} {w : World} {K : PySem.W.Frag} {mg mb : Str → Option Value} {CX : CXT} {k : Nat}
    {fa a : Addr} {fd : FuncData} {x : Str} {sp : Sp} {s₁ : Shared} {vs : List Value} {ns : List Int}
    (KX : K.In s₁.heap) (hns : s₁.heap.Ns mainGlobals mg) (hb : s₁.heap.Ns builtinsNs mb)
    (hbb : ∀ x : Str, x ≠ "__name__" → mb x = bootBuiltins x) (hlim : s₁.heap.NoLimit) (hg : s₁.gens = #[])
    (ha : s₁.heap.get? a = some { cls := .type "list", data := .seq vs.toArray }) (hi : IntsAre vs ns)
    (hl : ns.length ≤ sizeLine) (hr : Room k callerA)
    (F : ∀ base : Heap, K.In base → base.Ns mainGlobals mg → FnG P w K mg base CX k fa fd [x] sp)
    (hbind : ∀ (s : Shared) (u : Value), BindsTo s fd ⟨[u], []⟩ [(x, u)])
    (hsp : ∀ H : Hp, Only H → SqL K H a (ns.map V.int) → sp [.ref a] H (fun v _ => v = .bl true) fun _ _ _ => False)
    (hCX : ∀ H e s', CX [] H s₁ (fun _ _ _ => False) e s' → False) :
    codeAny (model P w) callerA (.call (.ref fa) ⟨[.ref a], []⟩)
      (fun r s' => r = .ok (.ret (.bool true)) ∧ OldK s₁.heap s'.heap ∧ s'.os = s₁.os ∧ AllBare s'.gens) s₁ := by
  have rv := vals_ints hi
  have core : ∀ H : Hp, Only H → SqL K H a (ns.map V.int) → HOk P w H s₁.heap →
      (∀ b, H b ≠ none → b = a) → (H a ≠ none → K.lookup a = none) →
      codeAny (model P w) callerA (.call (.ref fa) ⟨[.ref a], []⟩)
        (fun r s' => r = .ok (.ret (.bool true)) ∧ OldK s₁.heap s'.heap ∧ s'.os = s₁.os ∧ AllBare s'.gens) s₁ := by
    intro H hO hS hok hA hK
    have only : ∀ {b : Addr} {u : HO}, H b = some u → b = a := fun {b u} q => hA b (by rw [q]; exact fun z => by cases z)
    have noD : ∀ {b : Addr} {o : Obj} {es : Array DictEntry} {ep : Nat}, s₁.heap.get? b = some o →
        o.data = .dict es ep → H b = none := by
      intro b o es ep e d
      cases q : H b with
      | none => rfl
      | some u =>
        have e' := only q
        subst e'
        rw [ha] at e
        cases e
        cases d
    have nsK : ∀ {b : Addr} {m : Str → Option Value}, s₁.heap.Ns b m → (hidT s₁.heap H).Ns b m := by
      rintro b m ⟨o, es, ep, e, d, r⟩
      exact ⟨o, es, ep, hidT_get e (noD e d), d, r⟩
    have hKb : K.In (hidT s₁.heap H) := by
      intro b o e
      refine hidT_get (KX b o e) ?_
      cases q : H b with
      | none => rfl
      | some u =>
        have e' := only q
        subst e'
        rw [hK (by rw [q]; exact fun z => by cases z)] at e
        cases e
    obtain ⟨mc, l1, l2⟩ := hlim
    have hM : Mod K mg (hidT s₁.heap H) := ⟨hKb, nsK hns, ⟨mb, nsK hb, hbb⟩, ⟨mc, nsK l1, l2⟩⟩
    have nil : ∀ {b : Addr}, b ∉ ([] : List Addr) := fun h => by cases h
    have e0 : Env0 P w K mg (hidT s₁.heap H) callerA [] s₁ H :=
      ⟨rfl, hM, fun b o e => of_hidT e, Nat.le_of_eq (hidT_size _ _), trivial, fun b hb => (nil hb).elim, hok, .of_eq hg⟩
    refine codeAny_mono ((F _ hKb (nsK hns)).go callerA [] s₁ H ⟨[.ref a], []⟩ [.ref a] [.ref a] _ _ rfl hr e0
      (hbind s₁ (.ref a)) (.cons rfl .nil) (hsp H hO hS)) (fun r s' h => ?_)
    match r, h with
    | .error e, h => exact (hCX H e s' h).elim
    | .ok .next, h => exact h.elim
    | .ok .brk, h => exact h.elim
    | .ok .cont, h => exact h.elim
    | .ok (.ret u), h =>
      obtain ⟨v, H', os, bare, un, hok', r', q⟩ := h
      have q' : v = .bl true := q
      subst q'
      cases (show u = Value.bool true from r')
      refine ⟨rfl, OldK.of_keep (fun b o e => ?_), os, bare⟩
      rcases hO b with z | ⟨ob, xs, z⟩
      · exact un.keep b o e z nil nil
      · obtain ⟨e1, _⟩ := hok b _ z
        obtain ⟨e2, _⟩ := hok' b _ (un.frzs b ob _ z)
        rw [e] at e1
        cases e1
        exact e2
  cases hk : K.lookup a with
  | some o =>
    have e := KX a o hk
    rw [ha] at e
    cases e
    refine core (fun _ => none) (fun _ => Or.inl rfl) (Or.inr ⟨_, vs.toArray, _, hk, rfl, rfl, rfl, ?_, by simpa using rv⟩)
      (fun b u z => by cases (show (none : Option HO) = some u from z)) (fun b z => (z rfl).elim) (fun z => (z rfl).elim)
    rw [List.size_toArray, hi.length]
    exact hl
  | none =>
    let o0 : Obj := { cls := .type "list", data := .seq vs.toArray }
    refine core (fun b => if b = a then some (.frz o0 (.lst (ns.map V.int))) else none) (fun b => ?_)
      (Or.inl (Or.inr ⟨o0, if_pos rfl⟩)) (fun b u z => ?_) (fun b z => ?_) (fun _ => hk)
    · by_cases hb : b = a
      · exact Or.inr ⟨_, _, if_pos hb⟩
      · exact Or.inl (if_neg hb)
    · by_cases hb : b = a
      · cases (if_pos hb).symm.trans z
        subst hb
        exact ⟨ha, by rw [List.length_map]; exact hl, vs, _, rv, ha⟩
      · cases (if_neg hb).symm.trans z
    · by_cases hb : b = a
      · exact hb
      · exact (z (if_neg hb)).elim

theorem walk_ofG {l : PySem.W.OpenLaw} {n k : Nat} {q : Program} {loose : List Str}
    {XP : (Str → Option Value) → Heap → Prop} {YP : World → Heap → Prop} {d : DefRec}
    {K : Params → PySem.W.Frag} {CX : World → CXT} {sp : World → Sp} {x : Str}
    (hn : l.most = some n) (hn2 : n ≤ sizeLine) (hdf : d.params.defaults = []) (hr : Room k callerA)
    (hY : ∀ (w : World) (h : Heap), YP w h → (K w.params).In h)
    (F : ∀ (w : World) (mg : Str → Option Value) (fa : Addr) (h : Heap), (K w.params).In h →
      h.Ns mainGlobals mg → mg d.name = some (.ref fa) →
      ∃ fd : FuncData, (∀ (s : Shared) (u : Value), BindsTo s fd ⟨[u], []⟩ [(x, u)]) ∧
        ∀ base : Heap, (K w.params).In base → base.Ns mainGlobals mg →
          FnG l.prog w (K w.params) mg base (CX w) k fa fd [x] (sp w))
    (hsp : ∀ (w : World) (H : Hp) (a : Addr) (ns : List Int), ns.length ≤ n → Only H →
      SqL (K w.params) H a (ns.map V.int) → sp w [.ref a] H (fun v _ => v = .bl true) fun _ _ _ => False)
    (hCX : ∀ (w : World) (H : Hp) (s : Shared) (e : Value) (s' : Shared), CX w [] H s (fun _ _ _ => False) e s' → False) :
    PySem.W.WalkO q loose XP YP l.row.toRowW d [] (fun f vs => PySem.call f vs) := by
  refine Att.attach_call hn hdf ?_
  intro w s₀ s₁ mg mb fa o pm cd doc a vs ns G Y ho hd hcd hmg hobj hints hlen hg
  obtain ⟨fd, hb, hF⟩ := F w mg fa _ (hY w _ Y) G.T.g hmg
  exact law_callG (hY w _ Y) G.T.g G.T.b G.T.builtins G.T.nolimit hg hobj hints (Nat.le_trans hlen hn2) hr hF hb
    (fun H hO hS => hsp w H a ns hlen hO hS) (fun H e s' => hCX w H s₁ e s')
end Mq

namespace Mq
open PySem PySem.Spec PyProof.Rows L2

/-! ### repr of data, dicts among them -/
def keyD : Key → PyData
  | .inl i => .int i
  | .inr x => .str x
mutual
inductive Dg (K : PySem.W.Frag) (H : Hp) : V → PyData → Prop
  | non : Dg K H .non .none
  | bl (b : Bool) : Dg K H (.bl b) (.bool b)
  | int (i : Int) : Dg K H (.int i) (.int i)
  | str (x : Str) : Dg K H (.str x) (.str x)
  | lst {a : Addr} {xs : List V} {ds : List PyData} : a ≠ sysModules → SqL K H a xs → DgAll K H xs ds → Dg K H (.ref a) (.list ds)
  | tup {a : Addr} {xs : List V} {ds : List PyData} : SqT K H a xs → DgAll K H xs ds → Dg K H (.ref a) (.tuple ds)
  | dct {a : Addr} {kvs : List (Key × V)} {ds : List (PyData × PyData)} : H a = some (.dK kvs) → DgKv K H kvs ds → Dg K H (.ref a) (.dict ds)
inductive DgAll (K : PySem.W.Frag) (H : Hp) : List V → List PyData → Prop
  | nil : DgAll K H [] []
  | cons {v : V} {vs : List V} {d : PyData} {ds : List PyData} : Dg K H v d → DgAll K H vs ds → DgAll K H (v :: vs) (d :: ds)
inductive DgKv (K : PySem.W.Frag) (H : Hp) : List (Key × V) → List (PyData × PyData) → Prop
  | nil : DgKv K H [] []
  | cons {k : Key} {v : V} {vs : List (Key × V)} {d : PyData} {ds : List (PyData × PyData)} : Dg K H v d → DgKv K H vs ds → DgKv K H ((k, v) :: vs) ((keyD k, d) :: ds)
end
section
variable {X : Cx} {pins : List (Addr × Obj)} {σ : L2.St} {H : Hp} {s : Shared}
theorem reads_key {h : Heap} {k : Key} {u : Value} (e : keyIs k u = true) : Reads h u (keyD k) [] := by
  rcases keyIs_shape e with ⟨i, t, rfl, rfl⟩ | ⟨x, t, rfl, rfl⟩
  · exact Reads.int i t
  · exact Reads.str x t
mutual
theorem Dg.rd (I : Inv X pins σ H s) : ∀ {d : PyData} {v : V} {u : Value}, Dg X.K H v d → RelV v u →
    ∃ as, Reads s.heap u d as ∧ sysModules ∉ as
  | _, _, _, .non, r => by cases r; exact ⟨[], .none, fun h => by cases h⟩
  | _, _, _, .bl b, r => by cases r; exact ⟨[], .bool b, fun h => by cases h⟩
  | _, _, _, .int i, r => by obtain ⟨t, rfl⟩ := r; exact ⟨[], .int i t, fun h => by cases h⟩
  | _, _, _, .str x, r => by obtain ⟨t, rfl⟩ := r; exact ⟨[], .str x t, fun h => by cases h⟩
  | _, _, _, .lst ne hs ha, r => by
    cases r
    obtain ⟨its, rv, ⟨o, n, ho, hc, _, hd⟩, _⟩ := I.list hs
    obtain ⟨as, hr, hn⟩ := DgAll.rd I ha rv
    refine ⟨_, Reads.list ho hc hd hr, fun hm => ?_⟩
    rcases List.mem_cons.mp hm with e | e
    · exact ne e.symm
    · exact hn e
  | _, _, _, .tup hs ha, r => by
    cases r
    obtain ⟨its, rv, ⟨o, ho, hc, n, hd⟩, _⟩ := I.tuple hs
    obtain ⟨as, hr, hn⟩ := DgAll.rd I ha rv
    exact ⟨_, Reads.tuple ho hc hd hr, hn⟩
  | _, _, _, .dct (a := a) hs ha, r => by
    cases r
    obtain ⟨_, ns, us, rk, o, es, ep, ho, hx, hd, _, hp, _⟩ := I.hok a _ hs
    obtain ⟨as, bs, r1, r2, n1, n2⟩ := DgKv.rd I ha rk hp
    refine ⟨_, Reads.dict ho hx.1 hd r1 r2, fun hm => ?_⟩
    rcases List.mem_append.mp hm with hm | hm
    · rcases List.mem_cons.mp hm with e | e
      · rw [← e] at ns
        simp at ns
      · exact n1 e
    · exact n2 hm
theorem DgAll.rd (I : Inv X pins σ H s) : ∀ {ds : List PyData} {vs : List V} {us : List Value}, DgAll X.K H vs ds → Vals vs us →
    ∃ as, ReadsAll s.heap us ds as ∧ sysModules ∉ as
  | _, _, _, .nil, r => by cases r; exact ⟨[], .nil, fun h => by cases h⟩
  | _, _, _, .cons h1 h2, r => by
    cases r with
    | cons r1 r2 =>
      obtain ⟨as, q1, n1⟩ := Dg.rd I h1 r1
      obtain ⟨bs, q2, n2⟩ := DgAll.rd I h2 r2
      exact ⟨_, ReadsAll.cons q1 q2, fun hm => (List.mem_append.mp hm).elim n1 n2⟩
theorem DgKv.rd (I : Inv X pins σ H s) : ∀ {ds : List (PyData × PyData)} {vs : List (Key × V)} {us : List (Key × Value)} {es : List DictEntry}, DgKv X.K H vs ds → KV vs us →
    Pairs (mixKind X.prog X.w) es us →
    ∃ as bs, ReadsAll s.heap (es.map (·.key)) (ds.map (·.1)) as ∧ ReadsAll s.heap (es.map (·.val)) (ds.map (·.2)) bs ∧ sysModules ∉ as ∧ sysModules ∉ bs
  | _, _, _, _, .nil, r, p => by
    cases r
    cases p
    exact ⟨[], [], ReadsAll.nil, ReadsAll.nil, (fun h => by cases h), (fun h => by cases h)⟩
  | _, _, _, _, .cons h1 h2, r, p => by
    cases r with
    | cons r1 r2 =>
      cases p with
      | cons p3 p4 p2 =>
        obtain ⟨e1, e2⟩ := r1
        obtain ⟨as, q1, n1⟩ := Dg.rd I h1 e2
        obtain ⟨bs, cs, q2, q3, n2, n3⟩ := DgKv.rd I h2 r2 p2
        rw [← p4] at q1
        have p3' := p3
        rw [← e1] at p3'
        exact ⟨_, _, ReadsAll.cons (reads_key p3') q2, ReadsAll.cons q1 q3, fun hm => (List.mem_append.mp hm).elim (fun z => by cases z) n2,
          fun hm => (List.mem_append.mp hm).elim n1 n3⟩
end
/-- repr(v), v data -/
def rRep (K : PySem.W.Frag) : List V → Hp → VK → Prop := fun xs H Q => ∃ v d, xs = [v] ∧ Dg K H v d ∧ d.showable = true ∧
  d.depth ≤ 40 ∧ d.shown.length ≤ sizeLine ∧ Q (.str d.shown) H
theorem call_rep {k : Nat} (hr : Room k X.A) (gA : Still X.A) : CallR X (.builtin "repr") (rRep X.K) := by
  intro pins s σ H xs us Q I r h
  obtain ⟨v, d, rfl, hd, hs, hz, hl, q⟩ := h
  cases r with
  | cons rx rr =>
    cases rr
    have hu := hr.units
    obtain ⟨as, rd, hn⟩ := Dg.rd I hd rx
    have leaf : ∀ {d : PyData} {t : Tok}, Q (.str d.shown) H → EP X pins σ Q (.str d.shown t) { s with toks := s.toks + 1 } :=
      fun {d t} q => ⟨.str d.shown, H, I.tok _, ⟨_, rfl⟩, q⟩
    cases hd with
    | non =>
      cases rx
      exact PySem.P.repr_of_none (leaf (d := .none) q)
    | bl b =>
      cases rx
      exact PySem.P.repr_of_bool (leaf (d := .bool b) q)
    | int i =>
      obtain ⟨t, rfl⟩ := rx
      exact PySem.P.repr_of_int (by simpa [PyData.showable] using hs) (leaf (d := .int i) q)
    | str x =>
      obtain ⟨t, rfl⟩ := rx
      refine PySem.P.repr_of_str (leaf (d := .str x) q) ?_
      simpa only [PyData.shown] using hl
    | lst ne h1 h2 =>
      cases rx
      exact repr_of_reads' rd hs (fun _ => hn) gA (by omega) (fun _ _ e => e) (fun h' u tk k => ⟨.str _, H, I.kept k, ⟨_, rfl⟩, q⟩) hl
    | tup h1 h2 =>
      cases rx
      exact repr_of_reads' rd hs (fun _ => hn) gA (by omega) (fun _ _ e => e) (fun h' u tk k => ⟨.str _, H, I.kept k, ⟨_, rfl⟩, q⟩) hl
    | dct h1 h2 =>
      cases rx
      exact repr_of_reads' rd hs (fun _ => hn) gA (by omega) (fun _ _ e => e) (fun h' u tk k => ⟨.str _, H, I.kept k, ⟨_, rfl⟩, q⟩) hl
/-- no new object stands where the modules stand -/
theorem Inv.low (I : Inv X pins σ H s) : sysModules < s.heap.objs.size := by
  have h1 := I.mod.glob.lt
  have h2 := I.ok.bsz
  have h3 := I.sz
  have h4 : sysModules < mainGlobals := by decide
  exact Nat.lt_of_lt_of_le (Nat.lt_trans h4 h1) (Nat.le_trans h2 h3)
/-- a list display, told to stand elsewhere than the modules -/
def tLs (t : TA) : TE := fun σ H Q => t σ H fun xs H1 => xs.length ≤ sizeLine ∧ ∀ p, H1 p = none → p ≠ sysModules → Q (.ref p) (upd H1 p (.lst xs))
theorem pe_ls {es : List Expr} {t : TA} {pos : Pos} (h : PA X es t) : PE X (.List es pos) (tLs t) := by
  refine ⟨fun pins s σ H Q I hq => wpAny_List_spliced (thn (h.run pos pins s σ H _ I hq) ?_)⟩
  rintro us s1 ⟨xs, H1, I1, r, z, q⟩
  have hz : us.length ≤ sizeLine := by rw [← r.length]; exact z
  have nw : H1 s1.heap.objs.size = none := I1.hok.fresh (Nat.le_refl _)
  refine ⟨hz, .ref s1.heap.objs.size, upd H1 s1.heap.objs.size (.lst xs), ?_, rfl, q _ nw (Nat.ne_of_gt (Inv.low I1))⟩
  exact I1.laid (t' := s1.toks) (fun b u e => Heap.get?_push_of_some _ e) (Nat.le_refl _) ⟨z, us, 0, r, Heap.get?_push_size _ rfl⟩
end
end Mq

namespace Mq
open PySem PySem.Spec PyProof.Rows L2
open PySem.W (Frag)
open PySem.Builtin.ObjectAttr
/-! ### own errors over Exception, with one field -/
abbrev exTail : List Value := [.type "Exception", .type "BaseException", .type "object"]
section
variable {prog : Program} {w : World} {A : Around} {E : Value → Shared → Prop} {R : Result → Shared → Prop}
  {hp : Heap} {g : Array GenState} {d : Drawn} {t : Nat} {os : OsState} {K : Frag}
theorem osa_first {name : Str} {tk : Tok} {v : Value} {x C t1 : Addr} (X : K.In hp)
    (hx : hp.get? x = some (PySem.W.excObj C t1 none .none)) (ho : PySem.W.excOver K C exTail = true)
    (hh : PySem.W.hasDictIn K C = true) (ht : PySem.W.takerIn K C name = some none)
    (hq : ∀ h' tk' dx, (∀ b o, b ≠ x → hp.get? b = some o → h'.get? b = some o) → hp.objs.size ≤ dx → dx ≠ x →
      h'.get? x = some (PySem.W.excObj C t1 (some dx) .none) → h'.Ns1 dx (fun y => if y = name then some v else none) →
      R (.ok (.ret .none)) ⟨h', g, d, tk', os⟩) :
    codeAny (model prog w) A (.call (.builtin "object.__setattr__") ⟨[.ref x, .str name tk, v], []⟩) R ⟨hp, g, d, t, os⟩ := by
  refine PySem.W.osa_openX (od := none) (s := ⟨hp, g, d, t, os⟩) F.store_Exception X ⟨hx, rfl, rfl, trivial⟩ ho ht (fun b => ?_)
  obtain ⟨cd, hc, hd'⟩ := PySem.W.any_some hh
  refine wpAny_bind (wpAny_pure (wpAny_bind (PySem.W.instanceDict_exc hx (PySem.W.looks_clsIn X hc) hd' ?_)))
  show wpAny _ _ (storeInDict hp.objs.size (.str name tk) name v) _ _ _
  have hxs : x ≠ hp.objs.size := Nat.ne_of_lt (Heap.lt_size hx)
  have hx1 : (hp.push (PySem.W.dictOf [] 0)).get? x = some (PySem.W.excObj C t1 none .none) := Heap.get?_push_of_some _ hx
  refine PySem.HandSPX.store_in_new ?_ ?_
  · exact ⟨_, #[], _, (Heap.get?_update_ne _ _ _ _ hxs.symm).trans (Heap.get?_push_at rfl rfl), rfl, (fun e he => absurd he (by simp)), fun _ => rfl⟩
  · intro h' tk' hn' hs
    refine hq h' tk' hp.objs.size (fun b o hb ho => ?_) (Nat.le_refl _) hxs.symm ?_ hn'
    · exact (hs.2 b (Nat.ne_of_lt (Heap.lt_size ho))).trans ((Heap.get?_update_ne _ _ _ _ hb).trans (Heap.get?_push_of_some _ ho))
    · exact (hs.2 x hxs).trans (Heap.get?_update_self _ hx1 rfl)
end
end Mq

namespace Mq
open PySem PySem.Spec PyProof.Rows L2
/-! ### the error that a suite holds: its class, its field -/
/-- what the class at D says, so that isinstance asks its errors rightly -/
structure HeldC (K : PySem.W.Frag) (D : Addr) : Prop where
  cl : (PySem.W.clsIn K D).isSome = true
  ga : PySem.W.findIn K (.ref D) "__getattribute__" = some (some (.builtin "BaseException.__getattribute__"))
  gg : PySem.W.findIn K (.ref D) "__getattr__" = some none
  sb : PySem.W.subIn K (.ref D) (.type "BaseException") = some true
  ca : PySem.W.findIn K (.ref D) "__class__" = some (some (.builtin "object.__class__"))
  sp : PySem.W.specialIn K (.builtin "object.__class__") "__get__" = some (some (.builtin "getset_descriptor.__get__"))
  tk : PySem.W.takesIn K (.builtin "object.__class__") = some true
  mo : PySem.W.mroIn K D (.type "object") = some true
/-- isinstance(e, c), e the error at a -/
def rHeld (K : PySem.W.Frag) (D a : Addr) (d : Option Addr) : List V → Hp → VK → Prop := fun xs H Q => ∃ (dd c : Addr) (fs : List (Str × V)) (b : Bool),
  xs = [.ref a, .ref c] ∧ d = some dd ∧ H dd = some (.xd fs) ∧ PySem.W.kitOne K (.ref D) (.ref c) = some b ∧ Q (.bl b) H
theorem call_held {X : Cx} {a D : Addr} {oe : Obj} {d : Option Addr} {pn : List (Addr × Obj)} (C : HeldC X.K D) (hz : Zc (.ref D) d oe)
    (hf : ∃ vs, oe.data = .fields vs) : CallR (X.suite a ((a, oe) :: pn)) (.builtin "isinstance") (rHeld X.K D a d) := by
  intro pins s σ H xs us Q I r h
  obtain ⟨dd, c, fs, b, rfl, rfl, hd, e, q⟩ := h
  cases r with
  | cons rx rr =>
    cases rr with
    | cons rt rr =>
      cases rr
      cases rx
      cases rt
      obtain ⟨hget, _⟩ := I.pin (a, oe) (List.mem_append.mpr (Or.inl List.mem_cons_self))
      obtain ⟨vs, hv⟩ := hf
      obtain ⟨mA, ⟨od, es, ep, ho, _⟩, _⟩ := (show ObjOk X.prog X.w H s.heap dd (.xd fs) from I.hok dd _ hd)
      have J : PySem.W.InstAt s.heap a oe D (some od) := by
        refine ⟨hget, hz.1, ?_, ?_⟩
        · unfold PySem.W.notCls
          rw [hv]
        · rw [hz.2]
          exact ho
      refine PySem.W.kia_one (PySem.W.kitx_exc C.cl C.ga C.gg C.sb C.ca C.sp C.tk C.mo) I.kIn J e (fun z => by cases z) (fun tk => ?_)
      exact ⟨.bl b, H, I.kept (t' := tk) (fun _ _ z => z), rfl, q⟩
/-! ### methods that raise, called within a try -/
section
variable {X : Cx} {CX : CXT} {k : Nat} {f C : Addr} {fd : FuncData} {ps : List Str} {sp : Sp}
  {E : L2.St → XK} {m : Str} {pos apos : Pos} {e o : Expr} {es : List Expr} {kws : List Keyword} {ta : TE} {t tk : TA}
def tMethT (C : Addr) (m : Str) (sp : Sp) (E : L2.St → XK) (ta : TE) (t : TA) : TE := fun σ H Q => ta σ H fun x H1 => ∃ a dx fs,
  x = .ref a ∧ H1 a = some (.ins C dx fs) ∧ fs.lookup m = none ∧ t σ H1 fun vs H2 => sp (x :: vs) H2 Q (E σ)
theorem pe_methT {pl : Sem Bool} (he : PE X o ta) (c : Cls X.K C) (hm : Meth X.K C m f)
    (F : FnOk X.prog X.w X.K X.mg X.base CX k f fd ps sp) (hr : Room k X.A) (hb : Binds X.K fd ps [])
    (hx : ∀ σ, PassesAt CX X σ (E σ)) (ha : PA X (e :: es) t)
    (hst : starEach (e :: es) X.env = (false, eval e X.env) :: starEach es X.env := by rfl)
    (hpl : (backTo pos (starEach es X.env)).any (·.1) = false := by rfl)
    (ht : eval (.Call (.Attribute o m apos) (e :: es) [] pos) X.env = (do
      let ov ← eval o X.env
      standAt apos.atName
      let (f, first) ← holding [ov] (getMethod ov m pl)
      callWith pos f first (backTo pos (starEach (e :: es) X.env)) (backToKw pos (keywordEach [] X.env))) := by rfl) :
    PE X (.Call (.Attribute o m apos) (e :: es) [] pos) (tMethT C m sp E ta t) := by
  refine ⟨fun pins s σ H Q I h => PySem.W.methodCall_KW (pl := pl) (thn (he.run pins s σ H _ I h) ?_) ht⟩
  rintro u s1 ⟨x, H1, I1, rx, a, dx, fs, rfl, ea, l, q⟩
  cases rx
  refine getmeth_ok I1 ea c hm l ?_
  refine PySem.W.callWith_K (first := [.ref a]) (h₀ := X.base) I.ok.mod.kin hm.kp (thn (ha.run pos pins s1 σ H1 _ I1 q) ?_) hst hpl
  rintro us s2 ⟨vs, H2, I2, r, q2⟩
  exact ⟨I2.kIn, run_fnS (us := .ref a :: us) (vs := .ref a :: vs) F hr hb (hx σ) I2 (.cons rfl r) q2⟩
end
end Mq
namespace Mq
open PySem PySem.Spec PyProof.Rows L2
section
variable {X : Cx} {CX : CXT} {k : Nat} {f C : Addr} {fd : FuncData} {ps ks : List Str} {sp : Sp}
  {E : L2.St → XK} {m : Str} {pos apos : Pos} {o : Expr} {kws : List Keyword} {ta : TE} {tk : TA}
  {g : List Value → List Value → List Value} {gV : List V → List V → List V}
def tMethK (C : Addr) (m : Str) (many : Nat) (sp : Sp) (gV : List V → List V → List V) (E : L2.St → XK) (ta : TE) (tk : TA) : TE := fun σ H Q => ta σ H fun x H1 => ∃ a dx fs,
  x = .ref a ∧ H1 a = some (.ins C dx fs) ∧ fs.lookup m = none ∧ tk σ H1 fun zs H2 => zs.length = many ∧ sp (gV [x] zs) H2 Q (E σ)
/-- o.m(k = v, ..), what is raised being wished for at the slots as they stand -/
theorem pe_methK {pl : Sem Bool} (he : PE X o ta) (c : Cls X.K C) (hm : Meth X.K C m f)
    (F : FnOk X.prog X.w X.K X.mg X.base CX k f fd ps sp) (hr : Room k X.A) (hb : KBn X.K fd ps 1 ks g gV)
    (hx : ∀ σ, PassesAt CX X σ (E σ)) (hkw : PK X kws tk)
    (hall : (backToKw pos (keywordEach kws X.env)).all (·.1.isSome) = true := by rfl)
    (hks : (backToKw pos (keywordEach kws X.env)).filterMap (·.1) = ks := by rfl)
    (hpl : ((backTo pos (starEach [] X.env)).any (·.1) || (backToKw pos (keywordEach kws X.env)).any (·.1.isNone)) = false := by rfl)
    (ht : eval (.Call (.Attribute o m apos) [] kws pos) X.env = (do
      let ov ← eval o X.env
      standAt apos.atName
      let (f, first) ← holding [ov] (getMethod ov m pl)
      callWith pos f first (backTo pos (starEach [] X.env)) (backToKw pos (keywordEach kws X.env))) := by rfl) :
    PE X (.Call (.Attribute o m apos) [] kws pos) (tMethK C m ks.length sp gV E ta tk) := by
  refine ⟨fun pins s σ H Q I h => PySem.W.methodCall_KW (pl := pl) (thn (he.run pins s σ H _ I h) ?_) ht⟩
  rintro u s1 ⟨x, H1, I1, rx, a, dx, fs, rfl, ea, l, q⟩
  cases rx
  refine getmeth_ok I1 ea c hm l ?_
  refine PySem.W.callWith_KW0 (first := [.ref a]) (h₀ := X.base) I.ok.mod.kin hm.kp hall (thn (hkw.run pos pins s1 σ H1 _ I1 q) ?_) hpl
  rintro ws s2 ⟨zs, H2, I2, rz, hl, q2⟩
  refine ⟨I2.kIn, ?_⟩
  rw [hks]
  have r1 : Vals [V.ref a] [Value.ref a] := .cons rfl .nil
  have r2 := hb.rel r1 rz
  have lw : ws.length = ks.length := rz.length.symm.trans hl
  show wpAny _ _ (call (.ref f) [.ref a] (ks.zip ws)) _ _ _
  refine wpAny_call (codeAny_mono (F.run X.A X.stack s2 H2 ⟨[.ref a], ks.zip ws⟩ (g [.ref a] ws) (gV [.ref a] zs) Q (E σ) hr I2.env0
    (hb.to s2 [.ref a] ws I2.kIn rfl lw) r2 q2) (fun r s' hq => ?_))
  match r, hq with
  | .error er, hq => exact hx σ pins H2 s2 er s' I2 hq
  | .ok (.ret u), hq => exact I2.after hq
  | .ok .next, hq => exact hq.elim
  | .ok .brk, hq => exact hq.elim
  | .ok .cont, hq => exact hq.elim
end
end Mq

namespace Mq
open PySem PySem.Spec PyProof.Rows L2
open SX (S)
/-! ### what the module leaves of the built-in names -/
structure Blt (mg : Str → Option Value) : Prop where
  len : mg "len" = none
  range : mg "range" = none
  isi : mg "isinstance" = none
  all : mg "all" = none
  any : mg "any" = none
  int : mg "int" = none
  str : mg "str" = none
  bool : mg "bool" = none
  tuple : mg "tuple" = none
  list : mg "list" = none
  repr : mg "repr" = none
  enumerate : mg "enumerate" = none
/-! ### heaps that keep what was told -/
theorem same_new {H : Hp} {p : Addr} {o : HO} (h : H p = none) : Same H (upd H p o) := fun b u e => by
  rw [upd_ne (ne_of_none e h)]
  exact e
theorem Same.tup {K : PySem.W.Frag} {H H' : Hp} {a : Addr} {xs : List V} (e : Same H H') (h : SqT K H a xs) : SqT K H' a xs := by
  rcases h with (h | ⟨o, h⟩) | h
  · exact Or.inl (Or.inl (e _ _ h))
  · exact Or.inl (Or.inr ⟨o, e _ _ h⟩)
  · exact Or.inr h
mutual
theorem Dg.same {K : PySem.W.Frag} {H H' : Hp} (e : Same H H') : ∀ {v : V} {d : PyData}, Dg K H v d → Dg K H' v d
  | _, _, .non => .non
  | _, _, .bl b => .bl b
  | _, _, .int i => .int i
  | _, _, .str x => .str x
  | _, _, .lst n h a => .lst n (e.seq h) (DgAll.same e a)
  | _, _, .tup h a => .tup (Same.tup e h) (DgAll.same e a)
  | _, _, .dct h a => .dct (e _ _ h) (DgKv.same e a)
theorem DgAll.same {K : PySem.W.Frag} {H H' : Hp} (e : Same H H') : ∀ {v : List V} {d : List PyData}, DgAll K H v d → DgAll K H' v d
  | _, _, .nil => .nil
  | _, _, .cons a b => .cons (Dg.same e a) (DgAll.same e b)
theorem DgKv.same {K : PySem.W.Frag} {H H' : Hp} (e : Same H H') : ∀ {v : List (Key × V)} {d : List (PyData × PyData)}, DgKv K H v d → DgKv K H' v d
  | _, _, .nil => .nil
  | _, _, .cons a b => .cons (Dg.same e a) (DgKv.same e b)
end
mutual
theorem Dp.same {K : PySem.W.Frag} {H H' : Hp} (e : Same H H') : ∀ {v : V} {d : PyData}, Dp K H v d → Dp K H' v d
  | _, _, .non => .non
  | _, _, .bl b => .bl b
  | _, _, .int i => .int i
  | _, _, .str x => .str x
  | _, _, .lst h a => .lst (e.seq h) (DpAll.same e a)
  | _, _, .tup h a => .tup (Same.tup e h) (DpAll.same e a)
theorem DpAll.same {K : PySem.W.Frag} {H H' : Hp} (e : Same H H') : ∀ {v : List V} {d : List PyData}, DpAll K H v d → DpAll K H' v d
  | _, _, .nil => .nil
  | _, _, .cons a b => .cons (Dp.same e a) (DpAll.same e b)
end
/-! ### the kind of a value -/
def kindOf : PyData → String
  | .none => "NoneType"
  | .bool _ => "bool"
  | .int _ => "int"
  | .str _ => "str"
  | .list _ => "list"
  | .tuple _ => "tuple"
  | .dict _ => "dict"
theorem ty_list {K : PySem.W.Frag} {H : Hp} {a : Addr} {xs : List V} (h : SqL K H a xs) : TyX K H (.ref a) (.type "list") := by
  rcases h with (h | ⟨o, h⟩) | ⟨o, its, n, h, hc, _⟩
  · exact .base (.lst h)
  · exact .base (.frz h)
  · exact .kList h hc
theorem ty_tup {K : PySem.W.Frag} {H : Hp} {a : Addr} {xs : List V} (h : SqT K H a xs) : TyX K H (.ref a) (.type "tuple") := by
  rcases h with (h | ⟨o, h⟩) | ⟨o, its, n, h, hc, _⟩
  · exact .base (.tup h)
  · exact .fTuple h
  · exact .kTuple h hc
theorem Dg.ty {K : PySem.W.Frag} {H : Hp} {v : V} {d : PyData} (h : Dg K H v d) : TyX K H v (.type (kindOf d)) := by
  cases h with
  | non => exact .base .non
  | bl b => exact .base (.bl b)
  | int i => exact .base (.int i)
  | str x => exact .base (.str x)
  | lst _ h _ => exact ty_list h
  | tup h _ => exact ty_tup h
  | dct h _ => exact .base (.dK h)
theorem Dp.ty {K : PySem.W.Frag} {H : Hp} {v : V} {d : PyData} (h : Dp K H v d) : TyX K H v (.type (kindOf d)) := by
  cases h with
  | non => exact .base .non
  | bl b => exact .base (.bl b)
  | int i => exact .base (.int i)
  | str x => exact .base (.str x)
  | lst h _ => exact ty_list h
  | tup h _ => exact ty_tup h
/-- isinstance(x, T), T a built-in class -/
theorem isi_ty {K : PySem.W.Frag} {x : V} {a b : String} {r : Bool} {H : Hp} {Q : VK} (h : TyX K H x (.type a)) (e : kitB a b = some r) (q : Q (.bl r) H) :
    rIsi K [x, .ty b] H Q := ⟨x, .ty b, _, _, r, rfl, .ty b, h, kit_ty e, q⟩
theorem kit_known (a b : String) (ha : a ∈ ["NoneType", "bool", "int", "str", "list", "tuple", "dict"]) (hb : b ∈ ["str", "tuple", "list", "bool", "dict"]) :
    kitB a b = some (decide (a = b)) := by
  have h : (["NoneType", "bool", "int", "str", "list", "tuple", "dict"].all fun a => ["str", "tuple", "list", "bool", "dict"].all fun b =>
      decide (kitB a b = some (decide (a = b)))) = true := by decide +kernel
  have h1 := List.all_eq_true.mp h a ha
  have h2 := List.all_eq_true.mp h1 b hb
  exact of_decide_eq_true h2
theorem kind_in (d : PyData) : kindOf d ∈ ["NoneType", "bool", "int", "str", "list", "tuple", "dict"] := by
  cases d <;> simp [kindOf]
/-! ### comprehensions whose turns change nothing -/
theorem walk_rng {n : Nat} : Walk (Itr 0 n) n (fun _ => True) (YFn fun i => .int (i : Nat)) :=
  walk_range.mono (fun _ h => h) (fun i H x H' _ _ y => ⟨y.1, by rw [y.2]; show V.int (0 + (i : Int)) = V.int (i : Int); rw [Int.zero_add]⟩)
theorem lc_map {wi : TI} {J : It} {n : Nat} {G : Hp → Prop} {Y : Nat → Hp → V → Hp → Prop} (w : Walk J n G Y) {g : TG} {te : TE} {vs : List Nat} {σ : L2.St} {H0 : Hp} {Q : VK}
    (f : Nat → V) (hn : n ≤ 1000000) (hw : ∀ R : It → Hp → Prop, (∀ H, Same H0 H → G H → R J H) → wi σ H0 R) (hG : ∀ H H', Same H0 H → G H → Same H H' → G H')
    (hs : ∀ i x H H' (R : V → Hp → Prop), i < n → Same H0 H → Y i H x H' → (∀ H4, Same H H4 → R (f i) H4) →
      g x (wipe σ vs) H' fun σ2 H2 => wipe σ2 vs = wipe σ vs ∧ te σ2 H2 R)
    (hd : ∀ D H', H0 D = none → Same H0 H' → H' D = some (.lst ((List.range n).map f)) → Q (.ref D) H') : tLc wi g tYes te vs σ H0 Q := by
  refine hw _ (fun H sm0 hg0 D hD => ?_)
  have hD0 := sm0.free hD
  let Nx : Nat → Hp → Prop := fun i H' => Same H H' ∧ H' D = some (.lst ((List.range i).map f))
  refine ⟨fun i m H' => m = n - i ∧ i ≤ n ∧ Nx i H', ⟨n, by simp, Nat.zero_le _, same_new hD, upd_same⟩, ?_⟩
  rintro i m H' ⟨rfl, hi, sm, hl⟩
  have hg := hG H H' sm0 hg0 sm
  have sm' := sm0.trans sm
  by_cases hlt : i < n
  · refine Or.inr ⟨w.goes i H' hlt hg, Nx (i + 1), fun H'' p => ⟨n - (i + 1), by omega, rfl, hlt, p⟩, fun x H'' y => ?_⟩
    refine hs i x H' H'' _ hlt sm' (w.yields i H' x H'' hlt hg y) (fun H4 s4 => ?_)
    refine ⟨_, s4 D _ hl, ?_, fun b o e => ?_, ?_⟩
    · rw [List.length_map, List.length_range]
      exact Nat.lt_of_lt_of_le (Nat.lt_of_lt_of_le hlt hn) (by decide)
    · rw [upd_ne (ne_of_none e hD)]
      exact s4 b o (sm b o e)
    · rw [upd_same, List.range_succ, List.map_append]
      rfl
  · have e : i = n := by omega
    subst e
    exact Or.inl ⟨w.stops H' hg, hd D H' hD0 sm' hl⟩
end Mq

namespace Mq
open PySem PySem.Spec PyProof.Rows L2
/-! ### enumerate(v), v a tuple -/
theorem meets_enumT (l : Addr) (items : Array Value) :
    Meets (Builtin.«enumerate.__new__» ⟨[.type "enumerate", .ref l], []⟩) (fun _ R s => s.heap.IsTuple l items ∧
      R (.ok (.ret (.ref (s.heap.push { cls := .type "tuple_iterator", data := .fields #[.ref l, .int 0 0] }).objs.size)))
        { s with heap := (s.heap.push { cls := .type "tuple_iterator", data := .fields #[.ref l, .int 0 0] }).push { cls := .type "enumerate", data := .fields #[.none, .bool false, .ref s.heap.objs.size, rawInt 0, .none, .none] } }) :=
  .of_wp fun prog w A R s h => by
    obtain ⟨hp, g, d, tk, os⟩ := s; obtain ⟨hl, h⟩ := h
    have hsub := sub_enumerate
    have hL : Heap.IsTuple (Shared.heap ⟨hp, g, d, tk, os⟩) l items := hl
    obtain ⟨o, ho, _⟩ := id hl
    wp_walk using AutoSeq1.wpAny_loadPart' ho
    refine wpAny_stack_any fun st => wpAny_pure ?_
    split
    · rename_i c _ _ _ _ _
      cases (c == Value.type "enumerate")
      · wp_walk using AutoSeq1.wpAny_loadPart' ho, wpAny_pyIter_tuple hL
        exact ⟨_, rfl, h⟩
      · wp_walk using AutoSeq1.wpAny_loadPart' ho, wpAny_pyIter_tuple hL
        exact ⟨_, rfl, h⟩
    · wp_walk using AutoSeq1.wpAny_loadPart' ho, wpAny_pyIter_tuple hL
      exact ⟨_, rfl, h⟩
theorem call_enumT {prog : Program} {w : World} {A : Around} {E : Value → Shared → Prop} {s : Shared} {l : Addr} {items : Array Value} {Q : Value → Shared → Prop} (hL : s.heap.IsTuple l items)
    (h : ∀ h', IsEnum h' (s.heap.objs.size + 1) s.heap.objs.size 0 .none → h'.IsTupleIter s.heap.objs.size l 0 → h'.objs.size = s.heap.objs.size + 2 →
      (∀ b o, s.heap.get? b = some o → h'.get? b = some o) → Q (.ref (s.heap.objs.size + 1)) { s with heap := h' }) :
    wpAny (model prog w) A (call (.type "enumerate") [.ref l]) Q E s := by
  refine callType_new F.called_enumerate (by decide) (F.typeCall_enumerate_1 _) (F.newCall_enumerate_1 _) (fun obj => F.args_object_init_2 obj _) F.entry_enumerate_new
    (meets_enumT l items) ⟨hL, ?_⟩
  have hz : (s.heap.push { cls := .type "tuple_iterator", data := .fields #[.ref l, .int 0 0] }).objs.size = s.heap.objs.size + 1 := Heap.size_push ..
  show _ ∧ _
  rw [hz]
  have he : IsEnum ((s.heap.push { cls := .type "tuple_iterator", data := .fields #[.ref l, .int 0 0] }).push
      { cls := .type "enumerate", data := .fields #[.none, .bool false, .ref s.heap.objs.size, rawInt 0, .none, .none] }) (s.heap.objs.size + 1) s.heap.objs.size 0 .none := by
    have := Heap.get?_push_size (s.heap.push { cls := .type "tuple_iterator", data := .fields #[.ref l, .int 0 0] })
      (o := { cls := .type "enumerate", data := .fields #[.none, .bool false, .ref s.heap.objs.size, rawInt 0, .none, .none] }) rfl
    rw [hz] at this; exact this
  refine ⟨⟨_, he, rfl⟩, h _ he ⟨_, Heap.get?_push_of_some _ (Heap.get?_push_size _ rfl), rfl, rfl⟩ (by rw [Heap.size_push, hz]) fun b o x => Heap.get?_push_of_some _ (Heap.get?_push_of_some _ x)⟩
/-- the tuple at a, each item in a new pair -/
def Iee (K : PySem.W.Frag) (a : Addr) : It :=
  ⟨fun i H => ∃ (xs : List V) (x : V), SqT K H a xs ∧ xs[i]? = some x, fun i H v H' => ∃ T x, v = .ref T ∧ H T = none ∧ H' = upd H T (.tup [.int (i : Nat), x]) ∧ ∀ xs, SqT K H a xs → xs[i]? = some x, fun i H => ∃ xs : List V, SqT K H a xs ∧ xs.length ≤ i⟩
theorem turn_enumT {P : Program} {w : World} {K : PySem.W.Frag} {elts : List Expr} {kk : Nat} {tpos : Pos} (a e it : Addr) (ha : a ≠ it) (hae : a ≠ e) :
    Turn P w K (.Tuple elts kk tpos) (Iee K a) [e, it] e (fun i h => (∃ old, IsEnum h e it ((i : Nat) : Int) old) ∧ h.IsTupleIter it a i ∧ e ≠ it) where
  mem := by simp
  obj := fun i h st b hb => by
    obtain ⟨⟨old, he⟩, ⟨o, ho, hc, hd⟩, _⟩ := st
    have e' : b = e ∨ b = it := by simpa using hb
    rcases e' with z | z
    · rw [z]; exact ⟨_, he, fun v q => nomatch q⟩
    · rw [z]; exact ⟨o, ho, fun v q => by rw [hd] at q; cases q⟩
  keep := fun i h h' st k => let ⟨⟨old, he⟩, hi, hne⟩ := st; ⟨⟨old, k e (by simp) _ he⟩, hi.at fun o q => k it (by simp) o q, hne⟩
  item := by
    intro X hP hw hK hc i pins s σ H E I hf st hg
    subst hP hw hK
    obtain ⟨⟨old, he⟩, hit, hne⟩ := st
    obtain ⟨xs, x, hq, hx⟩ := hg
    obtain ⟨its, rv, p, hz⟩ := I.tuple hq
    obtain ⟨u, hu, ru⟩ := rv.get hx
    have hel : e < s.heap.objs.size := Heap.lt_size he
    have hil : it < s.heap.objs.size := by obtain ⟨_, q, _⟩ := hit; exact Heap.lt_size q
    have hp : s.heap.IsTuple a its.toArray := p
    have hu' : its.toArray[i]? = some u := by simpa using hu
    have hlt : i < its.toArray.size := by
      rw [List.size_toArray]
      rcases Nat.lt_or_ge i its.length with h | h
      · exact h
      · rw [List.getElem?_eq_none h] at hu
        cases hu
    refine wpAny_pyNext_enum_itemD (n := its.toArray.size) (Draws.tuple (show X.A.in1.handled = none from I.ok.hd hc) it a ha its.toArray) he ⟨hit, hp⟩ hlt hne (by simp only [List.mem_cons, List.not_mem_nil, or_false, not_or]; exact ⟨hne, fun z => hae z.symm⟩) fun x' h' tk hP' ho hst' hT hsz hk => ?_
    have ex : x' = u := by
      have h1 : some x' = some u := by rw [← hP', hu']
      exact Option.some.inj h1
    subst ex
    refine ⟨_, rfl, wpAny_letOwnedTupleGo_enum (s := { s with heap := h', toks := tk + 1 }) ho fun h'' he' sb => ?_⟩
    have hT2 : h''.get? s.heap.objs.size = some { cls := .type "tuple", data := .seq #[.int i tk, x'] } := (sb.2 _ (Nat.ne_of_gt hel)).trans hT
    have new : ObjOk X.prog X.w (upd H s.heap.objs.size (.tup [.int (i : Nat), x])) h'' s.heap.objs.size (.tup [.int (i : Nat), x]) :=
      ⟨by show 2 ≤ sizeLine; decide, [.int i tk, x'], .cons ⟨_, rfl⟩ (.cons ru .nil), ⟨_, hT2, rfl, _, rfl⟩⟩
    have I1 : Inv X pins σ (upd H s.heap.objs.size (.tup [.int (i : Nat), x])) { s with heap := h'', toks := tk + 1 } :=
      I.turnedNew (ch := [e, it]) (fun b ob hb q => (sb.2 b (fun z => hb (by simp [z]))).trans (hk b ob (fun z => hb (by simp [z])) (fun z => hb (by simp [z])) q)) hf (Nat.le_refl _) new
    refine ⟨.ref s.heap.objs.size, _, I1, rfl, ⟨_, x, rfl, I.hok.fresh (Nat.le_refl _), rfl, fun ys hy => by rw [I.tuple_inj hy hq]; exact hx⟩, ⟨⟨x', ?_⟩, hst'.1.at fun o q => (sb.2 it (Ne.symm hne)).trans q, hne⟩, fun b hb => ?_⟩
    · have e1 : ((i + 1 : Nat) : Int) = (i : Int) + 1 := by omega
      rw [e1]; exact he'
    · have hb' : b < s.heap.objs.size := by
        have e' : b = e ∨ b = it := by simpa using hb
        rcases e' with z | z
        · rw [z]; exact hel
        · rw [z]; exact hil
      rw [upd_ne (Nat.ne_of_lt hb')]
      exact (hf b hb).1
  done := by
    intro X hP hw hK hc i pins s σ H E I hf st hg
    subst hP hw hK
    obtain ⟨⟨old, he⟩, hit, hne⟩ := st
    obtain ⟨xs, hq, hx⟩ := hg
    obtain ⟨its, rv, p, hz⟩ := I.tuple hq
    obtain ⟨f0, f1, f2, f3, f4, f5⟩ := hf it (by simp)
    have hl := rv.length
    have hp : s.heap.IsTuple a its.toArray := p
    have D : Draws X.prog X.w X.A.in1 it [it, a] i (fun _ _ => False) (fun j h => j = i ∧ h.IsTupleIter it a i ∧ h.IsTuple a its.toArray) :=
      { live := fun _ _ st => let ⟨o, ho, _⟩ := st.2.1; ⟨o, ho⟩
        frame := fun _ _ _ st hk => ⟨st.1, st.2.1.at fun o e => hk it (by simp) o e, st.2.2.at fun o e => hk a (by simp) o e⟩
        item := fun j s Q E hi st hQ => absurd hi (by rw [st.1]; exact Nat.lt_irrefl i)
        done := fun s Q E st hE => wpAny_nextOf_tuple_end (show X.A.in1.handled = none from I.ok.hd hc) st.2.1 st.2.2 (by simp; omega) hE }
    exact wpAny_pyNext_enum_endD D he ⟨rfl, hit, hp⟩ fun h' eb => ⟨rfl, I.turned (t' := s.toks) (fun b o hb q => eb b o hb q) f0 f1 f3 f4 f5⟩
  self := fun A i s Q E st h => let ⟨⟨_, he⟩, _⟩ := st; wpAny_pyIter_enum he h
def iEnumT (K : PySem.W.Frag) (ta : TA) : TI := fun σ H R => ta σ H fun vs H1 => ∃ a xs, vs = [.ref a] ∧ SqT K H1 a xs ∧ R (Iee K a) H1
theorem pi_enumT {X : Cx} {e : Expr} {ta : TA} {p pos tpos : Pos} {elts : List Expr} {kk : Nat} (hg : Gl X "enumerate") (hm : X.mg "enumerate" = none) (ha : PA X [e] ta) (hs : starEach [e] X.env = [(false, eval e X.env)] := by rfl) :
    PI X (.Tuple elts kk tpos) (.Call (.Name "enumerate" p) [e] [] pos) (iEnumT X.K ta) := by
  refine ⟨fun pins s σ H R I h => ?_⟩
  refine Call_ (ld_blt I hg hm boot_enumerate (PyProof.Rows.callWith_type1 (thn (ha.run pos pins s σ H _ I h) fun us s1 ⟨vs, H1, I1, r1, q1⟩ => ?_) hs rfl))
  obtain ⟨a, xs, ex, hq, q⟩ := q1
  subst ex
  cases r1 with
  | cons r rr =>
    cases rr
    cases r
    obtain ⟨its, rv, p', hz⟩ := I1.tuple hq
    have hp : s1.heap.IsTuple a its.toArray := p'
    have hal : a < s1.heap.objs.size := by obtain ⟨_, q, _⟩ := hp; exact Heap.lt_size q
    refine call_enumT hp fun h' he hit hsz hk => wpAny_pyIter_enum he ?_
    have I2 : Inv X pins σ H1 { s1 with heap := h' } := I1.kept (t' := s1.toks) hk
    refine ⟨s1.heap.objs.size + 1, [s1.heap.objs.size + 1, s1.heap.objs.size], _, _, H1, rfl, I2, turn_enumT a (s1.heap.objs.size + 1) s1.heap.objs.size (Nat.ne_of_lt hal) (Nat.ne_of_lt (Nat.lt_succ_of_lt hal)), ⟨⟨.none, he⟩, hit, Nat.succ_ne_self _⟩, fun b hb => ?_, q⟩
    have e' : b = s1.heap.objs.size + 1 ∨ b = s1.heap.objs.size := by simpa using hb
    have hle : s1.heap.objs.size ≤ b := by
      rcases e' with z | z
      · rw [z]; exact Nat.le_add_right _ _
      · rw [z]; exact Nat.le_refl _
    exact I1.fpOk hle (I1.hok.fresh hle)
/-- the same, where what is walked is laid on the way -/
theorem lc_mapJ {wi : TI} {n : Nat} {Y : Nat → Hp → V → Hp → Prop} {g : TG} {te : TE} {vs : List Nat} {σ : L2.St} {H0 : Hp} {Q : VK}
    (f : Nat → V) (hn : n ≤ 1000000) (hw : ∀ R : It → Hp → Prop, (∀ (J : It) (G : Hp → Prop) (H : Hp), Walk J n G Y → (∀ H', G H → Same H H' → G H') → Same H0 H → G H → R J H) → wi σ H0 R)
    (hs : ∀ i x H H' (R : V → Hp → Prop), i < n → Same H0 H → Y i H x H' → (∀ H4, Same H H4 → R (f i) H4) →
      g x (wipe σ vs) H' fun σ2 H2 => wipe σ2 vs = wipe σ vs ∧ te σ2 H2 R)
    (hd : ∀ D H', H0 D = none → Same H0 H' → H' D = some (.lst ((List.range n).map f)) → Q (.ref D) H') : tLc wi g tYes te vs σ H0 Q := by
  refine hw _ (fun J G H w hG sm0 hg0 D hD => ?_)
  have hD0 := sm0.free hD
  let Nx : Nat → Hp → Prop := fun i H' => Same H H' ∧ H' D = some (.lst ((List.range i).map f))
  refine ⟨fun i m H' => m = n - i ∧ i ≤ n ∧ Nx i H', ⟨n, by simp, Nat.zero_le _, same_new hD, upd_same⟩, ?_⟩
  rintro i m H' ⟨rfl, hi, sm, hl⟩
  have hg := hG H' hg0 sm
  have sm' := sm0.trans sm
  by_cases hlt : i < n
  · refine Or.inr ⟨w.goes i H' hlt hg, Nx (i + 1), fun H'' p => ⟨n - (i + 1), by omega, rfl, hlt, p⟩, fun x H'' y => ?_⟩
    refine hs i x H' H'' _ hlt sm' (w.yields i H' x H'' hlt hg y) (fun H4 s4 => ?_)
    refine ⟨_, s4 D _ hl, ?_, fun b o e => ?_, ?_⟩
    · rw [List.length_map, List.length_range]
      exact Nat.lt_of_lt_of_le (Nat.lt_of_lt_of_le hlt hn) (by decide)
    · rw [upd_ne (ne_of_none e hD)]
      exact s4 b o (sm b o e)
    · rw [upd_same, List.range_succ, List.map_append]
      rfl
  · have e : i = n := by omega
    subst e
    exact Or.inl ⟨w.stops H' hg, hd D H' hD0 sm' hl⟩
end Mq

namespace Mq
open PySem PySem.Spec PyProof.Rows L2
/-- a comprehension without a test over what w walks -/
theorem lc_yes {J : It} {n : Nat} {G : Hp → Prop} {Y : Nat → Hp → V → Hp → Prop} (w : Walk J n G Y) {g : TG} {te : TE} {vs : List Nat} {σ : L2.St} {H1 : Hp} {D : Addr} {Qd : Hp → Prop} (Pv : Nat → Hp → Prop)
    (h0 : Pv 0 (upd H1 D (.lst []))) (hG : ∀ i H, i ≤ n → Pv i H → G H)
    (hs : ∀ i x H H', i < n → Pv i H → Y i H x H' → g x (wipe σ vs) H' fun σ2 H2 => wipe σ2 vs = wipe σ vs ∧ te σ2 H2 fun y H4 => ∃ acc, H4 D = some (.lst acc) ∧ acc.length < sizeLine ∧ Pv (i + 1) (upd H4 D (.lst (acc ++ [y]))))
    (hd : ∀ H, Pv n H → Qd H) :
    ∃ W : Nat → Nat → Hp → Prop, (∃ m, W 0 m (upd H1 D (.lst []))) ∧ ∀ i m H, W i m H →
      (J.stop i H ∧ Qd H) ∨ (J.go i H ∧ ∃ Nx : Hp → Prop, (∀ H', Nx H' → ∃ m', m' < m ∧ W (i + 1) m' H') ∧ ∀ x H', J.yld i H x H' → g x (wipe σ vs) H' fun σ2 H2 => wipe σ2 vs = wipe σ vs ∧ tYes σ2 H2 fun b H3 =>
        if b = true then te σ2 H3 fun y H4 => ∃ acc, H4 D = some (.lst acc) ∧ acc.length < sizeLine ∧ Nx (upd H4 D (.lst (acc ++ [y]))) else Nx H3) :=
  lc_it (tt := tYes) w Pv h0 hG hs hd
end Mq

namespace Mq
open PySem PySem.Spec PyProof.Rows L2
/-- isinstance(e, c), the held error's class being told among the values -/
theorem call_heldX {X : Cx} {a D : Addr} {oe : Obj} {cls : Value} {d : Option Addr} {pn : List (Addr × Obj)} (C : HeldC X.K D) (hz : Zc cls d oe)
    (hf : ∃ vs, oe.data = .fields vs) : CallR (X.suite a ((a, oe) :: pn)) (.builtin "isinstance") (fun xs H Q => cls = .ref D ∧ rHeld X.K D a d xs H Q) := by
  intro pins s σ H xs us Q I r h
  obtain ⟨rfl, h⟩ := h
  exact call_held C hz hf pins s σ H xs us Q I r h
/-! ### lists whose items are equal, told by != and == -/
theorem op_neFl {X : Cx} (hu : X.A.units + 64 < cLine) : OpR X (compareOp .NotEq) (fun x y H Q => ∃ a b xs, x = .ref a ∧ y = .ref b ∧ SqL X.K H a xs ∧ SqL X.K H b xs ∧ (∀ v ∈ xs, flatB v = true) ∧ Q (.bl false) H) := by
  intro pins s σ H x y v u Q I rx ry h
  obtain ⟨a, b, xs, rfl, rfl, ha, hb, hf, q⟩ := h
  cases (show v = Value.ref a from rx)
  cases (show u = Value.ref b from ry)
  obtain ⟨us, r1, p1, _⟩ := I.list ha
  obtain ⟨ws, r2, p2, _⟩ := I.list hb
  have hsz : us.toArray.size = ws.toArray.size := by
    rw [List.size_toArray, List.size_toArray, ← r1.length, ← r2.length]
  have he : ∀ j (h1 : j < us.toArray.size) (h2 : j < ws.toArray.size), SeqAt.EqAt X.A.in1 s us.toArray[j] ws.toArray[j] true := by
    intro j h1 h2
    have h1' : j < us.length := by simpa using h1
    have h2' : j < ws.length := by simpa using h2
    have e1 : xs.length = us.length := r1.length
    obtain ⟨u1, g1, k1⟩ := r1.get (i := j) (x := xs[j]'(by omega)) (List.getElem?_eq_getElem (by omega))
    obtain ⟨u2, g2, k2⟩ := r2.get (i := j) (x := xs[j]'(by omega)) (List.getElem?_eq_getElem (by omega))
    rw [List.getElem?_eq_getElem h1'] at g1
    rw [List.getElem?_eq_getElem h2'] at g2
    have k := eqAt_same (A := X.A.in1) (s := s) k1 k2 (hf _ (List.getElem_mem _))
    cases g1
    cases g2
    simpa using k
  have k := SeqAt.RcNeAt.lists (A := X.A) (s := s) (e := fun _ => true) p1.isList p2.isList hsz (by omega) he
  have z : (!(List.range us.toArray.size).all fun _ => true) = false := by rw [show ((List.range us.toArray.size).all fun _ => true) = true from List.all_eq_true.mpr fun _ _ => rfl]; rfl
  rw [z] at k
  exact k X.prog X.w _ _ ⟨.bl false, H, I, rfl, q⟩
/-- list(v), v a tuple: the new list is told to stand elsewhere than the modules -/
theorem call_lsN {X : Cx} : CallR X (.type "list") (fun xs H Q => ∃ p ys, xs = [.ref p] ∧ SqT X.K H p ys ∧ ∀ l, H l = none → l ≠ sysModules → Q (.ref l) (upd H l (.lst ys))) := by
  intro pins s σ H xs us Q I r hw
  obtain ⟨t, ys, rfl, ht, k⟩ := hw
  cases r with
  | cons r0 rr =>
    cases rr
    cases r0
    obtain ⟨its, rv, pl, hz⟩ := I.tuple ht
    have hlen := rv.length
    obtain ⟨o, ho, hc, n, hd⟩ := pl
    refine call_list_seq t (.inr rfl) ho hc hd (fun h2 c2 kp e => ?_) (by rw [List.size_toArray]; omega)
    have new : ObjOk X.prog X.w (upd H s.heap.objs.size (.lst ys)) h2 s.heap.objs.size (.lst ys) := ⟨hz, its, c2, rv, e⟩
    refine ⟨.ref _, upd H s.heap.objs.size (.lst ys), ?_, rfl, ?_⟩
    · exact I.laid (t' := s.toks) kp (Nat.le_refl _) new
    · exact k _ (I.hok.fresh (Nat.le_refl _)) (Nat.ne_of_gt (Inv.low I))
/-! ### how long what is shown can be -/
theorem small_short : ∀ n : Nat, n ≤ 1000 → (PyData.int (n : Nat)).shown.length ≤ 13 ∧ (PyData.int (n : Nat)).showable = true ∧ (PyData.int (n : Nat)).weight ≤ 20 := by
  have h : ((List.range 1001).all fun n => decide ((PyData.int (n : Nat)).shown.length ≤ 13) && ((PyData.int (n : Nat)).showable && decide ((PyData.int (n : Nat)).weight ≤ 20))) = true := by decide +kernel
  intro n hn
  have h1 := List.all_eq_true.mp h n (List.mem_range.mpr (by omega))
  obtain ⟨a, b⟩ := Bool.and_eq_true_iff.mp h1
  obtain ⟨b, c⟩ := Bool.and_eq_true_iff.mp b
  exact ⟨of_decide_eq_true a, b, of_decide_eq_true c⟩
theorem shown_fits {d : PyData} (h1 : d.canLay0 = true) (h2 : d.depth ≤ 64) (h3 : d.weight ≤ 1000000) (h4 : d.intsShort 13 = true) : d.shown.length ≤ sizeLine := by
  have h5 : d.weight ≤ 2 ^ 20 := Nat.le_trans h3 (by decide)
  have hl : PyData.layable0 d = true := by
    unfold PyData.layable0
    rw [h1, decide_eq_true h2, decide_eq_true h5]
    rfl
  exact Nat.le_trans (PyProof.Rows.shown_le13 hl h4) (by decide)
end Mq

namespace Mq
open PySem PySem.Spec PyProof.Rows L2
/-! ### a text, so many times -/
def repS (x : Str) (n : Nat) : Str := ⟨(List.replicate n x.cps).foldl (· ++ ·) #[]⟩
theorem op_mulS {X : Cx} : OpR X (binaryOp .Mult) (fun x y H Q => ∃ (z : Str) (n : Nat), x = .str z ∧ y = .int (n : Nat) ∧ 2 ≤ n ∧ n ≤ 1000 ∧ 1 ≤ z.length ∧ z.length ≤ 1000 ∧ (repS z n).length ≤ sizeLine ∧ Q (.str (repS z n)) H) := by
  intro pins s σ H x y v u Q I rx ry h
  obtain ⟨z, n, rfl, rfl, h1, h2, h3, h4, h5, q⟩ := h
  obtain ⟨t, rfl⟩ := rx
  obtain ⟨t', rfl⟩ := ry
  have hm : z.length * n ≤ 1000 * 1000 := Nat.mul_le_mul h4 h2
  have e1 : decide (((n : Nat) : Int) < -(2 ^ 63 : Int)) = false := decide_eq_false (by omega)
  have e2 : decide (((n : Nat) : Int) ≥ 2 ^ 63) = false := decide_eq_false (by omega)
  have e3 : (((n : Nat) : Int) == 1) = false := by
    rw [beq_eq_false_iff_ne]
    omega
  have e4 : (z.length == 0) = false := by
    rw [beq_eq_false_iff_ne]
    omega
  refine P.mul_str (by rw [e1, e2]; rfl) (fun _ _ => ?_) (fun _ _ => ?_) ?_
  · have hd : (1000 : Int) ≤ (2 ^ 63 - 1) / ((n : Nat) : Int) := by
      refine (Int.le_ediv_iff_mul_le (by omega)).mpr ?_
      omega
    omega
  · rw [Int.toNat_natCast]
    unfold Builtin.Str.tooLong
    exact decide_eq_false (by have : (1000 * 1000 : Nat) ≤ sizeLine := by decide
                              omega)
  · rw [if_neg (show ¬ ((n : Nat) : Int) < 1 by omega), e3, e4]
    exact ⟨h5, .str (repS z n), H, I.tok _, ⟨_, rfl⟩, q⟩
end Mq


namespace MqE_thing
open PySem PySem.Spec PyProof.Rows L2 Mq PySem.W PySem.Calls
/-! ### errors whose one parameter is thing -/
def iA (p1 p2 : Pos) : Arguments := { posonlyargs := [], args := [{ arg := "self", annotation := none, pos := p1 }, { arg := "thing", annotation := none, pos := p2 }], vararg := none, kwonlyargs := [], kw_defaults := [], kwarg := none, defaults := [] }
def iB (q1 q2 q3 q4 : Pos) : List Stmt := [.Assign [.Attribute (.Name "self" q1) "thing" q2] (.Name "thing" q3) q4]
def iS : Scope := { kind := .function, names := [(PySem.Str.ofString "self", .local), (PySem.Str.ofString "thing", .local)], isGenerator := false, isCoroutine := false, more := [] }
/-- what the written part says of the class x at C, and of its __init__ at fI -/
structure Txt (K : Frag) (mg : Str → Option Value) (x qual : Str) (C fI : Addr) : Prop where
  gC : mg x = some (.ref C)
  kC : keepIn K (.ref C) = true
  ex : excInitIn K C exTail "Exception.__new__" = true
  ov : excOver K C exTail = true
  hdC : hasDictIn K C = true
  tk : takerIn K C "thing" = some none
  sa : findIn K (.ref C) "__setattr__" = some (some (.builtin "object.__setattr__"))
  iC : findIn K (.ref C) "__init__" = some (some (.ref fI))
  tC : typeIn K (.ref fI) = some (.type "function")
  exC : subIn K (.ref C) (.type "BaseException") = some true
  tyC : typeIn K (.ref C) = some (.type "type")
  fn : ∃ (oc : Value) (od : Option Addr) (doc pm : Value) (an : Option Addr) (cdv ct : Value) (osl : Array (Option Value)) (p1 p2 q1 q2 q3 q4 : Pos),
    K.lookup fI = some ⟨oc, od, .func (fnOf "__init__" qual (iA p1 p2) (iB q1 q2 q3 q4) iS .none .none doc pm an cdv ct), osl⟩ ∧ codeIn K cdv qual = true
theorem ld_loc {M : Model} {s : Shared} {name : Str} {scope : Scope} {L a : Addr} {cd : Value} {m : Str → Option Value} {y : Str} {pos : Pos} {v : Value}
    {Q : Value → Shared → Prop} {A : Around} {E : Value → Shared → Prop} (hn : s.heap.Ns L m) (hv : m y = some v) (h : Q v s)
    (hk : scope.kind = .function := by rfl) (hl : (envOfC name scope L a cd).kindOf y = some .local := by rfl) (hd : (y == ("__debug__" : Str)) = false := by decide) :
    wpAny M A (eval (.Name y pos) (envOfC name scope L a cd)) Q E s := wpAny_Name (wpAny_loadName_local hk hl hn hv h) hd
/-- what __init__ leaves of a new error at e -/
structure Filled (h h' : Heap) (e C dx t1 : Addr) (v : Value) : Prop where
  keep : ∀ b o, b ≠ e → h.get? b = some o → h'.get? b = some o
  obj : h'.get? e = some (excObj C t1 (some dx) .none)
  big : h.objs.size ≤ dx
  ne : dx ≠ e
  ns : h'.Ns1 dx (fun y => if y = "thing" then some v else none)
/-- a made error -/
structure Made (h h' : Heap) (e C d : Addr) (v : Value) : Prop where
  keep : ∀ b o, h.get? b = some o → h'.get? b = some o
  new : h.objs.size ≤ e
  obj : ∃ oe vs, h'.get? e = some oe ∧ oe.cls = .ref C ∧ oe.dict = some d ∧ oe.data = .fields vs ∧ vs[1]? = some .none
  big : h.objs.size ≤ d
  ne : d ≠ e
  ns : h'.Ns1 d (fun y => if y = "thing" then some v else none)
section
variable {prog : Program} {w : World} {A : Around} {E : Value → Shared → Prop} {R : Result → Shared → Prop} {s : Shared} {K : Frag} {mg : Str → Option Value} {x qual : Str} {C fI : Addr}
theorem init_run (T : Txt K mg x qual C fI) {e t0 : Addr} {v : Value} (X : K.In s.heap) (lim : s.heap.NoLimit) (he : s.heap.get? e = some (excObj C t0 none .none)) (room : A.depth < recursionLimit)
    (hq : ∀ h' tk dx, Filled s.heap h' e C dx t0 v → R (.ok (.ret .none)) { s with heap := h', toks := tk }) :
    codeAny (model prog w) A (.call (.ref fI) ⟨[.ref e, v], []⟩) R s := by
  obtain ⟨oc, od, doc, pm, an, cdv, ct, osl, p1, p2, q1, q2, q3, q4, ho, hcd⟩ := T.fn
  refine Att.call_fn (binds := [("self", .ref e), ("thing", v)]) X lim ho hcd room (BindsTo.of_eq (by first | rfl | with_unfolding_all rfl)) (by first | rfl | decide | with_unfolding_all rfl) (fun s₁ IC => ?_) rfl rfl rfl
  obtain ⟨h₁, tk₁, rfl⟩ := IC.toInCall.same
  have k : ∀ b o, s.heap.get? b = some o → h₁.get? b = some o := IC.toInCall.keep
  have hn := IC.toInCall.ns
  have X₁ : K.In h₁ := X.keeps k
  have he₁ := k _ _ he
  show wpAny _ _ (execs _ _) _ _ _
  refine wpAny_execs_cons (plainObj_wpAny_Assign_Attribute ?_)
  refine ld_loc (v := v) hn (by first | rfl | with_unfolding_all rfl | kernel_rfl) (ld_loc (v := .ref e) hn (by first | rfl | with_unfolding_all rfl | kernel_rfl) ?_)
  refine set_plain X₁ (ox := excObj C t0 none .none) (od := none) ⟨he₁, rfl, rfl, trivial⟩ T.sa ?_
  refine osa_first X₁ he₁ T.ov T.hdC T.tk (fun h₃ tk₃ dx k₃ dn dne he₃ hn₃ => ?_)
  show wpAny _ _ (execs _ _) _ _ _
  have z : s.heap.objs.size < h₁.objs.size := hn.lt
  exact wpAny_execs_nil (hq h₃ tk₃ dx ⟨fun b o hb e => k₃ b o hb (k b o e), he₃, Nat.le_of_lt (Nat.lt_of_lt_of_le z dn), dne, hn₃⟩)
theorem made_run (T : Txt K mg x qual C fI) {v : Value} (X : K.In s.heap) (lim : s.heap.NoLimit) (room : A.depth + 1 < recursionLimit)
    (hq : ∀ h' tk e d, Made s.heap h' e C d v → R (.ok (.ret (.ref e))) { s with heap := h', toks := tk }) :
    codeAny (model prog w) A (.call (.ref C) ⟨[v], []⟩) R s := by
  obtain ⟨nm, N, qn, bs, bm, hdct, sn, sub, ab, col, dd, k0, k1, k2, k3, k5, hC, hT⟩ := excInit_of X T.ex
  obtain ⟨hp, g, dr, tk, os⟩ := s
  have k : ∀ b o, hp.get? b = some o → ((hp.push (kdv_tup [v])).push (HandSPX.excO C hp.objs.size)).get? b = some o := fun b o e => Heap.get?_push_of_some _ (Heap.get?_push_of_some _ e)
  have hget : ((hp.push (kdv_tup [v])).push (HandSPX.excO C hp.objs.size)).get? (hp.objs.size + 1) = some (excObj C hp.objs.size none .none) := by heap_get
  refine HandSPX.call_own F.excBase_Exception hT hC (looks_findIn X T.iC) (fun self => bind_fn X self T.tC) (by rw [sizeLine_eq]; exact (by decide : 1 ≤ 16777216)) ?_
  refine init_run (s := ⟨(hp.push (kdv_tup [v])).push (HandSPX.excO C hp.objs.size), g, dr, tk, os⟩) T (X.keeps k) (lim.keeps k) hget ?_ (fun h' tk' dx M => ?_)
  · show A.depth + 1 < recursionLimit
    exact room
  · obtain ⟨k', hx, dn, dne, hns⟩ := M
    have old : ∀ b o, hp.get? b = some o → h'.get? b = some o := fun b o e => k' b o (Nat.ne_of_lt (Nat.lt_succ_of_lt (Heap.lt_size e))) (k b o e)
    have z : hp.objs.size + 1 + 1 ≤ dx := by
      have q := dn
      rw [Heap.size_push, Heap.size_push] at q
      exact q
    exact ⟨rfl, hq h' tk' (hp.objs.size + 1) dx ⟨old, Nat.le_succ _, ⟨_, _, hx, rfl, rfl, rfl, rfl⟩, Nat.le_trans (Nat.le_trans (Nat.le_succ _) (Nat.le_succ _)) z, dne, hns⟩⟩
end
theorem relO_f {v : V} {v' : Value} (r : RelV v v') (f : Str) : RelO (List.lookup f [(("thing" : Str), v)]) (if f = "thing" then some v' else none) := by
  by_cases hw : f = "thing"
  · subst hw
    rw [if_pos rfl]
    have q : List.lookup ("thing" : Str) [(("thing" : Str), v)] = some v := by simp [List.lookup]
    rw [q]
    exact r
  · rw [if_neg hw]
    have qw : (f == ("thing" : Str)) = false := by simpa using hw
    have q2 : List.lookup f [(("thing" : Str), v)] = none := by simp [List.lookup, qw]
    rw [q2]
    trivial
section
variable {X : Cx} {C fI : Addr} {x qual : Str}
/-- x(e) -/
def tMk (C : Addr) (ta : TA) : L2.St → Hp → XK → Prop := fun σ H Q => ta σ H fun vs H1 => ∃ v, vs = [v] ∧ ∀ d, H1 d = none → Q (.ref C) (some d) (upd H1 d (.xd [(("thing" : Str), v)]))
theorem pmk {a : Expr} {ta : TA} {p pos : Pos} {k : Nat} (T : Txt X.K X.mg x qual C fI) (hr : Room k X.A) (ha : PA X [a] ta) (hg : Gl X x := by rfl) (hdb : (x == ("__debug__" : Str)) = false := by decide)
    (he : starEach (a :: []) X.env = (false, eval a X.env) :: starEach [] X.env := by rfl) (hpl : (backTo pos (starEach [] X.env)).any (·.1) = false := by rfl) :
    PMk X (.Call (.Name x p) [a] [] pos) (tMk C ta) := by
  intro pins s σ H Q I h
  refine wpAny_Call_Name_kw (ld_glob I hg T.gC ?_ hdb)
  refine callWith_K (h₀ := X.base) I.ok.mod.kin T.kC (thn (ha.run pos pins s σ H _ I h) fun us s1 hh => ?_) he hpl
  obtain ⟨vs, H1, I1, r1, v, ev, q1⟩ := hh
  subst ev
  refine ⟨I1.kIn, ?_⟩
  cases r1 with
  | cons rv rn =>
    rename_i v' us'
    cases rn
    show wpAny _ _ (call (.ref C) [v']) _ _ _
    have hlim := I1.nolimit
    obtain ⟨hp, g, dr, tk, os⟩ := s1
    refine wpAny_call (made_run T I1.kIn hlim (by have := hr.dp; omega) (fun h' tk' e d M => ?_))
    show MkP X pins σ Q (.ref e) ⟨h', g, dr, tk', os⟩
    obtain ⟨oe, fv, hoe, hc, hd, hdat, h1⟩ := M.obj
    have hns := M.ns
    obtain ⟨G', g1, g2⟩ := restrict h' fun b => decide (b ≠ e)
    have gk : ∀ b, b ≠ e → G'.get? b = h'.get? b := fun b hb => g1 b (decide_eq_true hb)
    have ge : G'.get? e = none := g2 e (by simp)
    have old : ∀ b o, hp.get? b = some o → G'.get? b = some o := fun b o q => (gk b (Nat.ne_of_lt (Nat.lt_of_lt_of_le (Heap.lt_size q) M.new))).trans (M.keep b o q)
    have ob : ObjOk X.prog X.w (upd H1 d (.xd [(("thing" : Str), v)])) G' d (.xd [(("thing" : Str), v)]) :=
      ⟨_, hns.at (fun o q => (gk d M.ne).trans q), fun f => relO_f rv f⟩
    have J : L2.Inv X pins σ (upd H1 d (.xd [(("thing" : Str), v)])) ⟨G', g, dr, tk', os⟩ := I1.laid (t' := tk') old M.big ob
    refine ⟨e, oe, fv, ⟨G', g, dr, tk', os⟩, _, .ref C, some d, rfl, J, (fun b o q => ?_), ge, hoe, ⟨hc, hd⟩, hdat, h1, ?_, rfl, I1.bare, raises_own T.exC T.tyC, q1 d (I1.hok.fresh M.big)⟩
    · by_cases hb : b = e
      · have q' : G'.get? b = some o := q
        rw [hb, ge] at q'
        cases q'
      · exact (gk b hb).symm.trans q
    · rw [upd_ne (Ne.symm M.ne)]
      exact I1.hok.fresh M.new
/-- raise x(e) -/
def tRaise (C : Addr) (W : WX) (ta : TA) : TS := fun _ σ H => tMk C ta σ H fun cls d H' => W cls d σ H'
theorem ps_raise {a : Expr} {ta : TA} {W : WX} {p pos pos2 : Pos} {k : Nat} (hc : X.calm = true) (T : Txt X.K X.mg x qual C fI) (hr : Room k X.A) (tk : Takes X W) (ha : PA X [a] ta) (hg : Gl X x := by rfl) (hdb : (x == ("__debug__" : Str)) = false := by decide)
    (he : starEach (a :: []) X.env = (false, eval a X.env) :: starEach [] X.env := by rfl) (hpl : (backTo pos (starEach [] X.env)).any (·.1) = false := by rfl) :
    PS X (.Raise (some (.Call (.Name x p) [a] [] pos)) none pos2) (tRaise C W ta) := L2.ps_raise hc tk (pmk T hr ha hg hdb he hpl)
end
end MqE_thing

namespace Lw
open PySem PySem.Spec PyProof.Rows L2 Mq
/-! ### where the defs stand -/
def topS (i : Nat) : Stmt := PySem.Challenge.pw_millhands_k01_books_of_any_values.main.body.getD i (.Pass ⟨0, 0, 0, 0⟩)
abbrev s_BadBook___init__ : Stmt := inClass (topS 2) 0
theorem sc_BadBook___init__ : FnScope ["self", "part"] ["self", "part"] (defScope s_BadBook___init__) := ⟨rfl, rfl, rfl, by decide +kernel, rfl, by decide +kernel, by decide +kernel⟩
abbrev s_BadText___init__ : Stmt := inClass (topS 3) 0
theorem sc_BadText___init__ : FnScope ["self", "line"] ["self", "line"] (defScope s_BadText___init__) := ⟨rfl, rfl, rfl, by decide +kernel, rfl, by decide +kernel, by decide +kernel⟩
abbrev s_is_letters : Stmt := topS 6
theorem sc_is_letters : FnScope ["thing", "letter"] ["thing"] (defScope s_is_letters) := ⟨rfl, rfl, rfl, by decide +kernel, rfl, by decide +kernel, by decide +kernel⟩
abbrev s_is_letter : Stmt := topS 7
theorem sc_is_letter : FnScope ["letters", "thing"] ["letters", "thing"] (defScope s_is_letter) := ⟨rfl, rfl, rfl, by decide +kernel, rfl, by decide +kernel, by decide +kernel⟩
abbrev s_is_ascending : Stmt := topS 8
theorem sc_is_ascending : FnScope ["parts", "k"] ["parts"] (defScope s_is_ascending) := ⟨rfl, rfl, rfl, by decide +kernel, rfl, by decide +kernel, by decide +kernel⟩
abbrev s_text_parts : Stmt := topS 9
theorem sc_text_parts : FnScope ["word", "text", "lines", "words"] ["word", "text"] (defScope s_text_parts) := ⟨rfl, rfl, rfl, by decide +kernel, rfl, by decide +kernel, by decide +kernel⟩
abbrev s_Book___init__ : Stmt := inClass (topS 11) 0
theorem sc_Book___init__ : FnScope ["self", "letters", "folds", "table", "ahead", "number", "fold"] ["self", "letters", "folds"] (defScope s_Book___init__) := ⟨rfl, rfl, rfl, by decide +kernel, rfl, by decide +kernel, by decide +kernel⟩
abbrev s_Book___len__ : Stmt := inClass (topS 11) 1
theorem sc_Book___len__ : FnScope ["self"] ["self"] (defScope s_Book___len__) := ⟨rfl, rfl, rfl, by decide +kernel, rfl, by decide +kernel, by decide +kernel⟩
abbrev s_Book___eq__ : Stmt := inClass (topS 11) 2
theorem sc_Book___eq__ : FnScope ["self", "other"] ["self", "other"] (defScope s_Book___eq__) := ⟨rfl, rfl, rfl, by decide +kernel, rfl, by decide +kernel, by decide +kernel⟩
abbrev s_Book___str__ : Stmt := inClass (topS 11) 3
theorem sc_Book___str__ : FnScope ["self", "lines", "last", "laid", "left"] ["self"] (defScope s_Book___str__) := ⟨rfl, rfl, rfl, by decide +kernel, rfl, by decide +kernel, by decide +kernel⟩
abbrev s_Book_read : Stmt := inClass (topS 11) 4
theorem sc_Book_read : FnScope ["cls", "text", "letters", "lines", "folds", "line", "fold"] ["cls", "text"] (defScope s_Book_read) := ⟨rfl, rfl, rfl, by decide +kernel, rfl, by decide +kernel, by decide +kernel⟩
abbrev s_Book_left_of : Stmt := inClass (topS 11) 5
theorem sc_Book_left_of : FnScope ["self", "last", "laid"] ["self", "last", "laid"] (defScope s_Book_left_of) := ⟨rfl, rfl, rfl, by decide +kernel, rfl, by decide +kernel, by decide +kernel⟩
abbrev s_is_fold : Stmt := topS 12
theorem sc_is_fold : FnScope ["letters", "thing"] ["letters", "thing"] (defScope s_is_fold) := ⟨rfl, rfl, rfl, by decide +kernel, rfl, by decide +kernel, by decide +kernel⟩
abbrev s_fold_read : Stmt := topS 13
theorem sc_fold_read : FnScope ["letters", "line", "words", "fold"] ["letters", "line"] (defScope s_fold_read) := ⟨rfl, rfl, rfl, by decide +kernel, rfl, by decide +kernel, by decide +kernel⟩
abbrev s__law_deck : Stmt := topS 15
theorem sc__law_deck : FnScope ["_law_script", "_law_cells", "_law_mixed", "_law_cell"] ["_law_script"] (defScope s__law_deck) := ⟨rfl, rfl, rfl, by decide +kernel, rfl, by decide +kernel, by decide +kernel⟩
abbrev s__law_draw : Stmt := topS 16
theorem sc__law_draw : FnScope ["_law_deck_here", "_law_below", "_law_mixed", "_law_cell"] ["_law_deck_here", "_law_below"] (defScope s__law_draw) := ⟨rfl, rfl, rfl, by decide +kernel, rfl, by decide +kernel, by decide +kernel⟩
abbrev s__law_pick : Stmt := topS 17
theorem sc__law_pick : FnScope ["_law_deck_here", "_law_some"] ["_law_deck_here", "_law_some"] (defScope s__law_pick) := ⟨rfl, rfl, rfl, by decide +kernel, rfl, by decide +kernel, by decide +kernel⟩
abbrev s__law_folds : Stmt := topS 18
theorem sc__law_folds : FnScope ["_law_deck_here", "_law_letters", "_law_some", "_law_menu", "_law_found", "_law_x", "_law_y", "_law_it"] ["_law_deck_here", "_law_letters"] (defScope s__law_folds) := ⟨rfl, rfl, rfl, by decide +kernel, rfl, by decide +kernel, by decide +kernel⟩
abbrev s__law_are_letters : Stmt := topS 19
theorem sc__law_are_letters : FnScope ["_law_it", "_law_x"] ["_law_it"] (defScope s__law_are_letters) := ⟨rfl, rfl, rfl, by decide +kernel, rfl, by decide +kernel, by decide +kernel⟩
abbrev s__law_is_fold : Stmt := topS 20
theorem sc__law_is_fold : FnScope ["_law_letters", "_law_it", "_law_x"] ["_law_letters", "_law_it"] (defScope s__law_is_fold) := ⟨rfl, rfl, rfl, by decide +kernel, rfl, by decide +kernel, by decide +kernel⟩
abbrev s__law_due : Stmt := topS 21
theorem sc__law_due : FnScope ["_law_letters", "_law_folds_here", "_law_k", "_law_it"] ["_law_letters", "_law_folds_here"] (defScope s__law_due) := ⟨rfl, rfl, rfl, by decide +kernel, rfl, by decide +kernel, by decide +kernel⟩
abbrev s__law_odd : Stmt := topS 22
theorem sc__law_odd : FnScope ["_law_deck_here", "_law_it", "_law_some"] ["_law_deck_here", "_law_it"] (defScope s__law_odd) := ⟨rfl, rfl, rfl, by decide +kernel, rfl, by decide +kernel, by decide +kernel⟩
abbrev s__law_bent : Stmt := topS 23
theorem sc__law_bent : FnScope ["_law_deck_here", "_law_it", "_law_at", "_law_way"] ["_law_deck_here", "_law_it"] (defScope s__law_bent) := ⟨rfl, rfl, rfl, by decide +kernel, rfl, by decide +kernel, by decide +kernel⟩
abbrev s__law_heard : Stmt := topS 24
theorem sc__law_heard : FnScope ["_law_letters", "_law_folds_here", "_law_is_named", "_law_found", "_law_code", "e"] ["_law_letters", "_law_folds_here", "_law_is_named"] (defScope s__law_heard) := ⟨rfl, rfl, rfl, by decide +kernel, rfl, by decide +kernel, by decide +kernel⟩
abbrev s__law_made_right : Stmt := topS 25
theorem sc__law_made_right : FnScope ["_law_letters", "_law_folds_here", "_law_wrong", "_law_was", "_law_due_here", "_law_told"] ["_law_letters", "_law_folds_here"] (defScope s__law_made_right) := ⟨rfl, rfl, rfl, by decide +kernel, rfl, by decide +kernel, by decide +kernel⟩
abbrev s__law_kept_right : Stmt := topS 26
theorem sc__law_kept_right : FnScope ["_law_letters", "_law_folds_here", "_law_mate", "_law_code", "_law_other", "_law_left", "_law_x", "_law_y", "_law_it", "_law_told", "_law_is_like"] ["_law_letters", "_law_folds_here", "_law_mate"] (defScope s__law_kept_right) := ⟨rfl, rfl, rfl, by decide +kernel, rfl, by decide +kernel, by decide +kernel⟩
abbrev s__law_wide_right : Stmt := topS 27
theorem sc__law_wide_right : FnScope ["_law_signs", "_law_folds_here", "_law_code"] [] (defScope s__law_wide_right) := ⟨rfl, rfl, rfl, by decide +kernel, rfl, by decide +kernel, by decide +kernel⟩
abbrev s_law : Stmt := topS 28
theorem sc_law : FnScope ["_law_script", "_law_deck_here", "_law_go", "_law_letters", "_law_folds_here", "_law_mate", "_law_turn", "_law_parts"] ["_law_script"] (defScope s_law) := ⟨rfl, rfl, rfl, by decide +kernel, rfl, by decide +kernel, by decide +kernel⟩
end Lw

namespace Lw
open PySem PySem.Spec PyProof.Rows L2 Mq
open SX (S)
/-! ### letters -/
def ascB (l : List Nat) : Bool := ((List.range (l.length - 1)).map fun k => decide (l.getD k 0 < l.getD (k + 1) 0)).all id
theorem lt_sign (c d : Nat) : decide ((S [c]).cps.toList < (S [d]).cps.toList) = decide (c < d) := by
  have h : ((S [c]).cps.toList < (S [d]).cps.toList) ↔ c < d := by
    show ([c] : List Nat) < [d] ↔ c < d
    rw [List.cons_lt_cons_iff]
    simp
  exact decide_eq_decide.mpr h
theorem sz_le {n : Nat} (h : n ≤ 1000000) : n ≤ sizeLine := Nat.le_trans h (by decide)
theorem sz_lt {n : Nat} (h : n ≤ 1000000) : n < sizeLine := Nat.lt_of_le_of_lt h (by decide)
theorem at_get {l : List Nat} {k : Nat} (h : k < l.length) : atI (S l).cps.toList (k : Int) = some (l.getD k 0) := by
  refine atI_nat ?_
  show l[k]? = _
  rw [List.getElem?_eq_getElem h, List.getD_eq_getElem?_getD, List.getElem?_eq_getElem h]
  rfl
theorem ix_sign {l : List Nat} {k : Nat} {H : Hp} {Q : VK} (hl : l.length ≤ 100000) (h : k < l.length) (q : Q (.str (S [l.getD k 0])) H) : rIxS (.str (S l)) (.int (k : Int)) H Q :=
  ⟨S l, (k : Int), l.getD k 0, rfl, rfl, sz_le (by rw [SX.S_len]; omega), at_get h, q⟩
theorem len_S {K : PySem.W.Frag} {H : Hp} {l : List Nat} (hl : l.length ≤ 100000) : LenV K (.str (S l)) H (l.length : Nat) := by
  have hz := SX.S_len l
  refine ⟨?_, ?_⟩
  · rw [hz]
    exact sz_le (by omega)
  · rw [hz]
def spAsc : Sp := fun vs H Q _ => ∃ l : List Nat, vs = [.str (S l)] ∧ l.length ≤ 100000 ∧ ∀ H', Same H H' → Q (.bl (ascB l)) H'
section
variable {P : Program} {w : World} {K : PySem.W.Frag} {mg : Str → Option Value} {base : Heap}
theorem ok_is_ascending {f : Addr} {fd : FuncData} (F : Fun K "is_ascending" "is_ascending" s_is_ascending f fd) (B : Blt mg) :
    FnOk P w K mg base CX0 1 f fd ["parts"] spAsc := by
  refine F.ok sc_is_ascending (fun vs H Q E h => ?_) (fun cdv A outer s H vs Q E hr h => ?_)
  · obtain ⟨l, rfl, _⟩ := h
    rfl
  · obtain ⟨l, rfl, hl, q⟩ := h
    have hz : (S l).length = l.length := SX.S_len l
    refine ⟨_, pss_one (ps_ret (pe_callB (cr_all rfl) (by rfl) B.all (by decide +kernel) (pa_cons (pe_lc (own := [("k", 1)]) (g := gName 1) (tt := tYes) rfl sc_is_ascending.nd
      (pi_range1 (by rfl) B.range (pa_cons (pe_op op_sub (pe_callB call_len (by rfl) B.len (by decide +kernel) (pa_cons (pv 0) pa_nil)) pe_int) pa_nil))
      (blkOk_by (own := [("k", 1)]) (N := ["parts", "k"]) (sc := defScope s_is_ascending) (by decide +kernel)) (fun _ _ _ _ _ => pg_name (i := 1) sc_is_ascending.nd rfl (Or.inl rfl)) (fun _ _ _ _ _ => pts_nil)
      (fun _ _ _ _ _ => pe_cmpR op_lt_str (pe_ix ix_str (pv 0) (pv 1) (fun _ _ => rfl)) (pe_ix ix_str (pv 0) (pe_op op_add (pv 1) pe_int) (fun _ _ => rfl)) (nomark _))) pa_nil))), ?_⟩
    have e1 : ((l.length : Int) - 1).toNat = l.length - 1 := by omega
    unfold tRet tCB tCons
    refine lc_map (n := l.length - 1) walk_rng (fun k => .bl (decide (l.getD k 0 < l.getD (k + 1) 0))) (by omega) (fun R k => ?_) (fun _ _ _ _ _ => trivial) ?_ ?_
    · refine ⟨.str (S l), rfl, .str (S l), l.length, rfl, len_S hl, _, _, rfl, rfl, (l.length : Int) - 1, rfl, by omega, by omega, ?_⟩
      rw [e1]
      exact k _ (Same.refl _) trivial
    · rintro i x H' H'' R hi sm ⟨rfl, rfl⟩ k
      refine ⟨rfl, .str (S l), rfl, .int (i : Nat), rfl, ?_⟩
      refine ix_sign hl (by omega) ⟨.str (S l), rfl, .int (i : Nat), rfl, _, _, rfl, rfl, ?_⟩
      refine ix_sign (k := i + 1) hl (by omega) ?_
      refine ⟨S [l.getD i 0], S [l.getD (i + 1) 0], rfl, rfl, ?_⟩
      rw [lt_sign]
      exact k _ (Same.refl _)
    · intro D H' hD sm hl'
      refine ⟨D, (List.range (l.length - 1)).map fun k => decide (l.getD k 0 < l.getD (k + 1) 0), rfl, SqL.of ?_, q H' sm⟩
      rw [List.map_map]
      exact hl'
end
end Lw

namespace Lw
open PySem PySem.Spec PyProof.Rows L2 Mq
open SX (S)
def alpha : List Nat := List.range' 97 26
theorem alpha_is : ("abcdefghijklmnopqrstuvwxyz" : Str) = S alpha := by decide +kernel
def inB (c : Nat) (l : List Nat) : Bool := decide (c ∈ l)
def allB (l s : List Nat) : Bool := ((List.range l.length).map fun k => inB (l.getD k 0) s).all id
def lettersB (l : List Nat) : Bool := !decide (l = []) && (ascB l && allB l alpha)
/-- a value of a known kind that is no text -/
def NoStr (K : PySem.W.Frag) (H : Hp) (v : V) : Prop := ∃ a, TyX K H v (.type a) ∧ a ∈ ["NoneType", "bool", "int", "str", "list", "tuple", "dict"] ∧ a ≠ "str"
theorem kit_no {K : PySem.W.Frag} {a : String} (m : a ∈ ["NoneType", "bool", "int", "str", "list", "tuple", "dict"]) (n : a ≠ "str") : PySem.W.kitOne K (.type a) (.type "str") = some false :=
  kit_ty (by rw [kit_known a "str" m (by simp), decide_eq_false n])
theorem kit_self {K : PySem.W.Frag} : PySem.W.kitOne K (.type "str") (.type "str") = some true := kit_ty (by decide +kernel)
theorem str_is_nil (l : List Nat) : decide (V.str (S l) = V.str "") = decide (l = []) := by
  refine decide_eq_decide.mpr ⟨fun h => ?_, fun h => by rw [h]; rfl⟩
  have h1 : S l = S [] := V.str.inj h
  exact SX.S_inj h1
theorem walk_S (l : List Nat) : Walk (Its (S l)) l.length (fun _ => True) (YFn fun i => .str (S [l.getD i 0])) := by
  refine walk_str.mono (fun _ h => h) (fun i H x H' hi _ y => ⟨y.1, ?_⟩)
  obtain ⟨_, c, hc, rfl⟩ := y
  have hc' : l[i]? = some c := by simpa using hc
  show V.str (S [c]) = V.str (S [l.getD i 0])
  rw [List.getD_eq_getElem?_getD, hc']
  rfl
/-- what a name is looked up in: letters, signs -/
def spLetters (K : PySem.W.Frag) : Sp := fun vs H Q _ => ∃ v, vs = [v] ∧
  ((∃ l : List Nat, v = .str (S l) ∧ l.length ≤ 100000 ∧ ∀ H', Same H H' → Q (.bl (lettersB l)) H') ∨ (NoStr K H v ∧ ∀ H', Same H H' → Q (.bl false) H'))
def spWord (K : PySem.W.Frag) : Sp := fun vs H Q _ => ∃ (s : List Nat) (v : V), vs = [.str (S s), v] ∧
  ((∃ l : List Nat, v = .str (S l) ∧ l.length ≤ 100000 ∧ ∀ H', Same H H' → Q (.bl (allB l s)) H') ∨ (NoStr K H v ∧ ∀ H', Same H H' → Q (.bl false) H'))
section
variable {P : Program} {w : World} {K : PySem.W.Frag} {mg : Str → Option Value} {base : Heap}
theorem ok_is_letters {f fA : Addr} {fd fdA : FuncData} (F : Fun K "is_letters" "is_letters" s_is_letters f fd) (B : Blt mg)
    (FA : Fun K "is_ascending" "is_ascending" s_is_ascending fA fdA) (gA : mg "is_ascending" = some (.ref fA)) (bA : Binds K fdA ["parts"] [])
    (al : ∃ t, mg "ALPHABET" = some (.str "abcdefghijklmnopqrstuvwxyz" t)) :
    FnOk P w K mg base CX0 2 f fd ["thing"] (spLetters K) := by
  have GA : FnOk P w K mg base CX0 1 fA fdA ["parts"] spAsc := ok_is_ascending FA B
  obtain ⟨ta, al⟩ := al
  refine F.ok sc_is_letters (fun vs H Q E h => ?_) (fun cdv A outer s H vs Q E hr h => ?_)
  · obtain ⟨v, rfl, _⟩ := h
    rfl
  · obtain ⟨v, rfl, h⟩ := h
    refine ⟨_, pss_cons (ps_if (PW.pt (pw_or (pt_not (pt_val (pe_callB call_isi (by rfl) B.isi (by decide +kernel) (pa_cons (pv 0) (pa_cons (pe_bltn (v := .ty "str") (by rfl) B.str (by decide +kernel) rfl) pa_nil)))))
        (pw_or1 (pt_cmpR op_eq (pv 0) pe_str (nomark _))))) (pss_one (ps_ret pe_bl)) pss_nil)
      (pss_one (ps_ret (pe_and (pe_call GA (hr.mono (by decide)) (by rfl) gA FA.kp bA .nil pass0 (pa_cons (pv 0) pa_nil))
        (pe_one (pe_callB (cr_all rfl) (by rfl) B.all (by decide +kernel) (pa_cons (pe_lc (own := [("letter", 1)]) (g := gName 1) (tt := tYes) rfl sc_is_letters.nd (pi_str (pv 0))
          (blkOk_by (own := [("letter", 1)]) (N := ["thing", "letter"]) (sc := defScope s_is_letters) (by decide +kernel)) (fun _ _ _ _ _ => pg_name (i := 1) sc_is_letters.nd rfl (Or.inl rfl)) (fun _ _ _ _ _ => pts_nil)
          (fun _ _ _ _ _ => pe_cmpR op_in_sign (pv 1) (pe_glob (v := .str "abcdefghijklmnopqrstuvwxyz") rfl al ⟨_, rfl⟩) rfl)) pa_nil)))))), ?_⟩
    rcases h with ⟨l, rfl, hl, q⟩ | ⟨hn, q⟩
    · refine ⟨.str (S l), rfl, .str (S l), .ty "str", _, _, true, rfl, .ty _, .base (.str _), kit_self, true, rfl, iteF ⟨.str (S l), rfl, rfl, _, rfl, ?_⟩⟩
      rw [str_is_nil]
      cases e : decide (l = []) with
      | true =>
        refine iteT ?_
        have q' := q H (Same.refl H)
        unfold lettersB at q'
        rw [e] at q'
        exact q'
      | false =>
        refine iteF ⟨.str (S l), rfl, l, rfl, hl, fun H1 s1 => ⟨_, rfl, ?_⟩⟩
        have q' : ∀ H', Same H H' → Q (.bl (ascB l && allB l alpha)) H' := fun H' sm => by
          have z := q H' sm
          unfold lettersB at z
          rw [e] at z
          exact z
        cases ea : ascB l with
        | false =>
          refine iteF ?_
          have z := q' H1 s1
          rw [ea] at z
          exact z
        | true =>
          refine iteT ?_
          rw [ea] at q'
          unfold tCB tCons
          refine lc_map (n := l.length) (walk_S l) (fun k => .bl (inB (l.getD k 0) alpha)) (by omega) (fun R k => ⟨_, rfl, S l, rfl, k _ (Same.refl _) trivial⟩) (fun _ _ _ _ _ => trivial) ?_ ?_
          · rintro i x H' H'' R hi sm ⟨rfl, rfl⟩ k
            refine ⟨rfl, .str (S [l.getD i 0]), rfl, ?_⟩
            rw [alpha_is]
            exact ⟨l.getD i 0, S alpha, rfl, rfl, k _ (Same.refl _)⟩
          · intro D H' hD sm hl'
            refine ⟨D, (List.range l.length).map fun k => inB (l.getD k 0) alpha, rfl, SqL.of ?_, q' H' (s1.trans sm)⟩
            rw [List.map_map]
            exact hl'
    · obtain ⟨a, t, m, n⟩ := hn
      exact ⟨v, rfl, v, .ty "str", .type a, _, false, rfl, .ty _, t, kit_no m n, false, rfl, iteT (iteT (q H (Same.refl H)))⟩
end
end Lw

namespace Lw
open PySem PySem.Spec PyProof.Rows L2 Mq
open SX (S)
theorem ifF {c : Bool} {p q : Prop} (h : c = false) (hq : q) : (if c = true then p else q) := by rw [h]; exact hq
theorem ifT {c : Bool} {p q : Prop} (h : c = true) (hp : p) : (if c = true then p else q) := by rw [h]; exact hp
theorem len_tup {K : PySem.W.Frag} {H : Hp} {a : Addr} {xs : List V} (h : SqT K H a xs) : LenV K (.ref a) H xs.length := Or.inr ⟨xs, h, rfl⟩
theorem ps_dead {X : Cx} {st : Stmt} : PS X st (fun _ _ _ => False) := ⟨fun _ _ _ _ _ _ h => h.elim⟩
theorem pos_of {α : Type} {l : List α} (h : l ≠ []) : 0 < l.length := by
  cases l with
  | nil => exact (h rfl).elim
  | cons a l => exact Nat.zero_lt_succ _
theorem allB_of {sg w : List Nat} (h : ∀ c ∈ w, c ∈ sg) : allB w sg = true := by
  unfold allB
  rw [List.all_map, List.all_eq_true]
  intro k hk
  have hk' := List.mem_range.mp hk
  refine decide_eq_true (h _ ?_)
  rw [List.getD_eq_getElem?_getD, List.getElem?_eq_getElem hk']
  exact List.getElem_mem hk'
def wordOk (sg w : List Nat) : Prop := (∀ c ∈ w, c ∈ sg) ∧ w.length ≤ 1000
end Lw

namespace Lw
open PySem PySem.Spec PyProof.Rows L2 Mq
open SX (S)
/-! ### the deck -/
def deckKv (c : Addr) (m : Int) (t : Nat) : List (Key × V) := [(.inr "cells", .ref c), (.inr "mixed", .int m), (.inr "turn", .int (t : Nat))]
structure DeckAt (D C : Addr) (T : Nat) (H : Hp) : Prop where
  ex : ∃ (m : Int) (t : Nat) (js : List Int), H D = some (.dK (deckKv C m t)) ∧ H C = some (.lst (js.map V.int)) ∧ js.length ≤ 100 ∧ t ≤ T
def Off (D C : Addr) (H H' : Hp) : Prop := ∀ b o, b ≠ D → b ≠ C → H b = some o → H' b = some o
theorem Off.refl (D C : Addr) (H : Hp) : Off D C H H := fun _ _ _ _ e => e
theorem Off.trans {D C : Addr} {H H' H'' : Hp} (a : Off D C H H') (b : Off D C H' H'') : Off D C H H'' := fun x o h1 h2 e => b x o h1 h2 (a x o h1 h2 e)
theorem Off.same {D C : Addr} {H H' : Hp} (e : Same H H') : Off D C H H' := fun b o _ _ h => e b o h
theorem DeckAt.same {D C : Addr} {T : Nat} {H H' : Hp} (h : DeckAt D C T H) (e : Same H H') : DeckAt D C T H' := let ⟨m, t, js, a, b, c, d⟩ := h.ex; ⟨m, t, js, e _ _ a, e _ _ b, c, d⟩
theorem DeckAt.mono {D C : Addr} {T T' : Nat} {H : Hp} (h : DeckAt D C T H) (e : T ≤ T') : DeckAt D C T' H := let ⟨m, t, js, a, b, c, d⟩ := h.ex; ⟨m, t, js, a, b, c, Nat.le_trans d e⟩
theorem DeckAt.ne {D C : Addr} {T : Nat} {H : Hp} (h : DeckAt D C T H) : C ≠ D := by
  obtain ⟨m, t, js, a, b, c, d⟩ := h.ex
  rintro rfl
  rw [a] at b
  cases b
/-- what is no list and no dict is none of the deck's -/
theorem Off.at {D C : Addr} {T : Nat} {H H' : Hp} {a : Addr} {o : HO} (f : Off D C H H') (k : DeckAt D C T H) (h : H a = some o) (n : (∀ xs, o ≠ .lst xs) ∧ ∀ kvs, o ≠ .dK kvs) : H' a = some o := by
  obtain ⟨m, t, js, x, y, _, _⟩ := k.ex
  refine f a o ?_ ?_ h
  · rintro rfl
    rw [x] at h
    cases h
    exact n.2 _ rfl
  · rintro rfl
    rw [y] at h
    cases h
    exact n.1 _ rfl
theorem Off.tup {K : PySem.W.Frag} {D C : Addr} {T : Nat} {H H' : Hp} {a : Addr} {xs : List V} (f : Off D C H H') (k : DeckAt D C T H) (h : SqT K H a xs) : SqT K H' a xs := by
  rcases h with (h | ⟨o, h⟩) | h
  · exact Or.inl (Or.inl (f.at k h ⟨(fun _ z => nomatch z), (fun _ z => nomatch z)⟩))
  · exact Or.inl (Or.inr ⟨o, f.at k h ⟨(fun _ z => nomatch z), (fun _ z => nomatch z)⟩⟩)
  · exact Or.inr h
theorem dp_ints' {K : PySem.W.Frag} {H : Hp} : ∀ js : List Int, DpAll K H (js.map V.int) (js.map PyData.int)
  | [] => .nil
  | t :: ts => .cons (.int _) (dp_ints' ts)
theorem lay_ints' (js : List Int) : PyData.canLayAll0 (js.map PyData.int) = true ∧ PyData.depthAll (js.map PyData.int) = 0 := by
  induction js with
  | nil => exact ⟨rfl, rfl⟩
  | cons t ts ih =>
    refine ⟨ih.1, ?_⟩
    show max 0 _ = 0
    rw [ih.2]
    rfl
theorem shaped_ints (js : List Int) : SeqAt.shaped (.list (js.map PyData.int)) = true := by
  unfold SeqAt.shaped
  obtain ⟨a, b⟩ := lay_ints' js
  rw [show (PyData.list (js.map PyData.int)).canLay0 = true from a]
  have : (PyData.list (js.map PyData.int)).depth ≤ 64 := by
    show PyData.depthAll _ + 1 ≤ 64
    omega
  rw [decide_eq_true this]
  rfl
def spDraw : Sp := fun vs H Q _ => ∃ (D C : Addr) (T b : Nat), vs = [.ref D, .int (b : Nat)] ∧ DeckAt D C T H ∧ T ≤ 1000000 ∧ 0 < b ∧ b ≤ 1000 ∧
  ∀ H' (r : Nat), r < b → DeckAt D C (T + 1) H' → Off D C H H' → Q (.int (r : Nat)) H'
theorem fmod_nat (i : Int) {b : Nat} (h : 0 < b) : ∃ r : Nat, i.fmod (b : Int) = (r : Nat) ∧ r < b := by
  have h1 : 0 ≤ i.fmod (b : Int) := Int.fmod_nonneg_of_pos i (by omega)
  have h2 : i.fmod (b : Int) < b := Int.fmod_lt_of_pos i (by omega)
  exact ⟨(i.fmod b).toNat, by omega, by omega⟩
theorem bound_mod (i : Int) : -(2 ^ 64) < i.fmod 2147483647 ∧ i.fmod 2147483647 < 2 ^ 64 := by
  obtain ⟨r, e, l⟩ := fmod_nat i (b := 2147483647) (by decide)
  have e' : i.fmod 2147483647 = (r : Nat) := e
  rw [e']
  omega
theorem mod_fin {b : Nat} (h : 0 < b) (i : Int) {H : Hp} {Q : VK} (k : ∀ r : Nat, r < b → Q (.int (r : Nat)) H) : Q (.int (i.fmod (b : Nat))) H := by
  obtain ⟨r, e, l⟩ := fmod_nat i h
  rw [e]
  exact k r l
section
variable {P : Program} {w : World} {K : PySem.W.Frag} {mg : Str → Option Value} {base : Heap}
theorem ok_draw {f : Addr} {fd : FuncData} (F : Fun K "_law_draw" "_law_draw" s__law_draw f fd) (B : Blt mg) :
    FnOk P w K mg base CX0 1 f fd ["_law_deck_here", "_law_below"] spDraw := by
  refine F.ok sc__law_draw (fun vs H Q E h => ?_) (fun cdv A outer s H vs Q E hr h => ?_)
  · obtain ⟨_, _, _, _, rfl, _⟩ := h
    rfl
  · obtain ⟨D, C, T, b, rfl, hdk, hT, hb0, hb1, q⟩ := h
    have hu : (A.deeper (envOfC "_law_draw" (defScope s__law_draw) s.heap.objs.size f cdv)).units + 64 < cLine := by
      have := hr.units
      omega
    have hu1 : (A.deeper (envOfC "_law_draw" (defScope s__law_draw) s.heap.objs.size f cdv)).units + 1 < cLine := by omega
    refine ⟨_, (pss_cons (ps_dput hu1 (pv 0) pe_str (pe_op op_add (pe_dget hu1 (pv 0) pe_str (fun _ _ => rfl)) pe_int) rfl)
      (pss_cons (ps_set (i := 2) sc__law_draw.nd rfl (Or.inl rfl) (pe_op op_add (pe_dget hu1 (pv 0) pe_str (fun _ _ => rfl)) (pe_op op_mul (pe_op op_mul pe_int (pe_dget hu1 (pv 0) pe_str (fun _ _ => rfl))) (pe_dget hu1 (pv 0) pe_str (fun _ _ => rfl)))))
      (pss_cons (ps_if (pt_cmpR (op_neD hu) (pe_dget hu1 (pv 0) pe_str (fun _ _ => rfl)) (pe_ls pa_nil) (nomark _)) (pss_cons (ps_set (i := 3) sc__law_draw.nd rfl (Or.inl rfl) (pe_bm0 PySem.F.plainAttrs_list PySem.F.slot_list_pop PySem.F.type_list_pop mt_pop (pe_dget hu1 (pv 0) pe_str (fun _ _ => rfl))))
        (pss_cons (ps_if (pt_cmpR op_ge (pv 3) (pe_op op_pow pe_int pe_int) (nomark _)) (pss_cons (ps_expr (pe_bm PySem.F.plainAttrs_list PySem.F.slot_list_append PySem.F.type_list_append mt_append (pe_dget hu1 (pv 0) pe_str (fun _ _ => rfl)) (pa_cons (pe_op op_fdivN (pv 3) (pv 1)) pa_nil)))
          (pss_one (ps_ret (pe_op op_modN (pe_callTy call_int1 (by rfl) B.int (by decide +kernel) (pa_cons (pv 3) pa_nil)) (pv 1))))) pss_nil)
        (pss_one (ps_set (i := 2) sc__law_draw.nd rfl (Or.inl rfl) (pe_op op_add (pv 2) (pe_op op_modN (pe_callTy call_int1 (by rfl) B.int (by decide +kernel) (pa_cons (pv 3) pa_nil)) pe_int)))))) pss_nil)
      (pss_cons (ps_set (i := 2) sc__law_draw.nd rfl (Or.inl rfl) (pe_op op_modN (pe_callTy call_int1 (by rfl) B.int (by decide +kernel) (pa_cons (pe_op op_add (pe_op op_mul (pe_op op_modN (pv 2) pe_int) pe_int) (pe_dget hu1 (pv 0) pe_str (fun _ _ => rfl))) pa_nil)) pe_int))
      (pss_cons (ps_set (i := 2) sc__law_draw.nd rfl (Or.inl rfl) (pe_op op_modN (pe_callTy call_int1 (by rfl) B.int (by decide +kernel) (pa_cons (pe_op op_add (pe_op op_add (pe_op op_mul (pv 2) (pv 2)) (pe_op op_mul pe_int (pe_dget hu1 (pv 0) pe_str (fun _ _ => rfl)))) pe_int) pa_nil)) pe_int))
      (pss_one (ps_ret (pe_op op_modN (pe_op op_fdivN (pe_op op_modN (pe_callTy call_int1 (by rfl) B.int (by decide +kernel) (pa_cons (pe_op op_mul (pv 2) pe_int) pa_nil)) pe_int) pe_int) (pv 1))))))))), ?_⟩
    obtain ⟨m, t, js, hD, hC, hjs, ht⟩ := hdk.ex
    have ne := hdk.ne
    have e : ((t : Nat) : Int) + 1 = ((t + 1 : Nat) : Int) := by omega
    have eH : upd H D (.dK (deckKv C m (t + 1))) = upd H D (.dK (putK (deckKv C m t) (.inr "turn") (.int (((t : Nat) : Int) + 1)))) := by
      rw [e]
      rfl
    have o1 : Off D C H (upd H D (.dK (deckKv C m (t + 1)))) := fun x o h1 h2 h => (upd_ne h1).trans h
    have hD1 : upd H D (.dK (deckKv C m (t + 1))) D = some (.dK (deckKv C m (t + 1))) := upd_same
    have hC1 : upd H D (.dK (deckKv C m (t + 1))) C = some (.lst (js.map V.int)) := (upd_ne ne).trans hC
    refine ⟨_, rfl, D, .int (t : Nat), rfl, (DGet.k (k := .inr "turn") hD : DGet H D (.str "turn") (some (.int (t : Nat)))), _, _, rfl, rfl, _, rfl, D, upd H D (.dK (deckKv C m (t + 1))), rfl, Or.inl ⟨deckKv C m t, .inr "turn", hD, rfl, sz_lt (by show 3 ≤ _; decide), eH⟩, ?_⟩
    generalize upd H D (.dK (deckKv C m (t + 1))) = H1 at o1 hD1 hC1 ⊢
    have gT : ∀ {H2 : Hp}, H2 D = some (.dK (deckKv C m (t + 1))) → DGet H2 D (.str "turn") (some (.int (t + 1 : Nat))) := fun h => DGet.k (k := .inr "turn") h
    have gM : ∀ {H2 : Hp}, H2 D = some (.dK (deckKv C m (t + 1))) → DGet H2 D (.str "mixed") (some (.int m)) := fun h => DGet.k (k := .inr "mixed") h
    have gC : ∀ {H2 : Hp}, H2 D = some (.dK (deckKv C m (t + 1))) → DGet H2 D (.str "cells") (some (.ref C)) := fun h => DGet.k (k := .inr "cells") h
    have cT : -(2 ^ 64) < (((t + 1 : Nat)) : Int) ∧ (((t + 1 : Nat)) : Int) < 2 ^ 64 := by omega
    refine ⟨_, rfl, D, _, rfl, gM hD1, _, rfl, D, _, rfl, gT hD1, _, _, rfl, rfl, Or.inl (by decide), _, rfl, D, _, rfl, gT hD1, _, _, rfl, rfl, Or.inr cT, _, _, rfl, rfl, ?_⟩
    refine ⟨_, rfl, D, _, rfl, gC hD1, sz_le (n := 0) (by decide), fun p hp _ => ?_⟩
    have sp1 : Same H1 (upd H1 p (.lst [])) := same_new hp
    refine ⟨.list (js.map PyData.int), .list [], .lst (SqL.of (sp1 _ _ hC1)) (dp_ints' js), .lst (SqL.of upd_same) .nil, shaped_ints js, by decide +kernel, _, rfl, ?_⟩
    have hD2 := sp1 _ _ hD1
    have hC2 := sp1 _ _ hC1
    have o2 : Off D C H (upd H1 p (.lst [])) := o1.trans (Off.same sp1)
    generalize upd H1 p (.lst []) = H2 at hD2 hC2 o2 ⊢
    have fin : ∀ (H3 : Hp) (js' : List Int), H3 D = some (.dK (deckKv C m (t + 1))) → H3 C = some (.lst (js'.map V.int)) → js'.length ≤ 100 → Off D C H H3 → ∀ r : Nat, r < b → Q (.int (r : Nat)) H3 :=
      fun H3 js' h1 h2 h3 h4 r hr => q H3 r hr ⟨m, t + 1, js', h1, h2, h3, by omega⟩ h4
    rcases List.eq_nil_or_concat js with rfl | ⟨js', j, rfl⟩
    · refine ifF rfl ?_
      have hDx := hD2
      have kq := fin H2 [] hD2 hC2 (by decide) o2
      refine ⟨_, rfl, _, _, rfl, rfl, (show (2147483549 : Int) ≠ 0 by decide), _, _, rfl, rfl, Or.inr (by decide), _, rfl, D, _, rfl, gT hDx, _, _, rfl, rfl, Or.inl ⟨_, rfl, _, _, rfl, rfl, (show (2147483647 : Int) ≠ 0 by decide), ?_⟩⟩
      refine ⟨_, rfl, _, rfl, _, _, rfl, rfl, Or.inl ?_, _, rfl, D, _, rfl, gT hDx, _, _, rfl, rfl, Or.inl (by decide), _, _, rfl, rfl, _, _, rfl, rfl, Or.inl ⟨_, rfl, _, _, rfl, rfl, (show (2147483579 : Int) ≠ 0 by decide), ?_⟩⟩
      · exact bound_mod _
      · refine ⟨_, rfl, _, _, rfl, rfl, Or.inr (by decide), Or.inl ⟨_, rfl, _, _, rfl, rfl, (show (2147483629 : Int) ≠ 0 by decide), _, _, rfl, rfl, ⟨by decide, by decide⟩, _, rfl, _, _, rfl, rfl, (show ((b : Nat) : Int) ≠ 0 by omega), ?_⟩⟩
        exact mod_fin hb0 _ kq
    · rw [List.concat_eq_append] at *
      refine ifT (by cases js' <;> rfl) ?_
      have hlast : ((js' ++ [j]).map V.int)[((js' ++ [j]).map V.int).length - 1]? = some (.int j) := by simp
      have hdrop : ((js' ++ [j]).map V.int).dropLast = js'.map V.int := by simp
      refine ⟨_, rfl, D, _, rfl, gC hD2, Or.inl ⟨rfl, _, Or.inl (Or.inl hC2)⟩, C, _, _, rfl, rfl, hC2, hlast, ?_⟩
      rw [hdrop]
      have hD3 : upd H2 C (.lst (js'.map V.int)) D = some (.dK (deckKv C m (t + 1))) := (upd_ne (Ne.symm ne)).trans hD2
      have hC3 : upd H2 C (.lst (js'.map V.int)) C = some (.lst (js'.map V.int)) := upd_same
      have o3 : Off D C H (upd H2 C (.lst (js'.map V.int))) := o2.trans (fun x o h1 h2 h => (upd_ne h2).trans h)
      generalize upd H2 C (.lst (js'.map V.int)) = H3 at hD3 hC3 o3 ⊢
      have hl' : js'.length + 1 ≤ 100 := by simpa using hjs
      refine ⟨_, rfl, _, _, rfl, rfl, ⟨by decide, by decide, by decide⟩, _, _, rfl, rfl, _, rfl, ite2 (fun hc => ?_) (fun hc => ?_)⟩
      · have hj : (10 : Int) ^ 18 ≤ j := of_decide_eq_true hc
        refine ⟨_, rfl, D, _, rfl, gC hD3, Or.inl ⟨rfl, _, Or.inl (Or.inl hC3)⟩, _, rfl, _, rfl, _, _, rfl, rfl, ⟨by omega, by omega⟩, C, _, _, rfl, rfl, hC3, sz_lt (by rw [List.length_map]; omega), ?_⟩
        have hD4 : upd H3 C (.lst (js'.map V.int ++ [.int (j.fdiv (b : Nat))])) D = some (.dK (deckKv C m (t + 1))) := (upd_ne (Ne.symm ne)).trans hD3
        have hC4 : upd H3 C (.lst (js'.map V.int ++ [.int (j.fdiv (b : Nat))])) C = some (.lst ((js' ++ [j.fdiv (b : Nat)]).map V.int)) := upd_same.trans (by rw [List.map_append]; rfl)
        have o4 : Off D C H (upd H3 C (.lst (js'.map V.int ++ [.int (j.fdiv (b : Nat))]))) := o3.trans (fun x o h1 h2 h => (upd_ne h2).trans h)
        have kq := fin _ _ hD4 hC4 (by rw [List.length_append]; exact hl') o4
        refine ⟨_, rfl, Or.inl ⟨_, rfl, _, rfl, _, _, rfl, rfl, (show ((b : Nat) : Int) ≠ 0 by omega), ?_⟩⟩
        exact mod_fin hb0 _ kq
      · refine ⟨_, rfl, _, rfl, Or.inl ⟨_, rfl, _, _, rfl, rfl, (show (2147483563 : Int) ≠ 0 by decide), _, _, rfl, rfl, ?_⟩⟩
        have hDx := hD3
        have kq := fin H3 js' hD3 hC3 (by omega) o3
        refine ⟨_, rfl, _, _, rfl, rfl, (show (2147483549 : Int) ≠ 0 by decide), _, _, rfl, rfl, Or.inr (by decide), _, rfl, D, _, rfl, gT hDx, _, _, rfl, rfl, Or.inl ⟨_, rfl, _, _, rfl, rfl, (show (2147483647 : Int) ≠ 0 by decide), ?_⟩⟩
        refine ⟨_, rfl, _, rfl, _, _, rfl, rfl, Or.inl ?_, _, rfl, D, _, rfl, gT hDx, _, _, rfl, rfl, Or.inl (by decide), _, _, rfl, rfl, _, _, rfl, rfl, Or.inl ⟨_, rfl, _, _, rfl, rfl, (show (2147483579 : Int) ≠ 0 by decide), ?_⟩⟩
        · exact bound_mod _
        · refine ⟨_, rfl, _, _, rfl, rfl, Or.inr (by decide), Or.inl ⟨_, rfl, _, _, rfl, rfl, (show (2147483629 : Int) ≠ 0 by decide), _, _, rfl, rfl, ⟨by decide, by decide⟩, _, rfl, _, _, rfl, rfl, (show ((b : Nat) : Int) ≠ 0 by omega), ?_⟩⟩
          exact mod_fin hb0 _ kq
end
end Lw

namespace Lw
open PySem PySem.Spec PyProof.Rows L2 Mq
open SX (S)
def spDeck (K : PySem.W.Frag) : Sp := fun vs H Q _ => ∃ (a : Addr) (ns : List Int), vs = [.ref a] ∧ SqL K H a (ns.map V.int) ∧ ns.length ≤ 63 ∧
  ∀ H' D C, Same H H' → DeckAt D C 0 H' → Q (.ref D) H'
def spPick : Sp := fun vs H Q _ => ∃ (D C : Addr) (T : Nat) (x : V), vs = [.ref D, x] ∧ DeckAt D C T H ∧ T ≤ 1000000 ∧
  ((∃ l : List Nat, x = .str (S l) ∧ 0 < l.length ∧ l.length ≤ 1000 ∧ ∀ H' c, c ∈ l → DeckAt D C (T + 1) H' → Off D C H H' → Q (.str (S [c])) H') ∨
   ∃ (p : Addr) (xs : List V), x = .ref p ∧ H p = some (.lst xs) ∧ p ≠ C ∧ 0 < xs.length ∧ xs.length ≤ 1000 ∧ ∀ H' v, v ∈ xs → DeckAt D C (T + 1) H' → Off D C H H' → Q v H')
section
variable {P : Program} {w : World} {K : PySem.W.Frag} {mg : Str → Option Value} {base : Heap}
theorem ok_deck {f : Addr} {fd : FuncData} (F : Fun K "_law_deck" "_law_deck" s__law_deck f fd) (B : Blt mg) :
    FnOk P w K mg base CX0 1 f fd ["_law_script"] (spDeck K) := by
  refine F.ok sc__law_deck (fun vs H Q E h => ?_) (fun cdv A outer s H vs Q E hr h => ?_)
  · obtain ⟨_, _, rfl, _⟩ := h
    rfl
  · obtain ⟨a, ns, rfl, ha, hn, q⟩ := h
    refine ⟨_, (pss_cons (ps_par (i := 1) (j := 2) rfl sc__law_deck.nd rfl rfl (by decide) rfl rfl (pa_cons (pe_callTy call_list_of (by rfl) B.list (by decide +kernel) (pa_cons (pe_slice sl_list (pv 0) po_none (po_some pe_int)) pa_nil)) (pa_cons pe_int pa_nil)) (by rfl))
      (pss_cons (ps_for PassesOwn.never rfl (pi_list (pv 1)) (pg_name (i := 3) sc__law_deck.nd rfl (Or.inl rfl))
        (pss_one (ps_set (i := 2) sc__law_deck.nd rfl (Or.inl rfl) (pe_op op_modN (pe_callTy call_int1 (by rfl) B.int (by decide +kernel) (pa_cons (pe_op op_add (pe_op op_add (pe_op op_mul (pv 2) pe_int) (pe_op op_modN (pe_callTy call_int1 (by rfl) B.int (by decide +kernel) (pa_cons (pv 3) pa_nil)) pe_int)) pe_int) pa_nil)) pe_int))))
      (pss_one (ps_ret (pe_disp (pps_cons pe_str (pe_revL (pv 1)) (pps_cons pe_str (pv 2) (pps_cons pe_str pe_int pps_nil))) (by rfl) (by rfl) (fun z => by cases z) (by decide)))))), ?_⟩
    obtain ⟨ms, hms, hml⟩ : ∃ ms : List Int, cutV (ns.map V.int) none (some 63) = ms.map V.int ∧ ms.length ≤ 63 := by
      refine ⟨(ns.drop (HT.sIx (ns.map V.int).length 0 none)).take (HT.sIx (ns.map V.int).length (ns.map V.int).length (some 63) - HT.sIx (ns.map V.int).length 0 none), ?_, ?_⟩
      · unfold cutV
        rw [← List.map_drop, ← List.map_take]
      · rw [List.length_take, List.length_drop]
        omega
    refine ⟨_, rfl, 63, rfl, a, _, rfl, ha, fun p1 hp1 => ⟨p1, _, rfl, Or.inl (SqL.of upd_same), fun c hc => ?_⟩⟩
    rw [hms] at hc ⊢
    have s1 : Same H (upd H p1 (.lst (ms.map V.int))) := same_new hp1
    generalize upd H p1 (.lst (ms.map V.int)) = H1 at s1 hc ⊢
    have s2 : Same H (upd H1 c (.lst (ms.map V.int))) := s1.trans (same_new hc)
    have hC : upd H1 c (.lst (ms.map V.int)) c = some (.lst (ms.map V.int)) := upd_same
    generalize upd H1 c (.lst (ms.map V.int)) = H2 at s2 hC ⊢
    refine ⟨_, _, rfl, ?_⟩
    refine ⟨_, rfl, c, rfl, ⟨_, SqL.of hC⟩, ?_⟩
    refine for_list (xs := ms.map V.int) (fun i σ H' => H' = H2 ∧ ∃ (m : Int) (o : Option V), σ = [some (.ref a), some (.ref c), some (.int m), o]) ⟨rfl, _, _, rfl⟩ (fun i σ H' _ p => by rw [p.1]; exact SqL.of hC) ?_ ?_
    · rintro i x σ H' hx ⟨rfl, m, o, rfl⟩
      obtain ⟨j, rfl⟩ : ∃ j, x = .int j := by
        rw [List.getElem?_map] at hx
        cases h : ms[i]? with
        | none => rw [h] at hx; cases hx
        | some j => rw [h] at hx; cases hx; exact ⟨j, rfl⟩
      refine ⟨_, rfl, _, _, rfl, rfl, Or.inr (by decide), _, rfl, Or.inl ⟨_, rfl, _, _, rfl, rfl, (show (2147483587 : Int) ≠ 0 by decide), _, _, rfl, rfl, _, _, rfl, rfl, Or.inl ⟨_, rfl, _, _, rfl, rfl, (show (2147483629 : Int) ≠ 0 by decide), rfl, _, _, rfl⟩⟩⟩
    · rintro σ H' ⟨rfl, m, o, rfl⟩
      refine fun p hp => ?_
      have s3 : Same H' (upd H' p (.dK [])) := same_new hp
      refine ⟨_, rfl, c, _, rfl, SqL.of (s3 _ _ hC), fun p2 hp2 => ⟨_, rfl, ?_⟩⟩
      have s4 : Same H' (upd (upd H' p (.dK [])) p2 (.lst (ms.map V.int).reverse)) := s3.trans (same_new hp2)
      have hp4 : upd (upd H' p (.dK [])) p2 (.lst (ms.map V.int).reverse) p = some (.dK []) := (same_new hp2) _ _ upd_same
      refine ⟨hp4, deckKv p2 m 0, rfl, by show 3 ≤ 15; decide, ?_⟩
      have ne : p2 ≠ p := by
        rintro rfl
        rw [upd_same] at hp2
        cases hp2
      refine q _ p p2 ?_ ⟨m, 0, ms.reverse, upd_same.trans ?_, ?_, by rw [List.length_reverse]; omega, Nat.le_refl _⟩
      · intro b o e
        have e2 := s2 b o e
        rw [upd_ne (ne_of_none e2 hp)]
        exact s4 b o e2
      · rfl
      · rw [upd_ne ne, upd_same, List.map_reverse]
end
end Lw

namespace Lw
open PySem PySem.Spec PyProof.Rows L2 Mq
open SX (S)
section
variable {P : Program} {w : World} {K : PySem.W.Frag} {mg : Str → Option Value} {base : Heap}
theorem ok_pick {f fD : Addr} {fd fdD : FuncData} (F : Fun K "_law_pick" "_law_pick" s__law_pick f fd) (B : Blt mg)
    (FD : Fun K "_law_draw" "_law_draw" s__law_draw fD fdD) (gD : mg "_law_draw" = some (.ref fD)) (bD : Binds K fdD ["_law_deck_here", "_law_below"] []) :
    FnOk P w K mg base CX0 2 f fd ["_law_deck_here", "_law_some"] spPick := by
  have GD : FnOk P w K mg base CX0 1 fD fdD ["_law_deck_here", "_law_below"] spDraw := ok_draw FD B
  refine F.ok sc__law_pick (fun vs H Q E h => ?_) (fun cdv A outer s H vs Q E hr h => ?_)
  · obtain ⟨_, _, _, _, rfl, _⟩ := h
    rfl
  · obtain ⟨D, C, T, x, rfl, hdk, hT, h⟩ := h
    refine ⟨_, (pss_one (ps_ret (pe_ix ix_seq (pv 1) (pe_call GD (hr.mono (by decide)) (by rfl) gD FD.kp bD .nil pass0 (pa_cons (pv 0) (pa_cons (pe_callB call_len (by rfl) B.len (by decide +kernel) (pa_cons (pv 1) pa_nil)) pa_nil))) (fun _ _ => rfl)))), ?_⟩
    rcases h with ⟨l, rfl, h0, h1, q⟩ | ⟨p, xs, rfl, hp, hpC, h0, h1, q⟩
    · refine ⟨_, rfl, _, rfl, _, rfl, _, _, rfl, len_S (by omega), D, C, T, l.length, rfl, hdk, hT, h0, h1, fun H' r hr dk off => ?_⟩
      refine Or.inr (Or.inr ⟨S l, _, l.getD r 0, rfl, rfl, sz_le (by rw [SX.S_len]; omega), at_get hr, ?_⟩)
      refine q H' _ ?_ dk off
      rw [List.getD_eq_getElem?_getD, List.getElem?_eq_getElem hr]
      exact List.getElem_mem hr
    · refine ⟨_, rfl, _, rfl, _, rfl, _, _, rfl, Or.inl ⟨xs, SqL.of hp, rfl⟩, D, C, T, xs.length, rfl, hdk, hT, h0, h1, fun H' r hr dk off => ?_⟩
      have hpD : p ≠ D := by
        rintro rfl
        obtain ⟨_, _, _, e, _⟩ := hdk.ex
        rw [hp] at e
        cases e
      have hp' := off p _ hpD hpC hp
      refine Or.inl ⟨p, xs, _, xs[r], rfl, rfl, SqL.of hp', atI_nat (List.getElem?_eq_getElem hr), q H' _ (List.getElem_mem hr) dk off⟩
end
end Lw

namespace Lw
open PySem PySem.Spec PyProof.Rows L2 Mq
open SX (S)
theorem PT_imp {X : Cx} {e : Expr} {t t' : TT} (h : PT X e t) (i : ∀ σ H Q, t' σ H Q → t σ H Q) : PT X e t' := ⟨fun pins s σ H Q I q => h.run pins s σ H Q I (i σ H Q q)⟩
/-- tuples stay -/
def KpT (K : PySem.W.Frag) (H H' : Hp) : Prop := ∀ a xs, SqT K H a xs → SqT K H' a xs
theorem KpT.trans {K : PySem.W.Frag} {H H' H'' : Hp} (a : KpT K H H') (b : KpT K H' H'') : KpT K H H'' := fun x y h => b x y (a x y h)
theorem KpT.off {K : PySem.W.Frag} {D C : Addr} {T : Nat} {H H' : Hp} (f : Off D C H H') (k : DeckAt D C T H) : KpT K H H' := fun _ _ h => f.tup k h
theorem KpT.same {K : PySem.W.Frag} {H H' : Hp} (e : Same H H') : KpT K H H' := fun _ _ h => Same.tup e h
theorem KpT.lst {K : PySem.W.Frag} {H : Hp} {L : Addr} {xs ys : List V} (h : H L = some (.lst xs)) : KpT K H (upd H L (.lst ys)) := by
  intro a zs hz
  have ne : ∀ {o : HO}, H a = some o → (∀ xs, o ≠ .lst xs) → upd H L (.lst ys) a = some o := by
    intro o e n
    by_cases q : a = L
    · subst q
      rw [h] at e
      cases e
      exact (n _ rfl).elim
    · exact (upd_ne q).trans e
  rcases hz with (hz | ⟨o, hz⟩) | hz
  · exact Or.inl (Or.inl (ne hz fun _ z => nomatch z))
  · exact Or.inl (Or.inr ⟨o, ne hz fun _ z => nomatch z⟩)
  · exact Or.inr hz
end Lw

namespace Mq
open PySem PySem.Spec PyProof.Rows L2
/-! ### the keys of a dict, drawn one by one, whatever they are -/
section
variable {prog : Program} {w : World} {d : Addr} {o : Obj} {es : Array DictEntry} {ep : Nat}
theorem walks_keys {A : Around} (hh : A.handled = none) (I : Addr) (hne : d ≠ I) (hdat : o.data = .dict es ep) :
    Walks prog w A I [I, d] [I] es.size (fun i v => ∃ en, es[i]? = some en ∧ v = en.key) (fun i h => h.IsKeyIter I d i es.size ep ∧ h.get? d = some o) where
  sub := fun b hb => by rw [List.mem_singleton.mp hb]; exact List.mem_cons_self
  frame := fun i h h' st k => ⟨st.1.at fun x e => k I (by simp) x e, k d (by simp) o st.2⟩
  item := fun i s Q E hi st hQ => by
    refine next_key_item st.1 st.2 hdat rfl (en := es[i]) (by simp [hi]) fun h' st' sb => ?_
    refine hQ _ h' s.toks ⟨es[i], by simp [hi], rfl⟩ ⟨st', (sb.2 d hne).trans st.2⟩ fun b x hb e => ?_
    exact (sb.2 b fun z => hb (by rw [z]; exact List.mem_singleton.mpr rfl)).trans e
  done := fun s Q E st hQ => by
    refine next_key_end hh st.1 st.2 hdat rfl (Nat.le_refl _) fun h' eb => hQ h' s.toks fun b x hb e => ?_
    exact eb b x (fun z => hb (by rw [z]; exact List.mem_singleton.mpr rfl)) e
  self := fun i s Q E st h => by
    have t := st.1.typeIs
    refine wpAny_pyIter_slot t F.slot_dict_keyiterator_iter (wpAny_call_entry F.slot_dict_keyiterator_iter t F.entry_dict_keyiterator_iter ?_ (F.args_dict_keyiterator_iter_1 _))
    refine wpAny_pure ⟨.ref I, rfl, "dict_keyiterator", _, t, F.slot_dict_keyiterator_next.lookup, h⟩
theorem src_keys (hd : (d == sysModules) = false) (hx : o.ExactDict) (hdat : o.data = .dict es ep) :
    PySem.W.KdlSrc prog w "dict" d d es.size (fun i v => ∃ en, es[i]? = some en ∧ v = en.key) (fun h => h.get? d = some o) where
  type := fun _ ho => ⟨o, ho, hx.1⟩
  there := fun _ ho => ⟨Heap.lt_size ho, Heap.lt_size ho⟩
  keep := fun _ _ ho k => k d (.inl rfl) o ho
  notList := by decide
  notTuple := by decide
  hint := fun _ _ _ _ ho hq => PySem.W.kdl_hint_dict ⟨o, ho, hx.1⟩ hq
  iter := fun A s hh ho => ⟨_, _, (fun _ _ hq => iter_keys hd ho hx hdat hq), walks_keys hh s.heap.objs.size (Nat.ne_of_lt (Heap.lt_size ho)) hdat,
    ⟨⟨_, Heap.get?_push_size _ rfl, rfl, rfl⟩, Heap.get?_push_of_some _ ho⟩⟩
end
/-! ### sorted(d), d's keys being pairs of texts -/
def txt2 (x : Str × Str) : List (Int ⊕ List Nat) := [.inr x.1.cps.toList, .inr x.2.cps.toList]
/-- ahead as pairs -/
def ltSS (x y : Str × Str) : Bool := (PyProof.Rows.listOrd PyProof.Rows.itemOrd).blt (txt2 x) (txt2 y)
def prOf (H : Hp) (b : Addr) : Str × Str := match H b with
  | some (.tup [.str x, .str y]) => (x, y)
  | _ => ("", "")
def rSortedT : List V → Hp → VK → Prop := fun xs H Q => ∃ (a : Addr) (kvs : List (List Key × V)) (ks : List (Str × Str)), xs = [.ref a] ∧ Rd H a (.dT kvs) ∧ kvs.map (·.1) = ks.map (fun x => [Sum.inr x.1, Sum.inr x.2]) ∧
  ∀ (as qs : List Addr) (p : Addr), as.map (prOf H) = ks → (∀ b ∈ as, H b = some (.tup [.str (prOf H b).1, .str (prOf H b).2])) → qs.Perm as →
    (∀ i j, i ≤ j → j < qs.length → ltSS (prOf H (qs.getD j 0)) (prOf H (qs.getD i 0)) = false) → H p = none → Q (.ref p) (upd H p (.lst (qs.map V.ref)))
theorem key_pair {H : Hp} {b : Addr} {x : Str × Str} (h : H b = some (.tup (([Sum.inr x.1, Sum.inr x.2] : List Key).map kV))) : prOf H b = x ∧ H b = some (.tup [.str (prOf H b).1, .str (prOf H b).2]) := by
  have h' : H b = some (.tup [.str x.1, .str x.2]) := h
  have e : prOf H b = x := by
    unfold prOf
    rw [h']
  rw [e]
  exact ⟨rfl, h'⟩
/-- the keys' own tuples -/
theorem keys_rel {H : Hp} : ∀ {kvs : List (List Key × V)} {xs : List (List Key × Addr × Value)} {ks : List (Str × Str)}, KT H kvs xs → kvs.map (·.1) = ks.map (fun x => [Sum.inr x.1, Sum.inr x.2]) →
    (xs.map fun q => q.2.1).map (prOf H) = ks ∧ ∀ b ∈ xs.map (fun q => q.2.1), H b = some (.tup [.str (prOf H b).1, .str (prOf H b).2])
  | [], [], [], .nil, _ => ⟨rfl, fun b h => by cases h⟩
  | p :: kvs, q :: xs, k :: ks, .cons h t, e => by
    obtain ⟨h1, h2, _⟩ := h
    injection e with e1 e2
    obtain ⟨a, b⟩ := keys_rel t e2
    have e1' : p.1 = [Sum.inr k.1, Sum.inr k.2] := e1
    rw [e1'] at h2
    obtain ⟨c, d⟩ := key_pair h2
    refine ⟨?_, fun x hx => ?_⟩
    · show prOf H q.2.1 :: _ = _
      rw [c, a]
    · rcases List.mem_cons.mp hx with e | hx
      · rw [e]
        exact d
      · exact b x hx
  | [], [], _ :: _, .nil, e => by cases e
  | _ :: _, _ :: _, [], .cons _ _, e => by cases e
def unR : Value → Addr
  | .ref b => b
  | _ => 0
theorem perm_back {l : List Value} {as : List Addr} (h : l.Perm (as.map Value.ref)) : ∃ qs : List Addr, l = qs.map Value.ref ∧ qs.Perm as := by
  refine ⟨l.map unR, ?_, ?_⟩
  · rw [List.map_map]
    have e : ∀ v ∈ l, (Value.ref ∘ unR) v = v := fun v hv => by
      obtain ⟨b, _, rfl⟩ := List.mem_map.mp (h.mem_iff.mp hv)
      rfl
    have e2 : l.map (Value.ref ∘ unR) = l.map id := List.map_congr_left fun v hv => e v hv
    rw [e2, List.map_id]
  · have h2 := h.map unR
    rw [List.map_map] at h2
    have e : as.map (unR ∘ Value.ref) = as := by
      have e3 : as.map (unR ∘ Value.ref) = as.map id := List.map_congr_left fun v _ => rfl
      rw [e3, List.map_id]
    rw [e] at h2
    exact h2
section
variable {X : Cx}
theorem call_sortedT (hcalm : X.calm = true) : CallR X (.builtin "sorted") rSortedT := by
  intro pins s σ H xs us Q I r q
  obtain ⟨a, kvs, ks, rfl, hd, hks, q⟩ := q
  obtain ⟨u, rfl, rx⟩ := vals1 r
  cases rx
  obtain ⟨z, lo, vs, rel, o, es, ep, ho, hx, hdat, hes, nd⟩ := (show ObjOk X.prog X.w H s.heap a (.dT kvs) from rd_of I.hok hd)
  obtain ⟨k1, k2⟩ := keys_rel rel hks
  have hlen : es.size = vs.length := by
    rw [← Array.length_toList, hes, List.length_map]
  have hz : kvs.length = vs.length := Paired.length rel
  refine Calls.call_function_entry PyProof.Rows.kind_sorted PyProof.Rows.plain_sorted PyProof.Rows.entry_sorted (PyProof.Rows.args_sorted1 _) ?_
  unfold Builtin.«sorted»
  refine wpAny_bind (m := checkCount "sorted" 1 1 _) (wpAny_pure ?_)
  refine wpAny_bind (PySem.W.kdu_collect (A := X.A.in1) (src_keys lo hx hdat) (I.ok.hd hcalm) ho (by omega) fun h' tk acc hk hacc => ?_)
  have hacc' : acc.toList = (vs.map fun q => q.2.1).map Value.ref := by
    refine List.ext_getElem? fun j => ?_
    rw [List.map_map, List.getElem?_map]
    have e1 : acc.toList[j]? = acc[j]? := Array.getElem?_toList
    rw [e1]
    cases h1 : acc[j]? with
    | none =>
      have h2 : acc.size ≤ j := Array.getElem?_eq_none_iff.mp h1
      rw [hacc.1, hlen] at h2
      rw [List.getElem?_eq_none h2]
      rfl
    | some v =>
      obtain ⟨en, h2, rfl⟩ := hacc.2 j v h1
      have h3 : es.toList[j]? = some en := by rw [Array.getElem?_toList]; exact h2
      rw [hes, List.getElem?_map] at h3
      cases h4 : vs[j]? with
      | none => rw [h4] at h3; cases h3
      | some y =>
        rw [h4] at h3
        cases h3
        rfl
  have I1 : Inv X pins σ H { s with heap := h', toks := tk } := I.kept hk
  generalize vs.map (fun q => q.2.1) = as at k1 k2 hacc'
  have hal : acc.toList.length ≤ sizeLine := by
    rw [Array.length_toList, hacc.1]
    omega
  refine wpAny_bind (wpAny_newList ?_ hal)
  rw [hacc']
  rw [hacc'] at hal
  have hoL : (h'.push (seqObj "list" (as.map Value.ref).toArray 0)).get? h'.objs.size = some (seqObj "list" (as.map Value.ref).toArray 0) := Heap.get?_push_size _ rfl
  show wpAny _ _ _ _ _ { s with heap := h'.push (seqObj "list" (as.map Value.ref).toArray 0), toks := tk }
  have obj : ∀ b ∈ as, ∃ (ob : Obj) (n : Nat) (t1 t2 : Tok), (h'.push (seqObj "list" (as.map Value.ref).toArray 0)).get? b = some ob ∧ ob.cls = .type "tuple" ∧ ob.data = .seq #[.str (prOf H b).1 t1, .str (prOf H b).2 t2] n := by
    intro b hb
    obtain ⟨_, its, r2, ob, h1, h2, n, h3⟩ := (show ObjOk X.prog X.w H h' b (.tup [.str (prOf H b).1, .str (prOf H b).2]) from I1.hok b _ (k2 b hb))
    obtain ⟨u1, u2, rfl, ⟨t1, rfl⟩, ⟨t2, rfl⟩⟩ := vals2 r2
    exact ⟨ob, n, t1, t2, Heap.get?_push_of_some _ h1, h2, h3⟩
  have tups : ∀ l : List Addr, (∀ b ∈ l, b ∈ as) → ∃ fs, PyProof.Rows.TupsOf (h'.push (seqObj "list" (as.map Value.ref).toArray 0)) (fun _ => true) (l.map Value.ref) fs := by
    intro l
    induction l with
    | nil => intro _; exact ⟨[], .nil⟩
    | cons b l ih =>
      intro hl
      obtain ⟨fs, hf⟩ := ih fun x hx => hl x (List.mem_cons_of_mem _ hx)
      obtain ⟨ob, n, t1, t2, h1, h2, h3⟩ := obj b (hl b List.mem_cons_self)
      exact ⟨_, .cons ⟨b, ob, _, n, rfl, h1, h2, h3, rfl, fun z => (by cases z), fun _ => ⟨_, _, rfl⟩⟩ hf⟩
  obtain ⟨fs, hfs⟩ := tups as fun _ h => h
  have keyC : ∀ b ∈ as, PyProof.Rows.G.tupKeyC (h'.push (seqObj "list" (as.map Value.ref).toArray 0)) (fun _ => true) (.ref b) = some (txt2 (prOf H b)) := by
    intro b hb
    obtain ⟨ob, n, t1, t2, h1, h2, h3⟩ := obj b hb
    have hT : PyProof.Rows.G.isTupObj (h'.push (seqObj "list" (as.map Value.ref).toArray 0)) (.ref b) = true := by
      simp [PyProof.Rows.G.isTupObj, h1, h2]
    unfold PyProof.Rows.G.tupKeyC
    rw [if_pos hT]
    simp only [PyProof.Rows.tupKey, h1, h3]
    rfl
  refine wpAny_bind (wpAny_holding (wpAny_call_entry PyProof.Rows.slot_list_sort ⟨_, hoL, rfl⟩ PyProof.Rows.entry_list_sort
    (PyProof.Rows.G.list_sort_tups (s := { s with heap := h'.push (seqObj "list" (as.map Value.ref).toArray 0), toks := tk }) hoL hfs
      (fun v hv => ?_) hal fun st' hp hs _ => ⟨_, rfl, ?_⟩) (PyProof.Rows.args_list_sort _)))
  · obtain ⟨b, hb, rfl⟩ := List.mem_map.mp hv
    exact ⟨_, keyC b hb⟩
  obtain ⟨e', he'⟩ := PyProof.Rows.sortedHeap_at (vs := as.map Value.ref) (out := (arrOf st').map (·.2)) hoL
  have mem : ∀ p ∈ (arrOf st').toList, p.1 = p.2 ∧ p.1 ∈ as.map Value.ref := fun p hp' => by
    have h1 := (hp.toList.mem_iff (a := p)).mp hp'
    rw [PyProof.Rows.pairsOf_toList] at h1
    exact PyProof.Rows.mem_zip_self h1
  obtain ⟨qs, hq1, hq2⟩ : ∃ qs : List Addr, (arrOf st').toList.map (·.2) = qs.map Value.ref ∧ qs.Perm as := by
    have h1 : ((arrOf st').toList.map (·.2)).Perm (as.map Value.ref) := by
      have h2 := hp.toList.map (fun p : Keyed => p.2)
      rw [PyProof.Rows.pairsOf_toList] at h2
      rw [List.map_snd_zip (Nat.le_refl _)] at h2
      exact h2
    exact perm_back h1
  have hql : qs.length = as.length := hq2.length_eq
  have harr : (arrOf st').toList.length = qs.length := by
    have h1 := congrArg List.length hq1
    rw [List.length_map, List.length_map] at h1
    exact h1
  have hkk : ∀ i, i < qs.length → PyProof.Rows.KK (PyProof.Rows.G.tupKindC (h'.push (seqObj "list" (as.map Value.ref).toArray 0)) fun _ => true) (arrOf st') i = txt2 (prOf H (qs.getD i 0)) := by
    intro i hi
    have hi' : i < (arrOf st').toList.length := by omega
    have e1 : (arrOf st')[i]? = some (arrOf st').toList[i] := by
      rw [← Array.getElem?_toList, List.getElem?_eq_getElem hi']
    obtain ⟨m1, m2⟩ := mem _ (List.getElem_mem hi')
    have e2 : (arrOf st').toList[i].2 = .ref (qs.getD i 0) := by
      have h1 := congrArg (fun l => l[i]?) hq1
      simp only [List.getElem?_map, List.getElem?_eq_getElem hi', List.getElem?_eq_getElem hi, Option.map_some, Option.some.injEq] at h1
      rw [h1, List.getD_eq_getElem?_getD, List.getElem?_eq_getElem hi]
      rfl
    have hin : qs.getD i 0 ∈ as := hq2.mem_iff.mp (by rw [List.getD_eq_getElem?_getD, List.getElem?_eq_getElem hi]; exact List.getElem_mem hi)
    unfold PyProof.Rows.KK
    rw [e1]
    show (PyProof.Rows.G.tupKeyC _ _ (arrOf st').toList[i].1).getD _ = _
    rw [m1, e2, keyC _ hin]
    rfl
  have srt : ∀ i j, i ≤ j → j < qs.length → ltSS (prOf H (qs.getD j 0)) (prOf H (qs.getD i 0)) = false := by
    intro i j hij hj
    have h1 := hs i j hij (by rw [PyProof.Rows.pairsOf_size, List.length_map]; omega)
    rw [hkk i (by omega), hkk j hj] at h1
    exact h1
  have vals : ∀ l : List Addr, Vals (l.map V.ref) (l.map Value.ref) := fun l => by
    induction l with
    | nil => exact .nil
    | cons b l ih => exact .cons rfl ih
  have hout : ((arrOf st').map (·.2)).toList = qs.map Value.ref := by
    rw [Array.toList_map]
    exact hq1
  have hz2 : (qs.map V.ref).length ≤ sizeLine := by
    rw [List.length_map, hql]
    rw [List.length_map] at hal
    exact hal
  have fresh := I1.hok.fresh (Nat.le_refl h'.objs.size)
  refine wpAny_pure ⟨.ref h'.objs.size, rfl, .ref h'.objs.size, upd H h'.objs.size (.lst (qs.map V.ref)), ?_, rfl, q as qs _ k1 k2 hq2 srt fresh⟩
  refine I1.laid (t' := tk) (fun b u e => ?_) (Nat.le_refl _) ⟨hz2, qs.map Value.ref, e', vals qs, ?_⟩
  · have hb : b < h'.objs.size := Heap.lt_size e
    rw [PyProof.Rows.sortedHeap_old (Nat.ne_of_lt hb) (by rw [size_push']; exact Nat.lt_succ_of_lt hb)]
    exact Heap.get?_push_of_some _ e
  · rw [← hout, Array.toArray_toList]
    exact he'
end
end Mq

namespace Mq
open PySem PySem.Spec PyProof.Rows L2
/-! ### pairs of texts by <= -/
def leSS (x y : Str × Str) : Bool := if x.1 = y.1 then (if x.2 = y.2 then true else !decide (y.2.cps.toList < x.2.cps.toList)) else !decide (y.1.cps.toList < x.1.cps.toList)
theorem op_leSS {X : Cx} (hu : X.A.units < cLine) : OpR X (compareOp .LtE) (fun x y H Q => ∃ (a b : Addr) (p q : Str × Str), x = .ref a ∧ y = .ref b ∧ SqT X.K H a [.str p.1, .str p.2] ∧ SqT X.K H b [.str q.1, .str q.2] ∧ Q (.bl (leSS p q)) H) := by
  intro pins s σ H x y v u Q I rx ry h
  obtain ⟨a, b, p, q, rfl, rfl, ha, hb, k⟩ := h
  cases rx
  cases ry
  obtain ⟨its, r1, p1, _⟩ := I.tuple ha
  obtain ⟨its2, r2, p2, _⟩ := I.tuple hb
  obtain ⟨u1, u2, rfl, ⟨t1, rfl⟩, ⟨t2, rfl⟩⟩ := vals2 r1
  obtain ⟨v1, v2, rfl, ⟨t3, rfl⟩, ⟨t4, rfl⟩⟩ := vals2 r2
  let e : Nat → Bool := fun j => if j = 0 then p.1 == q.1 else p.2 == q.2
  let r : Nat → Bool := fun j => if j = 0 then !decide (q.1.cps.toList < p.1.cps.toList) else !decide (q.2.cps.toList < p.2.cps.toList)
  have R := Ob.RcOp.tuples_le (A := X.A) (s := s) (e := e) (r := r) p1 p2 hu (fun j h1 h2 => by
    match j, h1, h2 with
    | 0, _, _ => exact SeqAt.EqAt.str_str _ _ _ _
    | 1, _, _ => exact SeqAt.EqAt.str_str _ _ _ _) (fun j h1 h2 _ => by
    match j, h1, h2 with
    | 0, _, _ => exact fun prog w E Q h => PySem.P.le_str h
    | 1, _, _ => exact fun prog w E Q h => PySem.P.le_str h)
  have z : Ob.lexAt e r (decide ((#[Value.str p.1 t1, Value.str p.2 t2] : Array Value).size ≤ (#[Value.str q.1 t3, Value.str q.2 t4] : Array Value).size)) 0 2 = leSS p q := by
    show (if (p.1 == q.1) = true then (if (p.2 == q.2) = true then true else !decide (q.2.cps.toList < p.2.cps.toList)) else !decide (q.1.cps.toList < p.1.cps.toList)) = _
    unfold leSS
    simp only [beq_iff_eq]
  have R2 : Ob.RcOp .LtE X.A s (.ref a) (.ref b) (leSS p q) := by
    rw [← z]
    exact R
  exact R2 X.prog X.w X.xe (EP X pins σ Q) ⟨.bl _, H, I, rfl, k⟩
/-- ahead, so not behind or equal -/
theorem le_of_lt {x y : Str × Str} (h : ltSS y x = true) : leSS x y = false := by
  have h1 : (decide (y.1.cps.toList < x.1.cps.toList) || (!decide (x.1.cps.toList < y.1.cps.toList) && (decide (y.2.cps.toList < x.2.cps.toList) || (!decide (x.2.cps.toList < y.2.cps.toList) && false)))) = true := h
  unfold leSS
  by_cases c1 : y.1.cps.toList < x.1.cps.toList
  · rw [if_neg (fun z => by rw [z] at c1; exact List.lt_irrefl _ c1), decide_eq_true c1]
    rfl
  · rw [decide_eq_false c1] at h1
    simp only [Bool.false_or, Bool.and_false, Bool.or_false, Bool.and_eq_true, Bool.not_eq_true', decide_eq_false_iff_not, decide_eq_true_eq] at h1
    obtain ⟨c2, c3⟩ := h1
    have e : x.1.cps.toList = y.1.cps.toList := List.le_antisymm (List.not_lt.mp c1) (List.not_lt.mp c2)
    have e' : x.1 = y.1 := congrArg Str.mk (Array.ext' e)
    rw [if_pos e', if_neg (fun z => by rw [z] at c3; exact List.lt_irrefl _ c3), decide_eq_true c3]
    rfl
theorem lt_of {x y : Str × Str} (h : ltSS x y = false) (n : x ≠ y) : ltSS y x = true := by
  cases e : ltSS y x with
  | true => rfl
  | false =>
    have h2 : txt2 x = txt2 y := (PyProof.Rows.listOrd PyProof.Rows.itemOrd).total _ _ h e
    injection h2 with h3 h4
    injection h4 with h5 _
    have e1 : x.1.cps.toList = y.1.cps.toList := by injection h3
    have e2 : x.2.cps.toList = y.2.cps.toList := by injection h5
    exact (n (Prod.ext (congrArg Str.mk (Array.ext' e1)) (congrArg Str.mk (Array.ext' e2)))).elim
end Mq

namespace Lw
open PySem PySem.Spec PyProof.Rows L2 Mq
open SX (S)
/-! ### books -/
structure Fd where
  x : Nat
  y : Nat
  z : List Nat
def fdV (f : Fd) : List V := [.str (S [f.x]), .str (S [f.y]), .str (S f.z)]
def FdAt (K : PySem.W.Frag) (H : Hp) (v : V) (f : Fd) : Prop := ∃ b, v = .ref b ∧ SqT K H b (fdV f)
def fdOk (sg : List Nat) (f : Fd) : Prop := f.x ∈ sg ∧ f.y ∈ sg ∧ (f.z = [] ∨ ∃ c ∈ sg, f.z = [c])
structure SgOk (sg : List Nat) : Prop where
  pos : 0 < sg.length
  few : sg.length ≤ 100000
  low : ∀ c ∈ sg, c < 128
  ok : lettersB sg = true
def spLetter : Sp := fun vs H Q _ => ∃ sg z : List Nat, vs = [.str (S sg), .str (S z)] ∧ z.length ≤ 1000 ∧ ((∃ c, z = [c] ∧ c ∈ sg ∧ Q (.bl true) H) ∨ (z = [] ∧ Q (.bl false) H))
def spFold (K : PySem.W.Frag) : Sp := fun vs H Q _ => ∃ (sg : List Nat) (v : V) (f : Fd), vs = [.str (S sg), v] ∧ FdAt K H v f ∧ fdOk sg f ∧ Q (.bl true) H
section
variable {P : Program} {w : World} {K : PySem.W.Frag} {mg : Str → Option Value} {base : Heap}
theorem ok_is_letter {f : Addr} {fd : FuncData} (F : Fun K "is_letter" "is_letter" s_is_letter f fd) (B : Blt mg) : FnOk P w K mg base CX0 1 f fd ["letters", "thing"] spLetter := by
  refine F.ok sc_is_letter (fun vs H Q E h => ?_) (fun cdv A outer s H vs Q E hr h => ?_)
  · obtain ⟨_, _, rfl, _⟩ := h
    rfl
  · obtain ⟨sg, z, rfl, hz, h⟩ := h
    refine ⟨_, pss_one (ps_ret (pe_and (pe_callB call_isi (by rfl) B.isi (by decide +kernel) (pa_cons (pv 1) (pa_cons (pe_bltn (v := .ty "str") (by rfl) B.str (by decide +kernel) rfl) pa_nil))) (pe_and (pe_cmpR op_eq (pe_callB call_len (by rfl) B.len (by decide +kernel) (pa_cons (pv 1) pa_nil)) pe_int (nomark _)) (pe_one (pe_cmpR op_in_sign (pv 1) (pv 0) rfl))))), ?_⟩
    refine ⟨_, rfl, _, .ty "str", _, _, true, rfl, .ty _, .base (.str _), kit_self, true, rfl, iteT ⟨_, rfl, _, _, rfl, len_S (by omega), rfl, _, rfl, ?_⟩⟩
    rcases h with ⟨c, rfl, hc, q⟩ | ⟨rfl, q⟩
    · refine ifT rfl ⟨_, rfl, _, rfl, c, S sg, rfl, rfl, ?_⟩
      rw [show decide (c ∈ (S sg).cps.toList) = true from decide_eq_true hc]
      exact q
    · exact ifF rfl q
theorem ok_is_fold {f fL : Addr} {fd fdL : FuncData} (F : Fun K "is_fold" "is_fold" s_is_fold f fd) (B : Blt mg)
    (FL : Fun K "is_letter" "is_letter" s_is_letter fL fdL) (gL : mg "is_letter" = some (.ref fL)) (bL : Binds K fdL ["letters", "thing"] []) : FnOk P w K mg base CX0 2 f fd ["letters", "thing"] (spFold K) := by
  have GL : FnOk P w K mg base CX0 1 fL fdL ["letters", "thing"] spLetter := ok_is_letter FL B
  refine F.ok sc_is_fold (fun vs H Q E h => ?_) (fun cdv A outer s H vs Q E hr h => ?_)
  · obtain ⟨_, _, _, rfl, _⟩ := h
    rfl
  · obtain ⟨sg, v, fo, rfl, ⟨b, rfl, hb⟩, ⟨h1, h2, h3⟩, q⟩ := h
    refine ⟨_, (pss_cons (ps_if (PW.pt (pw_or (pt_not (pt_val (pe_callB call_isi (by rfl) B.isi (by decide +kernel) (pa_cons (pv 1) (pa_cons (pe_bltn (v := .ty "tuple") (by rfl) B.tuple (by decide +kernel) rfl) pa_nil))))) (pw_or1 (pt_cmpR op_ne (pe_callB call_len (by rfl) B.len (by decide +kernel) (pa_cons (pv 1) pa_nil)) pe_int (nomark _))))) (pss_one (ps_ret pe_bl)) pss_nil)
      (pss_cons (ps_if (PW.pt (pw_or (pt_not (pt_val (pe_call GL (hr.mono (by decide)) (by rfl) gL FL.kp bL .nil pass0 (pa_cons (pv 0) (pa_cons (pe_ix ix_tup (pv 1) pe_int (fun _ _ => rfl)) pa_nil))))) (pw_or1 (pt_not (pt_val (pe_call GL (hr.mono (by decide)) (by rfl) gL FL.kp bL .nil pass0 (pa_cons (pv 0) (pa_cons (pe_ix ix_tup (pv 1) pe_int (fun _ _ => rfl)) pa_nil)))))))) (pss_one (ps_ret pe_bl)) pss_nil)
      (pss_one (ps_ret (pe_or (pe_call GL (hr.mono (by decide)) (by rfl) gL FL.kp bL .nil pass0 (pa_cons (pv 0) (pa_cons (pe_ix ix_tup (pv 1) pe_int (fun _ _ => rfl)) pa_nil))) (pe_one (pe_and (pe_callB call_isi (by rfl) B.isi (by decide +kernel) (pa_cons (pe_ix ix_tup (pv 1) pe_int (fun _ _ => rfl)) (pa_cons (pe_bltn (v := .ty "str") (by rfl) B.str (by decide +kernel) rfl) pa_nil))) (pe_one (pe_cmpR op_eq (pe_ix ix_tup (pv 1) pe_int (fun _ _ => rfl)) pe_str (nomark _)))))))))), ?_⟩
    have a0 : atI (fdV fo) 0 = some (.str (S [fo.x])) := atI_nat (j := 0) rfl
    have a1 : atI (fdV fo) 1 = some (.str (S [fo.y])) := atI_nat (j := 1) rfl
    have a2 : atI (fdV fo) 2 = some (.str (S fo.z)) := atI_nat (j := 2) rfl
    refine ⟨_, rfl, _, .ty "tuple", _, _, true, rfl, .ty _, ty_tup hb, kit_ty (by decide +kernel), true, rfl, ?_⟩
    refine ifF rfl ⟨_, rfl, _, _, rfl, len_tup hb, rfl, _, rfl, ifF rfl ?_⟩
    refine ⟨_, rfl, _, rfl, b, _, 0, _, rfl, rfl, hb, a0, sg, [fo.x], rfl, (by show 1 ≤ 1000; decide), Or.inl ⟨fo.x, rfl, h1, _, rfl, ?_⟩⟩
    refine ifF rfl ⟨_, rfl, _, rfl, b, _, 1, _, rfl, rfl, hb, a1, sg, [fo.y], rfl, (by show 1 ≤ 1000; decide), Or.inl ⟨fo.y, rfl, h2, _, rfl, ifF rfl ?_⟩⟩
    refine ⟨_, rfl, _, rfl, b, _, 2, _, rfl, rfl, hb, a2, sg, fo.z, rfl, ?_, ?_⟩
    · rcases h3 with h3 | ⟨c, _, h3⟩
      · rw [h3]
        exact Nat.zero_le _
      · rw [h3]
        show 1 ≤ 1000
        decide
    · rcases h3 with h3 | ⟨c, hc, h3⟩
      · refine Or.inr ⟨h3, _, rfl, ifF rfl ?_⟩
        refine ⟨_, rfl, b, _, 2, _, rfl, rfl, hb, a2, _, .ty "str", _, _, true, rfl, .ty _, .base (.str _), kit_self, true, rfl, ifT rfl ⟨_, rfl, b, _, 2, _, rfl, rfl, hb, a2, rfl, ?_⟩⟩
        rw [str_is_nil, decide_eq_true h3]
        exact q
      · exact Or.inl ⟨c, h3, hc, _, rfl, ifT rfl q⟩
end
end Lw

namespace Lw
open PySem PySem.Spec PyProof.Rows L2 Mq
open SX (S)
inductive FdAll (K : PySem.W.Frag) (H : Hp) : List V → List Fd → Prop
  | nil : FdAll K H [] []
  | cons {v : V} {f : Fd} {vs : List V} {fs : List Fd} : FdAt K H v f → FdAll K H vs fs → FdAll K H (v :: vs) (f :: fs)
theorem FdAt.kp {K : PySem.W.Frag} {H H' : Hp} {v : V} {f : Fd} (h : FdAt K H v f) (e : KpT K H H') : FdAt K H' v f := let ⟨a, x, y⟩ := h; ⟨a, x, e _ _ y⟩
theorem FdAll.kp {K : PySem.W.Frag} {H H' : Hp} (e : KpT K H H') : ∀ {vs : List V} {fs : List Fd}, FdAll K H vs fs → FdAll K H' vs fs
  | _, _, .nil => .nil
  | _, _, .cons a b => .cons (a.kp e) (FdAll.kp e b)
theorem FdAll.len {K : PySem.W.Frag} {H : Hp} : ∀ {vs : List V} {fs : List Fd}, FdAll K H vs fs → vs.length = fs.length
  | _, _, .nil => rfl
  | _, _, .cons a b => congrArg (· + 1) b.len
theorem FdAll.at {K : PySem.W.Frag} {H : Hp} : ∀ {vs : List V} {fs : List Fd} {i : Nat} {v : V}, FdAll K H vs fs → vs[i]? = some v → ∃ f, fs[i]? = some f ∧ FdAt K H v f
  | _, _, 0, _, .cons a b, h => ⟨_, rfl, by cases h; exact a⟩
  | _, _, i + 1, _, .cons a b, h => FdAll.at (i := i) b h
def keyF (f : Fd) : Str × Str := (S [f.x], S [f.y])
def tabF (fs : List Fd) : List (List Key × V) := fs.map fun f => ([Sum.inr (S [f.x]), Sum.inr (S [f.y])], V.str (S f.z))
/-- folds, as they have to be -/
structure FsOk (sg : List Nat) (fs : List Fd) : Prop where
  few : fs.length ≤ 100000
  ok : ∀ f ∈ fs, fdOk sg f
  asc : ∀ i j, i < j → j < fs.length → ∀ f g, fs[i]? = some f → fs[j]? = some g → ltSS (keyF f) (keyF g) = true
def bkF (sg : List Nat) (fa ta : Addr) : List (Str × V) := [("letters", .str (S sg)), ("folds", .ref fa), ("table", .ref ta)]
def BkAt (H : Hp) (C r : Addr) (sg : List Nat) (fs : List Fd) (fa ta : Addr) : Prop := (∃ dx, H r = some (.ins C dx (bkF sg fa ta))) ∧ H ta = some (.dT (tabF fs))
structure BkC (K : PySem.W.Frag) (C : Addr) : Prop where
  cls : Cls K C
  nL : NoAttr K C "letters"
  nF : NoAttr K C "folds"
  nT : NoAttr K C "table"
def spBook (K : PySem.W.Frag) (C : Addr) : Sp := fun vs H Q _ => ∃ (r dx fa : Addr) (sg : List Nat) (fs : List Fd) (xs : List V), vs = [.ref r, .str (S sg), .ref fa] ∧
  H r = some (.ins C dx []) ∧ SqT K H fa xs ∧ FdAll K H xs fs ∧ FsOk sg fs ∧ SgOk sg ∧
  ∀ H' ta, BkAt H' C r sg fs fa ta → (∀ b o, H b = some o → b ≠ r → H' b = some o) → Q .non H'
theorem tab_snoc (fs : List Fd) (f : Fd) : tabF (fs ++ [f]) = tabF fs ++ [([Sum.inr (S [f.x]), Sum.inr (S [f.y])], V.str (S f.z))] := by
  unfold tabF
  rw [List.map_append]
  rfl
theorem putK_new {κ : Type} [DecidableEq κ] {kvs : List (κ × V)} {k : κ} {v : V} (h : ∀ p ∈ kvs, p.1 ≠ k) : putK kvs k v = kvs ++ [(k, v)] := by
  unfold putK
  rw [if_neg]
  intro z
  obtain ⟨p, hp, e⟩ := List.any_eq_true.mp z
  exact h p hp (of_decide_eq_true e)
theorem walk_enumT {K : PySem.W.Frag} {a : Addr} {xs : List V} : Walk (Iee K a) xs.length (fun H => SqT K H a xs) (YPair (fun i => some (.int (i : Nat))) (fun i => xs[i]?)) := by
  refine ⟨fun i _ hi q => ⟨xs, xs[i], q, by simp [hi]⟩, fun _ q => ⟨xs, q, Nat.le_refl _⟩, fun i H v H' _ q y => ?_⟩
  obtain ⟨T, x, h1, h2, h3, h4⟩ := y
  exact ⟨T, .int (i : Nat), x, h1, h2, h3, rfl, h4 xs q⟩
def aheadF (fs : List Fd) : Nat → Str × Str
  | 0 => ("", "")
  | i + 1 => match fs[i]? with
    | some f => keyF f
    | none => ("", "")
theorem ahead_lt {sg : List Nat} {fs : List Fd} (h : FsOk sg fs) {i : Nat} {f : Fd} (hf : fs[i]? = some f) : ltSS (aheadF fs i) (keyF f) = true := by
  have hi : i < fs.length := by
    rcases Nat.lt_or_ge i fs.length with h | h
    · exact h
    · rw [List.getElem?_eq_none h] at hf
      cases hf
  cases i with
  | zero =>
    have e : ltSS ("", "") (keyF f) = (decide (([] : List Nat) < [f.x]) || (!decide ([f.x] < ([] : List Nat)) && (decide (([] : List Nat) < [f.y]) || (!decide ([f.y] < ([] : List Nat)) && false)))) := rfl
    show ltSS ("", "") (keyF f) = true
    rw [e, decide_eq_true (show ([] : List Nat) < [f.x] from List.nil_lt_cons _ _)]
    rfl
  | succ i =>
    have e : fs[i]? = some fs[i] := List.getElem?_eq_getElem (by omega)
    show ltSS (match fs[i]? with | some f => keyF f | none => ("", "")) _ = true
    rw [e]
    exact h.asc i (i + 1) (by omega) hi _ _ e hf
theorem key_ne {sg : List Nat} {fs : List Fd} (h : FsOk sg fs) {i : Nat} {f : Fd} (hf : fs[i]? = some f) : ∀ p ∈ tabF (fs.take i), p.1 ≠ [Sum.inr (S [f.x]), Sum.inr (S [f.y])] := by
  intro p hp e
  have hi : i < fs.length := by
    rcases Nat.lt_or_ge i fs.length with h | h
    · exact h
    · rw [List.getElem?_eq_none h] at hf
      cases hf
  obtain ⟨g, hg, rfl⟩ := List.mem_map.mp hp
  obtain ⟨j, hj⟩ := List.mem_iff_getElem?.mp hg
  have hji : j < i := by
    rcases Nat.lt_or_ge j i with h | h
    · exact h
    · rw [List.getElem?_eq_none (by rw [List.length_take]; omega)] at hj
      cases hj
  rw [List.getElem?_take, if_pos hji] at hj
  have l := h.asc j i hji hi g f hj hf
  have e1 : keyF g = keyF f := by
    injection e with e1 e2
    injection e2 with e2 _
    have e1' : S [g.x] = S [f.x] := Sum.inr.inj e1
    have e2' : S [g.y] = S [f.y] := Sum.inr.inj e2
    exact Prod.ext e1' e2'
  rw [e1] at l
  have := (PyProof.Rows.listOrd PyProof.Rows.itemOrd).irrefl (txt2 (keyF f))
  have l' : (PyProof.Rows.listOrd PyProof.Rows.itemOrd).blt (txt2 (keyF f)) (txt2 (keyF f)) = true := l
  rw [this] at l'
  cases l'
section
variable {P : Program} {w : World} {K : PySem.W.Frag} {mg : Str → Option Value} {base : Heap} {C : Addr}
theorem ok_book {f fL fF : Addr} {fd fdL fdF : FuncData} (F : Fun K "__init__" "Book.__init__" s_Book___init__ f fd) (B : Blt mg) (R : BkC K C)
    (FL : Fun K "is_letters" "is_letters" s_is_letters fL fdL) (gL : mg "is_letters" = some (.ref fL)) (bL : Binds K fdL ["thing"] []) (GL : FnOk P w K mg base CX0 2 fL fdL ["thing"] (spLetters K))
    (FF : Fun K "is_fold" "is_fold" s_is_fold fF fdF) (gF : mg "is_fold" = some (.ref fF)) (bF : Binds K fdF ["letters", "thing"] []) (GF : FnOk P w K mg base CX0 2 fF fdF ["letters", "thing"] (spFold K)) :
    FnOk P w K mg base CX0 3 f fd ["self", "letters", "folds"] (spBook K C) := by
  refine F.ok sc_Book___init__ (fun vs H Q E h => ?_) (fun cdv A outer s H vs Q E hr h => ?_)
  · obtain ⟨_, _, _, _, _, _, rfl, _⟩ := h
    rfl
  · obtain ⟨r, dx, fa, sg, fs, xs, rfl, hr0, hfa, hall, hfs, hs, q⟩ := h
    have hu : (A.deeper (envOfC "Book.__init__" (defScope s_Book___init__) s.heap.objs.size f cdv)).units + 64 < cLine := by
      have := hr.units
      omega
    have hu0 : (A.deeper (envOfC "Book.__init__" (defScope s_Book___init__) s.heap.objs.size f cdv)).units < cLine := by omega
    have hu1 : (A.deeper (envOfC "Book.__init__" (defScope s_Book___init__) s.heap.objs.size f cdv)).units + 1 < cLine := by omega
    refine ⟨_, (pss_cons (ps_if (pt_not (pt_val (pe_call GL (hr.mono (by decide)) (by rfl) gL FL.kp bL .nil pass0 (pa_cons (pv 1) pa_nil)))) (pss_one ps_dead) pss_nil)
      (pss_cons (ps_if (pt_not (pt_val (pe_callB call_isi (by rfl) B.isi (by decide +kernel) (pa_cons (pv 2) (pa_cons (pe_bltn (v := .ty "tuple") (by rfl) B.tuple (by decide +kernel) rfl) pa_nil))))) (pss_one ps_dead) pss_nil)
      (pss_cons (ps_set (i := 3) sc_Book___init__.nd rfl (Or.inl rfl) pe_dnewT)
      (pss_cons (ps_set (i := 4) sc_Book___init__.nd rfl (Or.inl rfl) (pe_tup (pa_cons pe_str (pa_cons pe_str pa_nil))))
      (pss_cons (ps_for PassesOwn.never rfl (pi_enumT (by rfl) B.enumerate (pa_cons (pv 2) pa_nil)) (pg_tup rfl (pgs_cons (pg_name (i := 5) sc_Book___init__.nd rfl (Or.inl rfl)) (pgs_cons (pg_name (i := 6) sc_Book___init__.nd rfl (Or.inl rfl)) pgs_nil)))
        (pss_cons (ps_if (PW.pt (pw_or (pt_not (pt_val (pe_call GF (hr.mono (by decide)) (by rfl) gF FF.kp bF .nil pass0 (pa_cons (pv 1) (pa_cons (pv 6) pa_nil))))) (pw_or1 (pt_cmpR (op_leSS hu0) (pe_slice sl_tup (pv 6) po_none (po_some pe_int)) (pv 4) (nomark _))))) (pss_one ps_dead) pss_nil)
        (pss_cons (ps_set (i := 4) sc_Book___init__.nd rfl (Or.inl rfl) (pe_slice sl_tup (pv 6) po_none (po_some pe_int)))
        (pss_one (ps_dput hu1 (pv 3) (pv 4) (pe_ix ix_tup (pv 6) pe_int (fun _ _ => rfl)) rfl)))))
      (pss_cons (ps_fld (pv 0) (pv 1) rfl)
      (pss_cons (ps_fld (pv 0) (pv 2) rfl)
      (pss_one (ps_fld (pv 0) (pv 3) rfl))))))))), ?_⟩
    have hl : xs.length = fs.length := hall.len
    refine ⟨_, rfl, _, rfl, Or.inl ⟨sg, rfl, by have := hs.few; omega, fun H1 s1 => ⟨_, rfl, ifF (by rw [hs.ok]; rfl) ?_⟩⟩⟩
    refine ⟨_, rfl, _, .ty "tuple", _, _, true, rfl, .ty _, ty_tup (Same.tup s1 hfa), kit_ty (by decide +kernel), true, rfl, iteF ?_⟩
    refine fun ta hta => ?_
    have s2 : Same H (upd H1 ta (.dT [])) := s1.trans (same_new hta)
    have ht2 : upd H1 ta (.dT []) ta = some (.dT (tabF [])) := upd_same
    have hnta : H ta = none := s1.free hta
    generalize upd H1 ta (.dT []) = H2 at s2 ht2 ⊢
    refine ⟨sz_le (n := 2) (by decide), fun p0 hp0 => ?_⟩
    have s3 : Same H (upd H2 p0 (.tup [V.str "", V.str ""])) := s2.trans (same_new hp0)
    have ht3 := (same_new (o := HO.tup [V.str "", V.str ""]) hp0) _ _ ht2
    have hp3 : upd H2 p0 (.tup [V.str "", V.str ""]) p0 = some (.tup [V.str "", V.str ""]) := upd_same
    generalize upd H2 p0 (.tup [V.str "", V.str ""]) = H3 at s3 ht3 hp3 ⊢
    refine ⟨_, rfl, fa, xs, rfl, Same.tup s3 hfa, ?_⟩
    refine for_it (walk_enumT (K := K) (a := fa) (xs := xs)) (fun i σ H' => Same H H' ∧ H' ta = some (.dT (tabF (fs.take i))) ∧ ∃ pa o5 o6, H' pa = some (.tup [.str (aheadF fs i).1, .str (aheadF fs i).2]) ∧ σ = [some (.ref r), some (.str (S sg)), some (.ref fa), some (.ref ta), some (.ref pa), o5, o6])
      ⟨s3, ht3, p0, _, _, hp3, rfl⟩ (fun i σ H' hi p => Same.tup p.1 hfa) ?_ ?_
    · rintro i x σ H4 H5 hi ⟨s4, ht4, pa, o5, o6, hpa, rfl⟩ ⟨T, y1, y2, rfl, hT, rfl, hy1, hy2⟩
      cases hy1
      obtain ⟨f, hf, hat⟩ := hall.at hy2
      have s5 := same_new (o := HO.tup [V.int (i : Nat), y2]) hT
      have t5 := s4.trans s5
      have ht5 := s5 _ _ ht4
      have hpa5 := s5 _ _ hpa
      refine ⟨T, _, rfl, Or.inl (Or.inl upd_same), rfl, _, _, rfl, _, _, rfl, rfl, ?_⟩
      generalize upd H4 T (.tup [V.int (i : Nat), y2]) = H5 at t5 ht5 hpa5 ⊢
      have hat5 := hat.kp (KpT.same t5)
      refine ⟨_, rfl, _, rfl, sg, y2, f, rfl, hat5, hfs.ok f (List.mem_of_getElem? hf), _, rfl, ifF rfl ?_⟩
      obtain ⟨b, rfl, hb⟩ := hat5
      have ecut : cutV (fdV f) none (some 2) = [V.str (S [f.x]), V.str (S [f.y])] := rfl
      refine ⟨_, rfl, 2, rfl, b, _, rfl, hb, (fun z => absurd z.2 (by show ¬ 2 = 3; decide)), fun p1 hp1 => ?_⟩
      rw [ecut]
      have s6 := same_new (o := HO.tup [V.str (S [f.x]), V.str (S [f.y])]) hp1
      refine ⟨_, rfl, p1, pa, keyF f, aheadF fs i, rfl, rfl, Or.inl (Or.inl upd_same), Or.inl (Or.inl (s6 _ _ hpa5)), _, rfl, ?_⟩
      rw [le_of_lt (ahead_lt hfs hf)]
      refine ifF rfl ?_
      have t6 := t5.trans s6
      have ht6 := s6 _ _ ht5
      have hb6 := Same.tup s6 hb
      generalize upd H5 p1 (.tup [V.str (S [f.x]), V.str (S [f.y])]) = H6 at t6 ht6 hb6 ⊢
      refine ⟨_, rfl, 2, rfl, b, _, rfl, hb6, (fun z => absurd z.2 (by show ¬ 2 = 3; decide)), fun p2 hp2 => ?_⟩
      rw [ecut]
      have s7 := same_new (o := HO.tup [V.str (S [f.x]), V.str (S [f.y])]) hp2
      have t7 := t6.trans s7
      have ht7 := s7 _ _ ht6
      have hb7 := Same.tup s7 hb6
      have hp7 : upd H6 p2 (.tup [V.str (S [f.x]), V.str (S [f.y])]) p2 = some (.tup [V.str (S [f.x]), V.str (S [f.y])]) := upd_same
      generalize upd H6 p2 (.tup [V.str (S [f.x]), V.str (S [f.y])]) = H7 at t7 ht7 hb7 hp7 ⊢
      have hlen : (tabF (fs.take i)).length < sizeLine := by
        unfold tabF
        rw [List.length_map, List.length_take]
        have := hfs.few
        exact sz_lt (by omega)
      have hput : putK (tabF (fs.take i)) [Sum.inr (S [f.x]), Sum.inr (S [f.y])] (V.str (S f.z)) = tabF (fs.take (i + 1)) := by
        rw [putK_new (key_ne hfs hf), List.take_add_one, hf]
        exact (tab_snoc _ f).symm
      refine ⟨_, rfl, b, _, 2, .str (S f.z), rfl, rfl, hb7, atI_nat (j := 2) rfl, _, rfl, _, rfl, ta, upd H7 ta (.dT (tabF (fs.take (i + 1)))), rfl, Or.inr ⟨tabF (fs.take i), [Sum.inr (S [f.x]), Sum.inr (S [f.y])], p2, ht7, rfl, hp7, hlen, by rw [hput]⟩, ?_⟩
      have hne : p2 ≠ ta := by
        rintro rfl
        rw [hp7] at ht7
        cases ht7
      refine ⟨fun b2 o2 e2 => ?_, upd_same, p2, _, _, (upd_ne hne).trans ?_, rfl⟩
      · rw [upd_ne (ne_of_none e2 hnta)]
        exact t7 b2 o2 e2
      · have e3 : aheadF fs (i + 1) = keyF f := by
          show (match fs[i]? with | some f => keyF f | none => ("", "")) = _
          rw [hf]
        rw [e3]
        exact hp7
    · rintro σ H4 ⟨s4, ht4, pa, o5, o6, hpa, rfl⟩
      rw [hl, List.take_length] at ht4
      have h4 := s4 _ _ hr0
      refine ⟨_, rfl, _, rfl, r, C, dx, [], rfl, h4, R.cls, R.nL, (by show 0 < 1000; decide), ?_⟩
      refine ⟨_, rfl, _, rfl, r, C, dx, _, rfl, upd_same, R.cls, R.nF, (by show 1 < 1000; decide), ?_⟩
      refine ⟨_, rfl, _, rfl, r, C, dx, _, rfl, upd_same, R.cls, R.nT, (by show 2 < 1000; decide), ?_⟩
      have hrt : ta ≠ r := by
        rintro rfl
        rw [hr0] at hnta
        cases hnta
      refine q _ ta ⟨⟨dx, upd_same.trans ?_⟩, (upd_ne hrt).trans ((upd_ne hrt).trans ((upd_ne hrt).trans ht4))⟩ (fun b o e hb => ?_)
      · exact congrArg (fun z => some (HO.ins C dx z)) rfl
      · rw [upd_ne hb, upd_ne hb, upd_ne hb]
        exact s4 b o e
end
end Lw

namespace Mq
open PySem PySem.Spec PyProof.Rows L2
open SX (S)
/-! ### a text cut at a sign -/
def spl (c : Nat) (a : List Nat) : List (List Nat) := (Txt.split (S a) (S [c])).map fun x => x.cps.toList
theorem spl_S (c : Nat) (a : List Nat) : Txt.split (S a) (S [c]) = (spl c a).map S := by
  unfold spl
  rw [List.map_map]
  exact (List.map_id _).symm
theorem spl_join (c : Nat) (a : List Nat) : TL.joinL [c] (spl c a) = a := by
  have h := StrLaws.join_split (S a) (S [c])
  rw [spl_S] at h
  have h2 : Txt.join (S [c]) ((spl c a).map S) = S a := (TL.join_eq _ _).trans h
  rw [SX.join_S] at h2
  exact SX.S_inj h2
theorem spl_of {c : Nat} (hc : c < 256) {ps : List (List Nat)} (hn : ps ≠ []) (h : ∀ p ∈ ps, c ∉ p) : spl c (TL.joinL [c] ps) = ps := by
  have h1 := TL.split_join (y := S [c]) (s := c) (S := []) rfl (by simp [S, hc]) (parts := ps.map S) (by simpa using hn) (fun p hp => by
    obtain ⟨q, hq, rfl⟩ := List.mem_map.mp hp
    exact h q hq)
  rw [SX.join_S, spl_S] at h1
  have h2 := congrArg (List.map fun x : Str => x.cps.toList) h1
  rw [List.map_map, List.map_map] at h2
  have e : ∀ xs : List (List Nat), xs.map ((fun x : Str => x.cps.toList) ∘ S) = xs := fun xs => List.map_id _
  rw [e, e] at h2
  exact h2
theorem spl_ne (c : Nat) (a : List Nat) : spl c a ≠ [] := by
  intro h
  have := PyProof.Rows.split_pos (S a) (S [c])
  rw [spl_S, h] at this
  cases this
theorem join_len (c : Nat) : ∀ ps : List (List Nat), ps ≠ [] → (TL.joinL [c] ps).length + 1 = (ps.map fun p => p.length + 1).sum
  | [], h => (h rfl).elim
  | [p], _ => by simp [TL.joinL]
  | p :: q :: r, _ => by
    have ih := join_len c (q :: r) (by simp)
    show (p ++ ([c] ++ TL.joinL [c] (q :: r))).length + 1 = (p.length + 1) + ((q :: r).map fun p => p.length + 1).sum
    rw [← ih]
    simp only [List.length_append, List.length_singleton]
    omega
theorem join_mem (c : Nat) : ∀ {ps : List (List Nat)} {p : List Nat}, p ∈ ps → ∀ d ∈ p, d ∈ TL.joinL [c] ps
  | [q], p, h, d, hd => by
    rw [List.mem_singleton.mp h] at hd
    exact hd
  | q :: q2 :: r, p, h, d, hd => by
    show d ∈ q ++ ([c] ++ TL.joinL [c] (q2 :: r))
    rcases List.mem_cons.mp h with rfl | h
    · exact List.mem_append_left _ hd
    · exact List.mem_append_right _ (List.mem_append_right _ (join_mem c h d hd))
theorem join_in (c : Nat) : ∀ {ps : List (List Nat)} {d : Nat}, d ∈ TL.joinL [c] ps → d = c ∨ ∃ p ∈ ps, d ∈ p
  | [], d, h => by cases h
  | [q], d, h => Or.inr ⟨q, List.mem_cons_self, h⟩
  | q :: q2 :: r, d, h => by
    have h : d ∈ q ++ ([c] ++ TL.joinL [c] (q2 :: r)) := h
    rcases List.mem_append.mp h with h | h
    · exact Or.inr ⟨q, List.mem_cons_self, h⟩
    rcases List.mem_append.mp h with h | h
    · exact Or.inl (List.mem_singleton.mp h)
    · rcases join_in c h with e | ⟨p, hp, e⟩
      · exact Or.inl e
      · exact Or.inr ⟨p, List.mem_cons_of_mem _ hp, e⟩
theorem sum_ge : ∀ {ps : List (List Nat)} {p : List Nat}, p ∈ ps → p.length + 1 ≤ (ps.map fun p => p.length + 1).sum
  | q :: r, p, h => by
    rw [List.map_cons, List.sum_cons]
    rcases List.mem_cons.mp h with rfl | h
    · omega
    · have := sum_ge h
      omega
theorem sum_many : ∀ ps : List (List Nat), ps.length ≤ (ps.map fun p => p.length + 1).sum
  | [] => Nat.zero_le _
  | q :: r => by
    rw [List.map_cons, List.sum_cons, List.length_cons]
    have := sum_many r
    omega
theorem spl_sum (c : Nat) (a : List Nat) : ((spl c a).map fun p => p.length + 1).sum = a.length + 1 := by
  have h := join_len c (spl c a) (spl_ne c a)
  rw [spl_join] at h
  exact h.symm
theorem spl_len {c : Nat} {a p : List Nat} (h : p ∈ spl c a) : p.length ≤ a.length := by
  have h1 := sum_ge h
  rw [spl_sum] at h1
  omega
theorem spl_many (c : Nat) (a : List Nat) : (spl c a).length ≤ a.length + 1 := by
  rw [← spl_sum c a]
  exact sum_many _
theorem spl_mem {c : Nat} {a p : List Nat} (h : p ∈ spl c a) {d : Nat} (hd : d ∈ p) : d ∈ a := by
  have := join_mem c h d hd
  rw [spl_join] at this
  exact this
end Mq


namespace MqE_line
open PySem PySem.Spec PyProof.Rows L2 Mq PySem.W PySem.Calls
/-! ### errors whose one parameter is line -/
def iA (p1 p2 : Pos) : Arguments := { posonlyargs := [], args := [{ arg := "self", annotation := none, pos := p1 }, { arg := "line", annotation := none, pos := p2 }], vararg := none, kwonlyargs := [], kw_defaults := [], kwarg := none, defaults := [] }
def iB (q1 q2 q3 q4 : Pos) : List Stmt := [.Assign [.Attribute (.Name "self" q1) "line" q2] (.Name "line" q3) q4]
def iS : Scope := { kind := .function, names := [(PySem.Str.ofString "self", .local), (PySem.Str.ofString "line", .local)], isGenerator := false, isCoroutine := false, more := [] }
/-- what the written part says of the class x at C, and of its __init__ at fI -/
structure Txt (K : Frag) (mg : Str → Option Value) (x qual : Str) (C fI : Addr) : Prop where
  gC : mg x = some (.ref C)
  kC : keepIn K (.ref C) = true
  ex : excInitIn K C exTail "Exception.__new__" = true
  ov : excOver K C exTail = true
  hdC : hasDictIn K C = true
  tk : takerIn K C "line" = some none
  sa : findIn K (.ref C) "__setattr__" = some (some (.builtin "object.__setattr__"))
  iC : findIn K (.ref C) "__init__" = some (some (.ref fI))
  tC : typeIn K (.ref fI) = some (.type "function")
  exC : subIn K (.ref C) (.type "BaseException") = some true
  tyC : typeIn K (.ref C) = some (.type "type")
  fn : ∃ (oc : Value) (od : Option Addr) (doc pm : Value) (an : Option Addr) (cdv ct : Value) (osl : Array (Option Value)) (p1 p2 q1 q2 q3 q4 : Pos),
    K.lookup fI = some ⟨oc, od, .func (fnOf "__init__" qual (iA p1 p2) (iB q1 q2 q3 q4) iS .none .none doc pm an cdv ct), osl⟩ ∧ codeIn K cdv qual = true
theorem ld_loc {M : Model} {s : Shared} {name : Str} {scope : Scope} {L a : Addr} {cd : Value} {m : Str → Option Value} {y : Str} {pos : Pos} {v : Value}
    {Q : Value → Shared → Prop} {A : Around} {E : Value → Shared → Prop} (hn : s.heap.Ns L m) (hv : m y = some v) (h : Q v s)
    (hk : scope.kind = .function := by rfl) (hl : (envOfC name scope L a cd).kindOf y = some .local := by rfl) (hd : (y == ("__debug__" : Str)) = false := by decide) :
    wpAny M A (eval (.Name y pos) (envOfC name scope L a cd)) Q E s := wpAny_Name (wpAny_loadName_local hk hl hn hv h) hd
/-- what __init__ leaves of a new error at e -/
structure Filled (h h' : Heap) (e C dx t1 : Addr) (v : Value) : Prop where
  keep : ∀ b o, b ≠ e → h.get? b = some o → h'.get? b = some o
  obj : h'.get? e = some (excObj C t1 (some dx) .none)
  big : h.objs.size ≤ dx
  ne : dx ≠ e
  ns : h'.Ns1 dx (fun y => if y = "line" then some v else none)
/-- a made error -/
structure Made (h h' : Heap) (e C d : Addr) (v : Value) : Prop where
  keep : ∀ b o, h.get? b = some o → h'.get? b = some o
  new : h.objs.size ≤ e
  obj : ∃ oe vs, h'.get? e = some oe ∧ oe.cls = .ref C ∧ oe.dict = some d ∧ oe.data = .fields vs ∧ vs[1]? = some .none
  big : h.objs.size ≤ d
  ne : d ≠ e
  ns : h'.Ns1 d (fun y => if y = "line" then some v else none)
section
variable {prog : Program} {w : World} {A : Around} {E : Value → Shared → Prop} {R : Result → Shared → Prop} {s : Shared} {K : Frag} {mg : Str → Option Value} {x qual : Str} {C fI : Addr}
theorem init_run (T : Txt K mg x qual C fI) {e t0 : Addr} {v : Value} (X : K.In s.heap) (lim : s.heap.NoLimit) (he : s.heap.get? e = some (excObj C t0 none .none)) (room : A.depth < recursionLimit)
    (hq : ∀ h' tk dx, Filled s.heap h' e C dx t0 v → R (.ok (.ret .none)) { s with heap := h', toks := tk }) :
    codeAny (model prog w) A (.call (.ref fI) ⟨[.ref e, v], []⟩) R s := by
  obtain ⟨oc, od, doc, pm, an, cdv, ct, osl, p1, p2, q1, q2, q3, q4, ho, hcd⟩ := T.fn
  refine Att.call_fn (binds := [("self", .ref e), ("line", v)]) X lim ho hcd room (BindsTo.of_eq (by first | rfl | with_unfolding_all rfl)) (by first | rfl | decide | with_unfolding_all rfl) (fun s₁ IC => ?_) rfl rfl rfl
  obtain ⟨h₁, tk₁, rfl⟩ := IC.toInCall.same
  have k : ∀ b o, s.heap.get? b = some o → h₁.get? b = some o := IC.toInCall.keep
  have hn := IC.toInCall.ns
  have X₁ : K.In h₁ := X.keeps k
  have he₁ := k _ _ he
  show wpAny _ _ (execs _ _) _ _ _
  refine wpAny_execs_cons (plainObj_wpAny_Assign_Attribute ?_)
  refine ld_loc (v := v) hn (by first | rfl | with_unfolding_all rfl | kernel_rfl) (ld_loc (v := .ref e) hn (by first | rfl | with_unfolding_all rfl | kernel_rfl) ?_)
  refine set_plain X₁ (ox := excObj C t0 none .none) (od := none) ⟨he₁, rfl, rfl, trivial⟩ T.sa ?_
  refine osa_first X₁ he₁ T.ov T.hdC T.tk (fun h₃ tk₃ dx k₃ dn dne he₃ hn₃ => ?_)
  show wpAny _ _ (execs _ _) _ _ _
  have z : s.heap.objs.size < h₁.objs.size := hn.lt
  exact wpAny_execs_nil (hq h₃ tk₃ dx ⟨fun b o hb e => k₃ b o hb (k b o e), he₃, Nat.le_of_lt (Nat.lt_of_lt_of_le z dn), dne, hn₃⟩)
theorem made_run (T : Txt K mg x qual C fI) {v : Value} (X : K.In s.heap) (lim : s.heap.NoLimit) (room : A.depth + 1 < recursionLimit)
    (hq : ∀ h' tk e d, Made s.heap h' e C d v → R (.ok (.ret (.ref e))) { s with heap := h', toks := tk }) :
    codeAny (model prog w) A (.call (.ref C) ⟨[v], []⟩) R s := by
  obtain ⟨nm, N, qn, bs, bm, hdct, sn, sub, ab, col, dd, k0, k1, k2, k3, k5, hC, hT⟩ := excInit_of X T.ex
  obtain ⟨hp, g, dr, tk, os⟩ := s
  have k : ∀ b o, hp.get? b = some o → ((hp.push (kdv_tup [v])).push (HandSPX.excO C hp.objs.size)).get? b = some o := fun b o e => Heap.get?_push_of_some _ (Heap.get?_push_of_some _ e)
  have hget : ((hp.push (kdv_tup [v])).push (HandSPX.excO C hp.objs.size)).get? (hp.objs.size + 1) = some (excObj C hp.objs.size none .none) := by heap_get
  refine HandSPX.call_own F.excBase_Exception hT hC (looks_findIn X T.iC) (fun self => bind_fn X self T.tC) (by rw [sizeLine_eq]; exact (by decide : 1 ≤ 16777216)) ?_
  refine init_run (s := ⟨(hp.push (kdv_tup [v])).push (HandSPX.excO C hp.objs.size), g, dr, tk, os⟩) T (X.keeps k) (lim.keeps k) hget ?_ (fun h' tk' dx M => ?_)
  · show A.depth + 1 < recursionLimit
    exact room
  · obtain ⟨k', hx, dn, dne, hns⟩ := M
    have old : ∀ b o, hp.get? b = some o → h'.get? b = some o := fun b o e => k' b o (Nat.ne_of_lt (Nat.lt_succ_of_lt (Heap.lt_size e))) (k b o e)
    have z : hp.objs.size + 1 + 1 ≤ dx := by
      have q := dn
      rw [Heap.size_push, Heap.size_push] at q
      exact q
    exact ⟨rfl, hq h' tk' (hp.objs.size + 1) dx ⟨old, Nat.le_succ _, ⟨_, _, hx, rfl, rfl, rfl, rfl⟩, Nat.le_trans (Nat.le_trans (Nat.le_succ _) (Nat.le_succ _)) z, dne, hns⟩⟩
end
theorem relO_f {v : V} {v' : Value} (r : RelV v v') (f : Str) : RelO (List.lookup f [(("line" : Str), v)]) (if f = "line" then some v' else none) := by
  by_cases hw : f = "line"
  · subst hw
    rw [if_pos rfl]
    have q : List.lookup ("line" : Str) [(("line" : Str), v)] = some v := by simp [List.lookup]
    rw [q]
    exact r
  · rw [if_neg hw]
    have qw : (f == ("line" : Str)) = false := by simpa using hw
    have q2 : List.lookup f [(("line" : Str), v)] = none := by simp [List.lookup, qw]
    rw [q2]
    trivial
section
variable {X : Cx} {C fI : Addr} {x qual : Str}
/-- x(e) -/
def tMk (C : Addr) (ta : TA) : L2.St → Hp → XK → Prop := fun σ H Q => ta σ H fun vs H1 => ∃ v, vs = [v] ∧ ∀ d, H1 d = none → Q (.ref C) (some d) (upd H1 d (.xd [(("line" : Str), v)]))
theorem pmk {a : Expr} {ta : TA} {p pos : Pos} {k : Nat} (T : Txt X.K X.mg x qual C fI) (hr : Room k X.A) (ha : PA X [a] ta) (hg : Gl X x := by rfl) (hdb : (x == ("__debug__" : Str)) = false := by decide)
    (he : starEach (a :: []) X.env = (false, eval a X.env) :: starEach [] X.env := by rfl) (hpl : (backTo pos (starEach [] X.env)).any (·.1) = false := by rfl) :
    PMk X (.Call (.Name x p) [a] [] pos) (tMk C ta) := by
  intro pins s σ H Q I h
  refine wpAny_Call_Name_kw (ld_glob I hg T.gC ?_ hdb)
  refine callWith_K (h₀ := X.base) I.ok.mod.kin T.kC (thn (ha.run pos pins s σ H _ I h) fun us s1 hh => ?_) he hpl
  obtain ⟨vs, H1, I1, r1, v, ev, q1⟩ := hh
  subst ev
  refine ⟨I1.kIn, ?_⟩
  cases r1 with
  | cons rv rn =>
    rename_i v' us'
    cases rn
    show wpAny _ _ (call (.ref C) [v']) _ _ _
    have hlim := I1.nolimit
    obtain ⟨hp, g, dr, tk, os⟩ := s1
    refine wpAny_call (made_run T I1.kIn hlim (by have := hr.dp; omega) (fun h' tk' e d M => ?_))
    show MkP X pins σ Q (.ref e) ⟨h', g, dr, tk', os⟩
    obtain ⟨oe, fv, hoe, hc, hd, hdat, h1⟩ := M.obj
    have hns := M.ns
    obtain ⟨G', g1, g2⟩ := restrict h' fun b => decide (b ≠ e)
    have gk : ∀ b, b ≠ e → G'.get? b = h'.get? b := fun b hb => g1 b (decide_eq_true hb)
    have ge : G'.get? e = none := g2 e (by simp)
    have old : ∀ b o, hp.get? b = some o → G'.get? b = some o := fun b o q => (gk b (Nat.ne_of_lt (Nat.lt_of_lt_of_le (Heap.lt_size q) M.new))).trans (M.keep b o q)
    have ob : ObjOk X.prog X.w (upd H1 d (.xd [(("line" : Str), v)])) G' d (.xd [(("line" : Str), v)]) :=
      ⟨_, hns.at (fun o q => (gk d M.ne).trans q), fun f => relO_f rv f⟩
    have J : L2.Inv X pins σ (upd H1 d (.xd [(("line" : Str), v)])) ⟨G', g, dr, tk', os⟩ := I1.laid (t' := tk') old M.big ob
    refine ⟨e, oe, fv, ⟨G', g, dr, tk', os⟩, _, .ref C, some d, rfl, J, (fun b o q => ?_), ge, hoe, ⟨hc, hd⟩, hdat, h1, ?_, rfl, I1.bare, raises_own T.exC T.tyC, q1 d (I1.hok.fresh M.big)⟩
    · by_cases hb : b = e
      · have q' : G'.get? b = some o := q
        rw [hb, ge] at q'
        cases q'
      · exact (gk b hb).symm.trans q
    · rw [upd_ne (Ne.symm M.ne)]
      exact I1.hok.fresh M.new
/-- raise x(e) -/
def tRaise (C : Addr) (W : WX) (ta : TA) : TS := fun _ σ H => tMk C ta σ H fun cls d H' => W cls d σ H'
theorem ps_raise {a : Expr} {ta : TA} {W : WX} {p pos pos2 : Pos} {k : Nat} (hc : X.calm = true) (T : Txt X.K X.mg x qual C fI) (hr : Room k X.A) (tk : Takes X W) (ha : PA X [a] ta) (hg : Gl X x := by rfl) (hdb : (x == ("__debug__" : Str)) = false := by decide)
    (he : starEach (a :: []) X.env = (false, eval a X.env) :: starEach [] X.env := by rfl) (hpl : (backTo pos (starEach [] X.env)).any (·.1) = false := by rfl) :
    PS X (.Raise (some (.Call (.Name x p) [a] [] pos)) none pos2) (tRaise C W ta) := L2.ps_raise hc tk (pmk T hr ha hg hdb he hpl)
end
end MqE_line

namespace Mq
open PySem PySem.Spec PyProof.Rows L2
/-- repr of a list or tuple without dicts in it, wherever it stands -/
def rRepP (K : PySem.W.Frag) : List V → Hp → VK → Prop := fun xs H Q => ∃ (a : Addr) (d : PyData), xs = [.ref a] ∧ Dp K H (.ref a) d ∧ d.showable = true ∧ d.hasDict = false ∧
  d.depth ≤ 40 ∧ d.shown.length ≤ sizeLine ∧ Q (.str d.shown) H
theorem call_repP {X : Cx} {k : Nat} (hr : Room k X.A) (gA : Still X.A) : CallR X (.builtin "repr") (rRepP X.K) := by
  intro pins s σ H xs us Q I r h
  obtain ⟨a, d, rfl, hd, hs, hz, hde, hl, q⟩ := h
  obtain ⟨u, rfl, rx⟩ := vals1 r
  have hu := hr.units
  obtain ⟨as, rd⟩ := Dp.reads I d _ _ hd rx
  cases rx
  exact repr_of_reads' rd hs (fun z => by rw [hz] at z; cases z) gA (by omega) (fun _ _ e => e) (fun h' u tk k => ⟨.str _, H, I.kept k, ⟨_, rfl⟩, q⟩) hl
/-- what a rule asks, told otherwise -/
theorem PE_imp {X : Cx} {e : Expr} {t t' : TE} (h : PE X e t) (i : ∀ σ H Q, t' σ H Q → t σ H Q) : PE X e t' := ⟨fun pins s σ H Q I q => h.run pins s σ H Q I (i σ H Q q)⟩
end Mq

namespace Lw
open PySem PySem.Spec PyProof.Rows L2 Mq
open SX (S)
/-! ### letters and folds that are told by words -/
def letB (sg : List Nat) : List Nat → Bool
  | [c] => decide (c ∈ sg)
  | _ => false
def foldB (sg a b c : List Nat) : Bool := letB sg a && (letB sg b && (letB sg c || decide (c = [])))
def spLetterT : Sp := fun vs H Q _ => ∃ sg z : List Nat, vs = [.str (S sg), .str (S z)] ∧ z.length ≤ 100000 ∧ Q (.bl (letB sg z)) H
def spFoldT (K : PySem.W.Frag) : Sp := fun vs H Q _ => ∃ (sg a b c : List Nat) (p : Addr), vs = [.str (S sg), .ref p] ∧ SqT K H p [.str (S a), .str (S b), .str (S c)] ∧ a.length ≤ 100000 ∧ b.length ≤ 100000 ∧ c.length ≤ 100000 ∧ Q (.bl (foldB sg a b c)) H
/-- the fold that a line tells -/
def dashM (w : List Nat) : List Nat := if w = [45] then [] else w
def foldM (sg line : List Nat) : Option Fd :=
  match spl 32 line with
  | [w0, w1, w2, w3] => if (decide (w0 = [102, 111, 108, 100]) && (decide (w3 ≠ []) && foldB sg w1 w2 (dashM w3))) = true then some ⟨w1.headD 0, w2.headD 0, dashM w3⟩ else none
  | _ => none
def FoldR (K : PySem.W.Frag) (H : Hp) : Option Fd → V → Prop
  | none, v => v = .non
  | some f, v => FdAt K H v f
def spFoldOf (K : PySem.W.Frag) : Sp := fun vs H Q _ => ∃ sg line : List Nat, vs = [.str (S sg), .str (S line)] ∧ sg.length ≤ 100000 ∧ line.length ≤ 100000 ∧ ∀ H' v, Same H H' → FoldR K H' (foldM sg line) v → Q v H'
theorem letB_one {sg a : List Nat} (h : letB sg a = true) : ∃ c, a = [c] ∧ c ∈ sg := by
  match a, h with
  | [c], h => exact ⟨c, rfl, of_decide_eq_true h⟩
theorem foldB_fd {sg a b c : List Nat} (h : foldB sg a b c = true) : ∃ f : Fd, fdOk sg f ∧ f = ⟨a.headD 0, b.headD 0, c⟩ ∧ a = [f.x] ∧ b = [f.y] ∧ c = f.z := by
  unfold foldB at h
  obtain ⟨h1, h⟩ := Bool.and_eq_true_iff.mp h
  obtain ⟨h2, h3⟩ := Bool.and_eq_true_iff.mp h
  obtain ⟨x, rfl, hx⟩ := letB_one h1
  obtain ⟨y, rfl, hy⟩ := letB_one h2
  refine ⟨⟨x, y, c⟩, ⟨hx, hy, ?_⟩, rfl, rfl, rfl, rfl⟩
  rcases Bool.or_eq_true_iff.mp h3 with h3 | h3
  · obtain ⟨z, rfl, hz⟩ := letB_one h3
    exact Or.inr ⟨z, hz, rfl⟩
  · exact Or.inl (of_decide_eq_true h3)
theorem fold_ok {sg line : List Nat} {f : Fd} (h : foldM sg line = some f) : fdOk sg f := by
  unfold foldM at h
  split at h
  · split at h
    · rename_i h1
      obtain ⟨_, h1⟩ := Bool.and_eq_true_iff.mp h1
      obtain ⟨_, h1⟩ := Bool.and_eq_true_iff.mp h1
      obtain ⟨g, ok, e, _⟩ := foldB_fd h1
      rw [← e] at h
      cases h
      exact ok
    · cases h
  · cases h
theorem S_dec (a b : List Nat) : decide (V.str (S a) = V.str (S b)) = decide (a = b) := by
  refine decide_eq_decide.mpr ⟨fun h => SX.S_inj (V.str.inj h), fun h => by rw [h]⟩
theorem int_ne {n m : Nat} (h : n ≠ m) : (!decide (V.int (n : Nat) = V.int (m : Nat))) = true := by
  rw [Bool.not_eq_true']
  exact decide_eq_false fun z => h (Int.ofNat.inj (V.int.inj z))
theorem dead_of {a b : Bool} (h : a = true) (h2 : a = false) : False := by rw [h] at h2; cases h2
section
variable {P : Program} {w : World} {K : PySem.W.Frag} {mg : Str → Option Value} {base : Heap}
theorem ok_letterT {f : Addr} {fd : FuncData} (F : Fun K "is_letter" "is_letter" s_is_letter f fd) (B : Blt mg) : FnOk P w K mg base CX0 1 f fd ["letters", "thing"] spLetterT := by
  refine F.ok sc_is_letter (fun vs H Q E h => ?_) (fun cdv A outer s H vs Q E hr h => ?_)
  · obtain ⟨_, _, rfl, _⟩ := h
    rfl
  · obtain ⟨sg, z, rfl, hz, q⟩ := h
    refine ⟨_, pss_one (ps_ret (pe_and (pe_callB call_isi (by rfl) B.isi (by decide +kernel) (pa_cons (pv 1) (pa_cons (pe_bltn (v := .ty "str") (by rfl) B.str (by decide +kernel) rfl) pa_nil))) (pe_and (pe_cmpR op_eq (pe_callB call_len (by rfl) B.len (by decide +kernel) (pa_cons (pv 1) pa_nil)) pe_int (nomark _)) (pe_one (pe_cmpR op_in_sign (pv 1) (pv 0) rfl))))), ?_⟩
    refine ⟨_, rfl, _, .ty "str", _, _, true, rfl, .ty _, .base (.str _), kit_self, true, rfl, iteT ⟨_, rfl, _, _, rfl, len_S hz, rfl, _, rfl, ?_⟩⟩
    match z, q with
    | [], q => exact ifF rfl q
    | [c], q =>
      refine ifT rfl ⟨_, rfl, _, rfl, c, S sg, rfl, rfl, ?_⟩
      exact q
    | a :: b :: r, q =>
      refine ifF (decide_eq_false fun e => ?_) q
      have e1 := V.int.inj e
      have e2 : ((a :: b :: r).length : Int) = 1 := e1
      rw [List.length_cons, List.length_cons] at e2
      omega
theorem ok_foldT {f fL : Addr} {fd fdL : FuncData} (F : Fun K "is_fold" "is_fold" s_is_fold f fd) (B : Blt mg)
    (FL : Fun K "is_letter" "is_letter" s_is_letter fL fdL) (gL : mg "is_letter" = some (.ref fL)) (bL : Binds K fdL ["letters", "thing"] []) : FnOk P w K mg base CX0 2 f fd ["letters", "thing"] (spFoldT K) := by
  have GL : FnOk P w K mg base CX0 1 fL fdL ["letters", "thing"] spLetterT := ok_letterT FL B
  refine F.ok sc_is_fold (fun vs H Q E h => ?_) (fun cdv A outer s H vs Q E hr h => ?_)
  · obtain ⟨_, _, _, _, _, rfl, _⟩ := h
    rfl
  · obtain ⟨sg, a, b, c, p, rfl, hp, ha, hb, hc, q⟩ := h
    refine ⟨_, (pss_cons (ps_if (PW.pt (pw_or (pt_not (pt_val (pe_callB call_isi (by rfl) B.isi (by decide +kernel) (pa_cons (pv 1) (pa_cons (pe_bltn (v := .ty "tuple") (by rfl) B.tuple (by decide +kernel) rfl) pa_nil))))) (pw_or1 (pt_cmpR op_ne (pe_callB call_len_seq (by rfl) B.len (by decide +kernel) (pa_cons (pv 1) pa_nil)) pe_int (nomark _))))) (pss_one (ps_ret pe_bl)) pss_nil)
      (pss_cons (ps_if (PW.pt (pw_or (pt_not (pt_val (pe_call GL (hr.mono (by decide)) (by rfl) gL FL.kp bL .nil pass0 (pa_cons (pv 0) (pa_cons (pe_ix ix_tup (pv 1) pe_int (fun _ _ => rfl)) pa_nil))))) (pw_or1 (pt_not (pt_val (pe_call GL (hr.mono (by decide)) (by rfl) gL FL.kp bL .nil pass0 (pa_cons (pv 0) (pa_cons (pe_ix ix_tup (pv 1) pe_int (fun _ _ => rfl)) pa_nil)))))))) (pss_one (ps_ret pe_bl)) pss_nil)
      (pss_one (ps_ret (pe_or (pe_call GL (hr.mono (by decide)) (by rfl) gL FL.kp bL .nil pass0 (pa_cons (pv 0) (pa_cons (pe_ix ix_tup (pv 1) pe_int (fun _ _ => rfl)) pa_nil))) (pe_one (pe_and (pe_callB call_isi (by rfl) B.isi (by decide +kernel) (pa_cons (pe_ix ix_tup (pv 1) pe_int (fun _ _ => rfl)) (pa_cons (pe_bltn (v := .ty "str") (by rfl) B.str (by decide +kernel) rfl) pa_nil))) (pe_one (pe_cmpR op_eq (pe_ix ix_tup (pv 1) pe_int (fun _ _ => rfl)) pe_str (nomark _)))))))))), ?_⟩
    have a0 : atI [V.str (S a), V.str (S b), V.str (S c)] 0 = some (.str (S a)) := atI_nat (j := 0) rfl
    have a1 : atI [V.str (S a), V.str (S b), V.str (S c)] 1 = some (.str (S b)) := atI_nat (j := 1) rfl
    have a2 : atI [V.str (S a), V.str (S b), V.str (S c)] 2 = some (.str (S c)) := atI_nat (j := 2) rfl
    refine ⟨_, rfl, _, .ty "tuple", _, _, true, rfl, .ty _, ty_tup hp, kit_ty (by decide +kernel), true, rfl, ?_⟩
    refine ifF rfl ⟨_, rfl, _, _, rfl, Or.inr hp, rfl, _, rfl, ifF rfl ?_⟩
    refine ⟨_, rfl, _, rfl, p, _, 0, _, rfl, rfl, hp, a0, sg, a, rfl, ha, _, rfl, ?_⟩
    cases e1 : letB sg a with
    | false =>
      refine ifT rfl (ifT rfl ?_)
      unfold foldB at q
      rw [e1] at q
      exact q
    | true =>
      refine ifF rfl ⟨_, rfl, _, rfl, p, _, 1, _, rfl, rfl, hp, a1, sg, b, rfl, hb, _, rfl, ?_⟩
      cases e2 : letB sg b with
      | false =>
        refine ifT rfl ?_
        unfold foldB at q
        rw [e1, e2] at q
        exact q
      | true =>
        refine ifF rfl ⟨_, rfl, _, rfl, p, _, 2, _, rfl, rfl, hp, a2, sg, c, rfl, hc, _, rfl, ?_⟩
        cases e3 : letB sg c with
        | true =>
          refine ifT rfl ?_
          unfold foldB at q
          rw [e1, e2, e3] at q
          exact q
        | false =>
          refine ifF rfl ⟨_, rfl, p, _, 2, _, rfl, rfl, hp, a2, _, .ty "str", _, _, true, rfl, .ty _, .base (.str _), kit_self, true, rfl, ifT rfl ⟨_, rfl, p, _, 2, _, rfl, rfl, hp, a2, rfl, ?_⟩⟩
          rw [str_is_nil]
          unfold foldB at q
          rw [e1, e2, e3] at q
          exact q
/-- words[3], nothing for the dash -/
def tDash (K : PySem.W.Frag) : TE := fun σ H Q => ∃ p xs w3, σ[2]? = some (some (.ref p)) ∧ SqL K H p xs ∧ atI xs 3 = some (.str (S w3)) ∧ Q (.str (S (dashM w3))) H
theorem ok_fold_read {f fO : Addr} {fd fdO : FuncData} (F : Fun K "fold_read" "fold_read" s_fold_read f fd) (B : Blt mg)
    (FO : Fun K "is_fold" "is_fold" s_is_fold fO fdO) (gO : mg "is_fold" = some (.ref fO)) (bO : Binds K fdO ["letters", "thing"] []) (GO : FnOk P w K mg base CX0 2 fO fdO ["letters", "thing"] (spFoldT K)) :
    FnOk P w K mg base CX0 3 f fd ["letters", "line"] (spFoldOf K) := by
  refine F.ok sc_fold_read (fun vs H Q E h => ?_) (fun cdv A outer s H vs Q E hr h => ?_)
  · obtain ⟨_, _, rfl, _⟩ := h
    rfl
  · obtain ⟨sg, line, rfl, hs, hl, q⟩ := h
    refine ⟨_, (pss_cons (ps_set (i := 2) sc_fold_read.nd rfl (Or.inl rfl) (pe_split (pv 1) pe_str))
      (pss_cons (ps_if (PW.pt (pw_or (pt_cmpR op_ne (pe_callB call_len_seq (by rfl) B.len (by decide +kernel) (pa_cons (pv 2) pa_nil)) pe_int (nomark _)) (pw_or1 (pt_cmpR op_ne (pe_ix ix_list (pv 2) pe_int (fun _ _ => rfl)) pe_str (nomark _))))) (pss_one (ps_ret pe_non)) pss_nil)
      (pss_cons (ps_set (i := 3) sc_fold_read.nd rfl (Or.inl rfl) (pe_tup (pa_cons (pe_ix ix_list (pv 2) pe_int (fun _ _ => rfl)) (pa_cons (pe_ix ix_list (pv 2) pe_int (fun _ _ => rfl)) (pa_cons (PE_imp (t' := tDash K) (pe_ifExp (pt_cmpR op_eq (pe_ix ix_list (pv 2) pe_int (fun _ _ => rfl)) pe_str (nomark _)) pe_str (pe_ix ix_list (pv 2) pe_int (fun _ _ => rfl))) (fun σ H Q h => by
        obtain ⟨p, xs, w3, hσ, hp, h3, q⟩ := h
        refine ⟨_, hσ, p, _, 3, _, rfl, rfl, hp, h3, rfl, _, rfl, ?_⟩
        rw [show decide (V.str (S w3) = V.str "-") = decide (w3 = [45]) from S_dec w3 [45]]
        unfold dashM at q
        refine ite2 (fun c => ?_) (fun c => ?_)
        · rw [if_pos (of_decide_eq_true c)] at q
          exact q
        · rw [if_neg (fun e => c (decide_eq_true e))] at q
          exact ⟨_, hσ, p, _, 3, _, rfl, rfl, hp, h3, q⟩)) pa_nil)))))
      (pss_one (ps_ret (pe_ifExp (PW.pt (pw_and (pt_cmpR op_ne (pe_ix ix_list (pv 2) pe_int (fun _ _ => rfl)) pe_str (nomark _)) (pw_and1 (pt_val (pe_call GO (hr.mono (by decide)) (by rfl) gO FO.kp bO .nil pass0 (pa_cons (pv 0) (pa_cons (pv 3) pa_nil))))))) (pv 3) pe_non)))))), ?_⟩
    have hz : (S line).length = line.length := SX.S_len line
    refine ⟨_, rfl, ⟨_, rfl⟩, S line, S [32], rfl, rfl, rfl, ?_, fun p hp => ?_⟩
    · exact sz_le (by omega)
    rw [spl_S]
    have s1 := same_new (o := HO.lst (((spl 32 line).map S).map V.str)) hp
    have z1 : upd H p (.lst (((spl 32 line).map S).map V.str)) p = some (.lst (((spl 32 line).map S).map V.str)) := upd_same
    generalize upd H p (.lst (((spl 32 line).map S).map V.str)) = H1 at s1 z1 ⊢
    have hn : ∀ x ∈ spl 32 line, x.length ≤ 100000 := fun x hx => Nat.le_trans (spl_len hx) hl
    refine ⟨_, rfl, p, _, rfl, .inl (SqL.of z1), rfl, _, rfl, ?_⟩
    have ef : foldM sg line = foldM sg line := rfl
    generalize hfm : foldM sg line = fm at q
    unfold foldM at hfm
    generalize spl 32 line = ws at z1 hn hfm ⊢
    have bad : ∀ ws : List (List Nat), ws.length ≠ 4 → (match ws with
        | [w0, w1, w2, w3] => if (decide (w0 = [102, 111, 108, 100]) && (decide (w3 ≠ []) && foldB sg w1 w2 (dashM w3))) = true then some (⟨w1.headD 0, w2.headD 0, dashM w3⟩ : Fd) else none
        | _ => none) = none := by
      intro ws h
      match ws, h with
      | [], _ => rfl
      | [_], _ => rfl
      | [_, _], _ => rfl
      | [_, _, _], _ => rfl
      | [_, _, _, _], h => exact (h rfl).elim
      | _ :: _ :: _ :: _ :: _ :: _, _ => rfl
    by_cases h4 : ws.length ≠ 4
    · rw [bad ws h4] at hfm
      refine ifT (int_ne (m := 4) (by rw [List.length_map, List.length_map]; exact h4)) (q H1 _ s1 ?_)
      rw [← hfm]
      rfl
    clear bad
    match ws, h4, hfm with
    | [], h4, _ => exact (h4 (by decide)).elim
    | [_], h4, _ => exact (h4 (by show 1 ≠ 4; decide)).elim
    | [_, _], h4, _ => exact (h4 (by show 2 ≠ 4; decide)).elim
    | [_, _, _], h4, _ => exact (h4 (by show 3 ≠ 4; decide)).elim
    | a :: b :: c :: d :: e :: r, h4, _ => exact (h4 (by simp only [List.length_cons]; omega)).elim
    | [w0, w1, w2, w3], h4, hfm =>
      have h0 : atI (([w0, w1, w2, w3].map S).map V.str) 0 = some (.str (S w0)) := atI_nat (j := 0) rfl
      have h1 : atI (([w0, w1, w2, w3].map S).map V.str) 1 = some (.str (S w1)) := atI_nat (j := 1) rfl
      have h2 : atI (([w0, w1, w2, w3].map S).map V.str) 2 = some (.str (S w2)) := atI_nat (j := 2) rfl
      have h3 : atI (([w0, w1, w2, w3].map S).map V.str) 3 = some (.str (S w3)) := atI_nat (j := 3) rfl
      have n1 := hn w1 (by simp)
      have n2 := hn w2 (by simp)
      have n3 := hn w3 (by simp)
      dsimp only at hfm
      refine ifF rfl ⟨_, rfl, p, _, 0, _, rfl, rfl, SqL.of z1, h0, rfl, _, rfl, ?_⟩
      have e0 : decide (V.str (S w0) = V.str "fold") = decide (w0 = [102, 111, 108, 100]) := S_dec w0 [102, 111, 108, 100]
      rw [e0]
      cases c0 : decide (w0 = [102, 111, 108, 100]) with
      | false =>
        refine ifT rfl (q H1 _ s1 ?_)
        rw [c0] at hfm
        rw [← hfm]
        rfl
      | true =>
        rw [c0] at hfm
        refine ifF rfl ?_
        refine ⟨_, rfl, p, _, 1, _, rfl, rfl, SqL.of z1, h1, _, rfl, p, _, 2, _, rfl, rfl, SqL.of z1, h2, p, _, w3, rfl, SqL.of z1, h3, sz_le (n := 3) (by decide), fun p2 hp2 => ?_⟩
        have s2 := same_new (o := HO.tup [V.str (S w1), V.str (S w2), V.str (S (dashM w3))]) hp2
        have z2 := s2 _ _ z1
        have t2 : SqT K (upd H1 p2 (.tup [V.str (S w1), V.str (S w2), V.str (S (dashM w3))])) p2 [V.str (S w1), V.str (S w2), V.str (S (dashM w3))] := Or.inl (Or.inl upd_same)
        have s12 := s1.trans s2
        generalize upd H1 p2 (.tup [V.str (S w1), V.str (S w2), V.str (S (dashM w3))]) = H2 at z2 t2 s12 ⊢
        have nd : (dashM w3).length ≤ 100000 := by
          unfold dashM
          split
          · exact Nat.zero_le _
          · exact n3
        refine ⟨_, rfl, p, _, 3, _, rfl, rfl, SqL.of z2, h3, rfl, ?_⟩
        rw [str_is_nil]
        by_cases c3 : w3 = []
        · refine ⟨_, rfl, ?_⟩
          rw [decide_eq_true c3]
          refine ifF rfl (q H2 _ s12 ?_)
          rw [← hfm, if_neg (by rw [decide_eq_false (by simp [c3] : ¬ w3 ≠ [])]; simp)]
          rfl
        · refine ⟨_, rfl, ?_⟩
          rw [decide_eq_false c3]
          refine ifT rfl ⟨_, rfl, _, rfl, sg, w1, w2, dashM w3, p2, rfl, t2, n1, n2, nd, _, rfl, ?_⟩
          rw [decide_eq_true (show w3 ≠ [] from c3)] at hfm
          cases eb : foldB sg w1 w2 (dashM w3) with
          | false =>
            refine ifF rfl (q H2 _ s12 ?_)
            rw [eb] at hfm
            rw [← hfm]
            rfl
          | true =>
            refine ifT rfl ⟨_, rfl, q H2 _ s12 ?_⟩
            rw [eb] at hfm
            obtain ⟨g, ok, e, e1, e2, e3⟩ := foldB_fd eb
            rw [← hfm]
            show FoldR K H2 (some (⟨w1.headD 0, w2.headD 0, dashM w3⟩ : Fd)) (.ref p2)
            rw [← e]
            refine ⟨p2, rfl, ?_⟩
            unfold fdV
            rw [← e1, ← e2, ← e3]
            exact t2
end
end Lw

namespace Mq
open PySem PySem.Spec PyProof.Rows L2
/-! ### (number, text) < (number, text) -/
def ltIS (x y : Int × Str) : Bool := if x.1 = y.1 then (if x.2 = y.2 then false else decide (x.2.cps.toList < y.2.cps.toList)) else decide (x.1 < y.1)
theorem op_ltIS {X : Cx} (hu : X.A.units < cLine) : OpR X (compareOp .Lt) (fun x y H Q => ∃ (a b : Addr) (p q : Int × Str), x = .ref a ∧ y = .ref b ∧ SqT X.K H a [.int p.1, .str p.2] ∧ SqT X.K H b [.int q.1, .str q.2] ∧ Q (.bl (ltIS p q)) H) := by
  intro pins s σ H x y v u Q I rx ry h
  obtain ⟨a, b, p, q, rfl, rfl, ha, hb, k⟩ := h
  cases rx
  cases ry
  obtain ⟨its, r1, p1, _⟩ := I.tuple ha
  obtain ⟨its2, r2, p2, _⟩ := I.tuple hb
  obtain ⟨u1, u2, rfl, ⟨t1, rfl⟩, ⟨t2, rfl⟩⟩ := vals2 r1
  obtain ⟨v1, v2, rfl, ⟨t3, rfl⟩, ⟨t4, rfl⟩⟩ := vals2 r2
  let e : Nat → Bool := fun j => if j = 0 then p.1 == q.1 else p.2 == q.2
  let r : Nat → Bool := fun j => if j = 0 then decide (p.1 < q.1) else decide (p.2.cps.toList < q.2.cps.toList)
  have R := Ob.RcOp.tuples_lt (A := X.A) (s := s) (e := e) (r := r) p1 p2 hu (fun j h1 h2 => by
    match j, h1, h2 with
    | 0, _, _ => exact SeqAt.EqAt.int_int _ _ _ _
    | 1, _, _ => exact SeqAt.EqAt.str_str _ _ _ _) (fun j h1 h2 _ => by
    match j, h1, h2 with
    | 0, _, _ => exact Ob.RcOp.lt_int _ _ _ _
    | 1, _, _ => exact fun prog w E Q h => PySem.P.lt_str h)
  have z : Ob.lexAt e r (decide ((#[Value.int p.1 t1, Value.str p.2 t2] : Array Value).size < (#[Value.int q.1 t3, Value.str q.2 t4] : Array Value).size)) 0 2 = ltIS p q := by
    show (if (p.1 == q.1) = true then (if (p.2 == q.2) = true then false else decide (p.2.cps.toList < q.2.cps.toList)) else decide (p.1 < q.1)) = _
    unfold ltIS
    simp only [beq_iff_eq]
  have R2 : Ob.RcOp .Lt X.A s (.ref a) (.ref b) (ltIS p q) := by
    rw [← z]
    exact R
  exact R2 X.prog X.w X.xe (EP X pins σ Q) ⟨.bl _, H, I, rfl, k⟩
end Mq

namespace Mq
open PySem PySem.Spec PyProof.Rows L2
/-! ### pairs of texts by <; the order's own laws -/
theorem le_not (x y : Str × Str) : leSS x y = !ltSS y x := by
  cases h : ltSS y x with
  | true => exact le_of_lt h
  | false =>
    unfold leSS
    have h1 : (decide (y.1.cps.toList < x.1.cps.toList) || (!decide (x.1.cps.toList < y.1.cps.toList) && (decide (y.2.cps.toList < x.2.cps.toList) || (!decide (x.2.cps.toList < y.2.cps.toList) && false)))) = false := h
    simp only [Bool.and_false, Bool.or_false, Bool.or_eq_false_iff, decide_eq_false_iff_not, Bool.and_eq_false_iff, Bool.not_eq_false', decide_eq_true_eq] at h1
    obtain ⟨c1, c2⟩ := h1
    by_cases e : x.1 = y.1
    · rw [if_pos e]
      by_cases e2 : x.2 = y.2
      · rw [if_pos e2]
        rfl
      · rw [if_neg e2]
        rcases c2 with c2 | c2
        · rw [e] at c2
          exact (List.lt_irrefl _ c2).elim
        · rw [decide_eq_false c2]
    · rw [if_neg e, decide_eq_false c1]
theorem lt_trans {x y z : Str × Str} (h : ltSS x y = true) (k : ltSS y z = true) : ltSS x z = true := (PyProof.Rows.listOrd PyProof.Rows.itemOrd).trans _ _ _ h k
theorem lt_irr (x : Str × Str) : ltSS x x = false := (PyProof.Rows.listOrd PyProof.Rows.itemOrd).irrefl _
theorem op_ltSS {X : Cx} (hu : X.A.units < cLine) : OpR X (compareOp .Lt) (fun x y H Q => ∃ (a b : Addr) (p q : Str × Str), x = .ref a ∧ y = .ref b ∧ SqT X.K H a [.str p.1, .str p.2] ∧ SqT X.K H b [.str q.1, .str q.2] ∧ Q (.bl (ltSS p q)) H) := by
  intro pins s σ H x y v u Q I rx ry h
  obtain ⟨a, b, p, q, rfl, rfl, ha, hb, k⟩ := h
  cases rx
  cases ry
  obtain ⟨its, r1, p1, _⟩ := I.tuple ha
  obtain ⟨its2, r2, p2, _⟩ := I.tuple hb
  obtain ⟨u1, u2, rfl, ⟨t1, rfl⟩, ⟨t2, rfl⟩⟩ := vals2 r1
  obtain ⟨v1, v2, rfl, ⟨t3, rfl⟩, ⟨t4, rfl⟩⟩ := vals2 r2
  let e : Nat → Bool := fun j => if j = 0 then p.1 == q.1 else p.2 == q.2
  let r : Nat → Bool := fun j => if j = 0 then decide (p.1.cps.toList < q.1.cps.toList) else decide (p.2.cps.toList < q.2.cps.toList)
  have R := Ob.RcOp.tuples_lt (A := X.A) (s := s) (e := e) (r := r) p1 p2 hu (fun j h1 h2 => by
    match j, h1, h2 with
    | 0, _, _ => exact SeqAt.EqAt.str_str _ _ _ _
    | 1, _, _ => exact SeqAt.EqAt.str_str _ _ _ _) (fun j h1 h2 _ => by
    match j, h1, h2 with
    | 0, _, _ => exact fun prog w E Q h => PySem.P.lt_str h
    | 1, _, _ => exact fun prog w E Q h => PySem.P.lt_str h)
  have z : Ob.lexAt e r (decide ((#[Value.str p.1 t1, Value.str p.2 t2] : Array Value).size < (#[Value.str q.1 t3, Value.str q.2 t4] : Array Value).size)) 0 2 = ltSS p q := by
    show (if (p.1 == q.1) = true then (if (p.2 == q.2) = true then false else decide (p.2.cps.toList < q.2.cps.toList)) else decide (p.1.cps.toList < q.1.cps.toList)) = (decide (p.1.cps.toList < q.1.cps.toList) || (!decide (q.1.cps.toList < p.1.cps.toList) && (decide (p.2.cps.toList < q.2.cps.toList) || (!decide (q.2.cps.toList < p.2.cps.toList) && false))))
    simp only [beq_iff_eq, Bool.and_false, Bool.or_false]
    by_cases e1 : p.1 = q.1
    · rw [if_pos e1, e1, decide_eq_false (List.lt_irrefl _)]
      by_cases e2 : p.2 = q.2
      · rw [if_pos e2, e2, decide_eq_false (List.lt_irrefl _)]
        rfl
      · rw [if_neg e2]
        rfl
    · rw [if_neg e1]
      by_cases c : p.1.cps.toList < q.1.cps.toList
      · rw [decide_eq_true c]
        rfl
      · have c2 : q.1.cps.toList < p.1.cps.toList := by
          by_cases c2 : q.1.cps.toList < p.1.cps.toList
          · exact c2
          · exact (e1 (congrArg Str.mk (Array.ext' (List.le_antisymm (List.not_lt.mp c2) (List.not_lt.mp c))))).elim
        rw [decide_eq_false c, decide_eq_true c2]
        rfl
  have R2 : Ob.RcOp .Lt X.A s (.ref a) (.ref b) (ltSS p q) := by
    rw [← z]
    exact R
  exact R2 X.prog X.w X.xe (EP X pins σ Q) ⟨.bl _, H, I, rfl, k⟩
end Mq

namespace Mq
open PySem PySem.Spec PyProof.Rows L2
/-! ### f(k = v, ..), all by keyword -/
theorem vals_rev : ∀ {vs : List V} {us : List Value}, Vals vs us → Vals vs.reverse us.reverse
  | _, _, .nil => .nil
  | _, _, .cons r h => by
    rw [List.reverse_cons, List.reverse_cons]
    exact (vals_rev h).append (.cons r .nil)
def rev0 {α : Type} (_ ws : List α) : List α := ws.reverse
section
variable {X : Cx} {CX : CXT} {k : Nat} {f : Addr} {fd : FuncData} {ps ks : List Str} {sp : Sp}
  {E : L2.St → XK} {x : Str} {p pos : Pos} {kws : List Keyword} {tk : TA}
  {g : List Value → List Value → List Value} {gV : List V → List V → List V}
def tCallK0 (m : Nat) (sp : Sp) (gV : List V → List V → List V) (E : L2.St → XK) (tk : TA) : TE := fun σ H Q => tk σ H fun zs H2 => zs.length = m ∧ sp (gV [] zs) H2 Q (E σ)
theorem pe_callK0 (F : FnOk X.prog X.w X.K X.mg X.base CX k f fd ps sp) (hr : Room k X.A) (hg : Gl X x) (hm : X.mg x = some (.ref f)) (hk : PySem.W.keepIn X.K (.ref f) = true) (hb : KBn X.K fd ps 0 ks g gV)
    (hx : ∀ σ, PassesAt CX X σ (E σ)) (hkw : PK X kws tk)
    (hall : (backToKw pos (keywordEach kws X.env)).all (·.1.isSome) = true := by rfl)
    (hks : (backToKw pos (keywordEach kws X.env)).filterMap (·.1) = ks := by rfl)
    (hdb : (x == ("__debug__" : Str)) = false := by decide)
    (hpl : ((backTo pos (starEach [] X.env)).any (·.1) || (backToKw pos (keywordEach kws X.env)).any (·.1.isNone)) = false := by rfl) :
    PE X (.Call (.Name x p) [] kws pos) (tCallK0 ks.length sp gV E tk) := by
  refine ⟨fun pins s σ H Q I h => ?_⟩
  refine wpAny_Call_Name_kw (ld_glob I hg hm ?_ hdb)
  refine PySem.W.callWith_KW0 (h₀ := X.base) I.ok.mod.kin hk hall ?_ hpl
  refine thn (hkw.run pos pins s σ H _ I h) fun ws s2 ⟨zs, H2, I2, rz, hl, q2⟩ => ⟨I2.kIn, ?_⟩
  rw [hks]
  have r2 := hb.rel (vs := []) (us := []) .nil rz
  have lw : ws.length = ks.length := rz.length.symm.trans hl
  refine wpAny_call (codeAny_mono (F.run X.A X.stack s2 H2 ⟨[], ks.zip ws⟩ (g [] ws) (gV [] zs) Q (E σ) hr I2.env0
    (hb.to s2 [] ws I2.kIn rfl lw) r2 q2) (fun r s' hq => ?_))
  match r, hq with
  | .error er, hq => exact hx σ pins H2 s2 er s' I2 hq
  | .ok (.ret u), hq => exact I2.after hq
  | .ok .next, hq => exact hq.elim
  | .ok .brk, hq => exact hq.elim
  | .ok .cont, hq => exact hq.elim
end
theorem kbn_rev2 {K : PySem.W.Frag} {x qual : Str} {st : Stmt} {f : Addr} {fd : FuncData} {p1 p2 : Str} (F : Fun K x qual st f fd)
    (h : ∀ (kV doc pm : Value) (an : Option Addr) (cdv ct : Value) (a b : Value), bindArgs (PySem.W.fnOf x qual (defArgs st) (defBody st) (defScope st) .none kV doc pm an cdv ct) ⟨[], [(p2, a), (p1, b)]⟩ = pure [(p1, b), (p2, a)]) :
    KBn K fd [p1, p2] 0 [p2, p1] rev0 rev0 := by
  obtain ⟨oc, od, kV, doc, pm, an, cdv, ct, osl, rfl, lk, hcd⟩ := F.ex
  refine ⟨fun s us ws _ h1 h2 => ?_, fun a b => vals_rev b⟩
  match us, ws, h1, h2 with
  | [], [a, b], _, _ => exact .of_eq (h kV doc pm an cdv ct a b)
theorem kbn_rev3 {K : PySem.W.Frag} {x qual : Str} {st : Stmt} {f : Addr} {fd : FuncData} {p1 p2 p3 : Str} (F : Fun K x qual st f fd)
    (h : ∀ (kV doc pm : Value) (an : Option Addr) (cdv ct : Value) (a b c : Value), bindArgs (PySem.W.fnOf x qual (defArgs st) (defBody st) (defScope st) .none kV doc pm an cdv ct) ⟨[], [(p3, a), (p2, b), (p1, c)]⟩ = pure [(p1, c), (p2, b), (p3, a)]) :
    KBn K fd [p1, p2, p3] 0 [p3, p2, p1] rev0 rev0 := by
  obtain ⟨oc, od, kV, doc, pm, an, cdv, ct, osl, rfl, lk, hcd⟩ := F.ex
  refine ⟨fun s us ws _ h1 h2 => ?_, fun a b => vals_rev b⟩
  match us, ws, h1, h2 with
  | [], [a, b, c], _, _ => exact .of_eq (h kV doc pm an cdv ct a b c)
end Mq

namespace Mq
open PySem PySem.Spec PyProof.Rows L2 ClX
/-! ### classmethods where what is raised is wished for at the slots as they stand; a class that stands in a slot -/
section
variable {X : Cx} {CX : CXT} {k n : Nat} {f g C p0 : Addr} {mc : Value} {fd : FuncData} {ps ks : List Str} {sp : Sp} {E : XK} {ES : L2.St → XK}
  {gg : List Value → List Value → List Value} {gV : List V → List V → List V} {pins : List (Addr × Obj)} {σ : L2.St} {H : Hp} {s : Shared} {Q : VK} {us ws : List Value} {vs zs : List V}
  {x m : Str} {p pos apos : Pos} {kws : List Keyword} {tk t ta tf : TA} {o e : Expr} {es : List Expr} {tc : TE} {pl : Sem Bool}
/-- x(e, ..), x a slot that holds the class C -/
def tMakeV (C : Addr) (sp : Sp) (E : XK) (tc : TE) (t : TA) : TE := fun σ H Q => tc σ H fun c H1 => c = .ref C ∧ t σ H1 fun vs H2 => ∀ x dx, H2 x = none → H2 dx = none → dx ≠ x → sp (.ref x :: vs) (upd (upd H2 dx (.own x)) x (.ins C dx [])) (fun v H3 => v = .non ∧ Q (.ref x) H3) E
theorem pe_makeV (M : Mk X.K C f) (F : FnOk X.prog X.w X.K X.mg X.base CX k f fd ps sp) (hr : Room (k + 1) X.A) (hc : PE X (.Name x p) tc) (hb : Binds X.K fd ps []) (hx : Passes CX X E)
    (ha : PA X (e :: es) t) (he : starEach (e :: es) X.env = (false, eval e X.env) :: starEach es X.env := by rfl) (hpl : (backTo pos (starEach es X.env)).any (·.1) = false := by rfl) :
    PE X (.Call (.Name x p) (e :: es) [] pos) (tMakeV C sp E tc t) := by
  refine ⟨fun pins s σ H Q I h => ?_⟩
  refine wpAny_Call_Name_kw (thn (hc.run pins s σ H _ I h) fun u s1 ⟨c, H1, I1, rc, ec, q1⟩ => ?_)
  subst ec
  obtain rfl : u = Value.ref C := rc
  refine PySem.W.callWith_K (h₀ := X.base) I.ok.mod.kin M.kp (thn (ha.run pos pins s1 σ H1 _ I1 q1) fun us s2 ⟨vs, H2, I2, r, q⟩ => ⟨I2.kIn, ?_⟩) he hpl
  refine run_make (dvs := []) M F hr hb .nil hx I2 r fun y dy h1 h2 h3 => ?_
  rw [List.append_nil]
  exact q y dy h1 h2 h3
theorem run_cmS {q : Addr} (F : FnOk X.prog X.w X.K X.mg X.base CX k g fd ps sp) (hr : Room k X.A) (hb : KBn X.K fd ps (n + 1) ks gg gV) (hx : PassesAt CX X σ E)
    (I : Inv X ((q, PySem.W.methodObj (.ref g) (.ref C)) :: pins) σ H s) (ru : Vals vs us) (rz : Vals zs ws) (hn : vs.length = n) (hm : zs.length = ks.length) (h : sp (gV (.ref C :: vs) zs) H Q E) :
    wpAny (model X.prog X.w) X.A (call (.ref q) us (ks.zip ws)) (EP X pins σ Q) X.xe s := by
  have z : wpAny (model X.prog X.w) X.A (call (.ref q) us (ks.zip ws)) (EP X ((q, PySem.W.methodObj (.ref g) (.ref C)) :: pins) σ Q) X.xe s := by
    refine wpAny_call (PySem.W.method_call (pin_at I) ?_)
    refine codeAny_mono (F.run X.A X.stack s H ⟨.ref C :: us, ks.zip ws⟩ (gg (.ref C :: us) ws) (gV (.ref C :: vs) zs) Q E hr I.env0
      (hb.to s (.ref C :: us) ws I.kIn (by rw [List.length_cons, ← ru.length, hn]) (rz.length.symm.trans hm)) (hb.rel (.cons rfl ru) rz) h) (fun r s' hq => ?_)
    match r, hq with
    | .error er, hq => exact hx _ H s er s' I hq
    | .ok (.ret u), hq => exact I.after hq
    | .ok .next, hq => exact hq.elim
    | .ok .brk, hq => exact hq.elim
    | .ok .cont, hq => exact hq.elim
  exact thn z fun _ _ y => unpinE y
def tCMethS (C : Addr) (m : Nat) (sp : Sp) (ES : L2.St → XK) (tc : TE) (t : TA) : TE := fun σ H Q => tc σ H fun x H1 => x = .ref C ∧ t σ H1 fun vs H2 => vs.length = m ∧ sp (.ref C :: vs) H2 Q (ES σ)
theorem pe_cmethS {n : Nat} (he : PE X o tc) (r : CRead X.K C mc) (c : CMet X.K C mc m p0 g) (F : FnOk X.prog X.w X.K X.mg X.base CX k g fd ps sp) (hr : Room k X.A) (hb : Binds X.K fd ps []) (hps : ps.length = n + 1) (hx : ∀ σ, PassesAt CX X σ (ES σ)) (ha : PA X (e :: es) t)
    (hst : starEach (e :: es) X.env = (false, eval e X.env) :: starEach es X.env := by rfl) (hpl : (backTo pos (starEach es X.env)).any (·.1) = false := by rfl)
    (ht : eval (.Call (.Attribute o m apos) (e :: es) [] pos) X.env = (do
      let ov ← eval o X.env
      standAt apos.atName
      let (f, first) ← holding [ov] (getMethod ov m pl)
      callWith pos f first (backTo pos (starEach (e :: es) X.env)) (backToKw pos (keywordEach [] X.env))) := by rfl) :
    PE X (.Call (.Attribute o m apos) (e :: es) [] pos) (tCMethS C n sp ES tc t) := by
  refine ⟨fun pins s σ H Q I h => ?_⟩
  refine PySem.W.methodCall_KW (pl := pl) (thn (he.run pins s σ H _ I h) fun u s1 ⟨x, H1, I1, rx, ex, q⟩ => ?_) ht
  subst ex
  obtain rfl : u = Value.ref C := rx
  refine getmethcm_ok I1 r c fun s2 I2 => ?_
  refine callwith_cm I2 (base_none I1 (Nat.le_refl _)) c.fi (thn (ha.run pos _ s2 σ H1 _ I2 q) fun us s3 ⟨vs, H2, I3, rv, hl, q2⟩ => ⟨⟨pin_at I3, I3.kIn⟩, ?_⟩) hst hpl
  have kb : KBn X.K fd ps (n + 1) [] (fun us _ => us) (fun vs _ => vs) := by
    refine ⟨fun s us ws kin h1 h2 => ?_, fun a _ => a⟩
    have b := hb s us kin (by rw [List.append_nil, hps, h1])
    rw [List.append_nil] at b
    exact b
  exact run_cmS (n := n) (zs := []) (ws := []) (ks := []) F hr kb (hx σ) I3 rv .nil hl rfl q2
def tCMethK (C : Addr) (m : Nat) (sp : Sp) (gV : List V → List V → List V) (ES : L2.St → XK) (tc : TE) (t : TA) : TE := fun σ H Q => tc σ H fun x H1 => x = .ref C ∧ t σ H1 fun zs H2 => zs.length = m ∧ sp (gV [.ref C] zs) H2 Q (ES σ)
theorem pe_cmethK (he : PE X o tc) (r : CRead X.K C mc) (c : CMet X.K C mc m p0 g) (F : FnOk X.prog X.w X.K X.mg X.base CX k g fd ps sp) (hr : Room k X.A) (hb : KBn X.K fd ps 1 ks gg gV) (hx : ∀ σ, PassesAt CX X σ (ES σ)) (hkw : PK X kws t)
    (hall : (backToKw pos (keywordEach kws X.env)).all (·.1.isSome) = true := by rfl)
    (hks : (backToKw pos (keywordEach kws X.env)).filterMap (·.1) = ks := by rfl)
    (hpl : ((backTo pos (starEach [] X.env)).any (·.1) || (backToKw pos (keywordEach kws X.env)).any (·.1.isNone)) = false := by rfl)
    (ht : eval (.Call (.Attribute o m apos) [] kws pos) X.env = (do
      let ov ← eval o X.env
      standAt apos.atName
      let (f, first) ← holding [ov] (getMethod ov m pl)
      callWith pos f first (backTo pos (starEach [] X.env)) (backToKw pos (keywordEach kws X.env))) := by rfl) :
    PE X (.Call (.Attribute o m apos) [] kws pos) (tCMethK C ks.length sp gV ES tc t) := by
  refine ⟨fun pins s σ H Q I h => ?_⟩
  refine PySem.W.methodCall_KW (pl := pl) (thn (he.run pins s σ H _ I h) fun u s1 ⟨x, H1, I1, rx, ex, q⟩ => ?_) ht
  subst ex
  obtain rfl : u = Value.ref C := rx
  refine getmethcm_ok I1 r c fun s2 I2 => ?_
  refine PySem.W.callWith_of (P := PySem.W.MethP X.K s1.heap.objs.size g (.ref C)) hpl (PySem.W.keeps_M c.fi) (PyProof.Rows.evalArgs_kw2_nil hall ?_)
  refine thn (hkw.run pos _ s2 σ H1 _ I2 q) fun ws s3 ⟨zs, H2, I3, rz, hl, q2⟩ => ⟨⟨pin_at I3, I3.kIn⟩, ?_⟩
  rw [hks]
  exact run_cmS (n := 0) (vs := []) (us := []) F hr hb (hx σ) I3 .nil rz rfl hl q2
end
end Mq

namespace Lw
open PySem PySem.Spec PyProof.Rows L2 Mq
open SX (S)
/-! ### what a text tells -/
def bookL : List Nat := [98, 111, 111, 107]
def headW (l0 : List Nat) : Option (List Nat) :=
  match spl 32 l0 with
  | [w0, w1] => if (decide (w0 = bookL) && lettersB w1) = true then some w1 else none
  | _ => none
def headM (t : List Nat) : Option (List Nat × List (List Nat)) :=
  match spl 10 t with
  | l0 :: ls => match headW l0 with
    | some sg => some (sg, ls)
    | none => none
  | [] => none
def okNext (acc : List Fd) (f : Fd) : Bool :=
  match acc.getLast? with
  | none => true
  | some g => ltSS (keyF g) (keyF f)
def bodyM (sg : List Nat) : List (List Nat) → List Fd → List Fd ⊕ Nat
  | [], acc => .inl acc
  | l :: ls, acc => match foldM sg l with
    | none => .inr (acc.length + 2)
    | some f => if okNext acc f = true then bodyM sg ls (acc ++ [f]) else .inr (acc.length + 2)
def pageM (t : List Nat) : (List Nat × List Fd) ⊕ Nat :=
  match headM t with
  | none => .inr 1
  | some (sg, ls) => match bodyM sg ls [] with
    | .inl fs => .inl (sg, fs)
    | .inr k => .inr k
theorem letters_alpha {sg : List Nat} (h : lettersB sg = true) : sg ≠ [] ∧ ∀ c ∈ sg, c ∈ alpha := by
  unfold lettersB at h
  obtain ⟨h1, h⟩ := Bool.and_eq_true_iff.mp h
  obtain ⟨_, h3⟩ := Bool.and_eq_true_iff.mp h
  refine ⟨(fun e => by rw [decide_eq_true e] at h1; cases h1), fun c hc => ?_⟩
  obtain ⟨i, hi, rfl⟩ := List.mem_iff_getElem.mp hc
  unfold allB at h3
  rw [List.all_map, List.all_eq_true] at h3
  have h4 := h3 i (List.mem_range.mpr hi)
  have h5 : sg.getD i 0 ∈ alpha := of_decide_eq_true h4
  rw [List.getD_eq_getElem?_getD, List.getElem?_eq_getElem hi] at h5
  exact h5
theorem alpha_low {c : Nat} (h : c ∈ alpha) : 97 ≤ c ∧ c ≤ 122 := by
  have := List.mem_range'.mp h
  omega
theorem sg_ok {sg : List Nat} (h : lettersB sg = true) (hl : sg.length ≤ 100000) : SgOk sg :=
  ⟨pos_of (letters_alpha h).1, hl, fun c hc => by have := alpha_low ((letters_alpha h).2 c hc); omega, h⟩
theorem FsOk.nil (sg : List Nat) : FsOk sg [] := ⟨Nat.zero_le _, (fun _ h => by cases h), fun i j h1 h2 => by cases h2⟩
theorem FsOk.snoc {sg : List Nat} {fs : List Fd} {f : Fd} (h : FsOk sg fs) (hf : fdOk sg f) (hn : okNext fs f = true) (hl : fs.length + 1 ≤ 100000) : FsOk sg (fs ++ [f]) := by
  refine ⟨by rw [List.length_append]; exact hl, fun g hg => ?_, fun i j hij hj a b ha hb => ?_⟩
  · rcases List.mem_append.mp hg with hg | hg
    · exact h.ok g hg
    · rw [List.mem_singleton.mp hg]
      exact hf
  · rw [List.length_append] at hj
    have hj : j < fs.length + 1 := hj
    by_cases e : j < fs.length
    · rw [List.getElem?_append_left (by omega)] at ha
      rw [List.getElem?_append_left e] at hb
      exact h.asc i j hij e a b ha hb
    · have ej : j = fs.length := by omega
      subst ej
      rw [List.getElem?_append_left hij] at ha
      rw [List.getElem?_append_right (Nat.le_refl _), Nat.sub_self] at hb
      cases hb
      unfold okNext at hn
      cases hl : fs.getLast? with
      | none =>
        rw [List.getLast?_eq_none_iff.mp hl] at hij
        cases hij
      | some g =>
        rw [hl] at hn
        rw [List.getLast?_eq_getElem?] at hl
        by_cases el : i = fs.length - 1
        · rw [el, hl] at ha
          cases ha
          exact hn
        · exact lt_trans (h.asc i (fs.length - 1) (by omega) (by omega) a g ha hl) hn
theorem bodyM_snoc {sg : List Nat} {ls : List (List Nat)} {i : Nat} {l : List Nat} {acc : List Fd} (hi : ls[i]? = some l) : bodyM sg (ls.drop i) acc = match foldM sg l with
    | none => .inr (acc.length + 2)
    | some f => if okNext acc f = true then bodyM sg (ls.drop (i + 1)) (acc ++ [f]) else .inr (acc.length + 2) := by
  have hlt : i < ls.length := by
    rcases Nat.lt_or_ge i ls.length with h | h
    · exact h
    · rw [List.getElem?_eq_none h] at hi
      cases hi
  rw [List.drop_eq_getElem_cons hlt]
  rw [List.getElem?_eq_getElem hlt] at hi
  rw [Option.some.inj hi]
  rfl
/-- what is no text -/
def NoTx (K : PySem.W.Frag) (H : Hp) (v : V) : Prop := ∃ c, TyX K H v c ∧ PySem.W.kitOne K c (.type "str") = some false
def lineD (d : Addr) (k : Nat) (H : Hp) : Hp := upd H d (.xd [("line", .int (k : Nat))])
def spTextParts (K : PySem.W.Frag) (CT : Addr) : Sp := fun vs H Q E => ∃ v : V, vs = [.str (S bookL), v] ∧
  ((NoTx K H v ∧ ∀ H' d, Same H H' → H' d = none → E (.ref CT) (some d) (lineD d 0 H')) ∨ ∃ t : List Nat, v = .str (S t) ∧ t.length ≤ 20000 ∧
    match headM t with
    | none => ∀ H' d, Same H H' → H' d = none → E (.ref CT) (some d) (lineD d 1 H')
    | some (sg, ls) => ∀ H' T L, Same H H' → SqT K H' T [.str (S sg), .ref L] → H' L = some (.lst (ls.map fun l => .str (S l))) → Q (.ref T) H')
theorem map_SV (ws : List (List Nat)) : (ws.map S).map V.str = ws.map fun l => V.str (S l) := by rw [List.map_map]; rfl
theorem at_line {ws : List (List Nat)} {i : Nat} {l : List Nat} (h : ws[i]? = some l) : atI (ws.map fun l => V.str (S l)) (i : Nat) = some (.str (S l)) := atI_nat (by rw [List.getElem?_map, h]; rfl)
theorem cut_from (xs : List V) (k : Nat) : cutV xs (some ((k : Nat) : Int)) none = xs.drop k := by
  unfold cutV
  rw [HT.sIx_nat, HT.sIx_none]
  by_cases h : k ≤ xs.length
  · rw [Nat.min_eq_left h, List.take_of_length_le (by rw [List.length_drop]; exact Nat.le_refl _)]
  · rw [Nat.min_eq_right (by omega), List.drop_of_length_le (Nat.le_refl _), List.drop_of_length_le (by omega), List.take_nil]
theorem cut_tail (l : V) (xs : List V) : cutV (l :: xs) (some 1) none = xs := cut_from (l :: xs) 1
section
variable {P : Program} {w : World} {K : PySem.W.Frag} {mg : Str → Option Value} {base : Heap} {CT : Addr}
theorem ok_text_parts {f fL fB : Addr} {fd fdL : FuncData} (F : Fun K "text_parts" "text_parts" s_text_parts f fd) (B : Blt mg)
    (FL : Fun K "is_letters" "is_letters" s_is_letters fL fdL) (gL : mg "is_letters" = some (.ref fL)) (bL : Binds K fdL ["thing"] []) (GL : FnOk P w K mg base CX0 2 fL fdL ["thing"] (spLetters K))
    (T : MqE_line.Txt K mg "BadText" "BadText.__init__" CT fB) :
    FnOk P w K mg base (L2.CX P w) 3 f fd ["word", "text"] (spTextParts K CT) := by
  refine F.okX sc_text_parts (fun vs H Q E h => ?_) (fun cdv A outer s H vs Q E hr h => ?_)
  · obtain ⟨_, rfl, _⟩ := h
    rfl
  · obtain ⟨v, rfl, h⟩ := h
    refine ⟨_, (pss_cons (ps_if (pt_not (pt_val (pe_callB call_isi (by rfl) B.isi (by decide +kernel) (pa_cons (pv 1) (pa_cons (pe_bltn (v := .ty "str") (by rfl) B.str (by decide +kernel) rfl) pa_nil))))) (pss_one (MqE_line.ps_raise rfl T hr (takes_of rfl rfl rfl rfl) (pa_cons pe_int pa_nil))) pss_nil)
      (pss_cons (ps_set (i := 2) sc_text_parts.nd rfl (Or.inl rfl) (pe_split (pv 1) pe_str))
      (pss_cons (ps_set (i := 3) sc_text_parts.nd rfl (Or.inl rfl) (pe_split (pe_ix ix_list (pv 2) pe_int (fun _ _ => rfl)) pe_str))
      (pss_cons (ps_if (PW.pt (pw_or (pt_cmpR op_ne (pe_callB call_len_seq (by rfl) B.len (by decide +kernel) (pa_cons (pv 3) pa_nil)) pe_int (nomark _)) (pw_or (pt_cmpR op_ne (pe_ix ix_list (pv 3) pe_int (fun _ _ => rfl)) (pv 0) (nomark _)) (pw_or1 (pt_not (pt_val (pe_call GL (hr.mono (by decide)) (by rfl) gL FL.kp bL .nil pass0 (pa_cons (pe_ix ix_list (pv 3) pe_int (fun _ _ => rfl)) pa_nil)))))))) (pss_one (MqE_line.ps_raise rfl T hr (takes_of rfl rfl rfl rfl) (pa_cons pe_int pa_nil))) pss_nil)
      (pss_one (ps_ret (pe_tup (pa_cons (pe_ix ix_list (pv 3) pe_int (fun _ _ => rfl)) (pa_cons (pe_slice sl_list (pv 2) (po_some pe_int) po_none) pa_nil))))))))), ?_⟩
    rcases h with ⟨⟨c, ty, kt⟩, q⟩ | ⟨t, rfl, ht, q⟩
    · exact ⟨_, rfl, _, .ty "str", _, _, false, rfl, .ty _, ty, kt, false, rfl, ifT rfl ⟨_, rfl, fun d hd => q H d (Same.refl H) hd⟩⟩
    refine ⟨_, rfl, _, .ty "str", _, _, true, rfl, .ty _, .base (.str _), kit_self, true, rfl, ifF rfl ?_⟩
    have hz : (S t).length = t.length := SX.S_len t
    refine ⟨_, rfl, ⟨_, rfl⟩, S t, S [10], rfl, rfl, rfl, sz_le (by omega), fun p hp => ?_⟩
    rw [spl_S, map_SV]
    have s1 := same_new (o := HO.lst ((spl 10 t).map fun l => V.str (S l))) hp
    have z1 : upd H p (.lst ((spl 10 t).map fun l => V.str (S l))) p = some (.lst ((spl 10 t).map fun l => V.str (S l))) := upd_same
    generalize upd H p (.lst ((spl 10 t).map fun l => V.str (S l))) = H1 at s1 z1 ⊢
    have hn : ∀ x ∈ spl 10 t, x.length ≤ 20000 := fun x hx => Nat.le_trans (spl_len hx) ht
    have hne := spl_ne 10 t
    have hm : (spl 10 t).length ≤ 20001 := Nat.le_trans (spl_many 10 t) (by omega)
    unfold headM at q
    generalize spl 10 t = lines at z1 hn hne hm q ⊢
    match lines, hne, q with
    | l0 :: ls, _, q =>
      have hl0 := hn l0 List.mem_cons_self
      have hz0 : (S l0).length = l0.length := SX.S_len l0
      refine ⟨_, rfl, p, _, 0, _, rfl, rfl, SqL.of z1, at_line (i := 0) rfl, ⟨_, rfl⟩, S l0, S [32], rfl, rfl, rfl, sz_le (by omega), fun p2 hp2 => ?_⟩
      rw [spl_S, map_SV]
      have s2 := same_new (o := HO.lst ((spl 32 l0).map fun l => V.str (S l))) hp2
      have z2 : upd H1 p2 (.lst ((spl 32 l0).map fun l => V.str (S l))) p2 = some (.lst ((spl 32 l0).map fun l => V.str (S l))) := upd_same
      have z12 := s2 _ _ z1
      have s12 := s1.trans s2
      generalize upd H1 p2 (.lst ((spl 32 l0).map fun l => V.str (S l))) = H2 at s12 z2 z12 ⊢
      have hn2 : ∀ x ∈ spl 32 l0, x.length ≤ 20000 := fun x hx => Nat.le_trans (spl_len hx) hl0
      refine ⟨_, rfl, p2, _, rfl, .inl (SqL.of z2), rfl, _, rfl, ?_⟩
      dsimp only at q
      unfold headW at q
      generalize spl 32 l0 = ws at z2 hn2 q ⊢
      have bad : ∀ ws : List (List Nat), ws.length ≠ 2 → (match ws with
        | [w0, w1] => if (decide (w0 = bookL) && lettersB w1) = true then some w1 else none
        | _ => none) = none := by
        intro ws h
        match ws, h with
        | [], _ => rfl
        | [_], _ => rfl
        | [_, _], h => exact (h rfl).elim
        | _ :: _ :: _ :: _, _ => rfl
      by_cases h2 : ws.length ≠ 2
      · rw [bad ws h2] at q
        exact ifT (int_ne (m := 2) (by rw [List.length_map]; exact h2)) ⟨_, rfl, fun d hd => q H2 d s12 hd⟩
      clear bad
      match ws, h2, q with
      | [], h2, _ => exact (h2 (by decide)).elim
      | [_], h2, _ => exact (h2 (by show 1 ≠ 2; decide)).elim
      | a :: b :: c :: r, h2, _ => exact (h2 (by simp only [List.length_cons]; omega)).elim
      | [w0, w1], h2, q =>
        have h0 : atI ([w0, w1].map fun l => V.str (S l)) 0 = some (.str (S w0)) := atI_nat (j := 0) rfl
        have h1 : atI ([w0, w1].map fun l => V.str (S l)) 1 = some (.str (S w1)) := atI_nat (j := 1) rfl
        have n1 := hn2 w1 (by simp)
        dsimp only at q
        refine ifF rfl ⟨_, rfl, p2, _, 0, _, rfl, rfl, SqL.of z2, h0, _, rfl, rfl, _, rfl, ?_⟩
        rw [S_dec w0 bookL]
        cases c0 : decide (w0 = bookL) with
        | false =>
          rw [c0] at q
          exact ifT rfl (ifT rfl ⟨_, rfl, fun d hd => q H2 d s12 hd⟩)
        | true =>
          rw [c0] at q
          refine ifF rfl ⟨_, rfl, p2, _, 1, _, rfl, rfl, SqL.of z2, h1, _, rfl, Or.inl ⟨w1, rfl, by omega, fun H3 s3 => ⟨_, rfl, ?_⟩⟩⟩
          have s13 := s12.trans s3
          cases c1 : lettersB w1 with
          | false =>
            rw [c1] at q
            exact ifT rfl ⟨_, rfl, fun d hd => q H3 d s13 hd⟩
          | true =>
            rw [c1] at q
            refine ifF rfl ⟨_, rfl, p2, _, 1, _, rfl, rfl, SqL.of (s3 _ _ z2), h1, _, rfl, _, rfl, p, _, rfl, SqL.of (s3 _ _ z12), fun L hL => ?_⟩
            have e : cutV ((l0 :: ls).map fun l => V.str (S l)) (some 1) none = ls.map fun l => V.str (S l) := cut_tail _ _
            rw [e]
            refine ⟨sz_le (n := 2) (by decide), fun p3 hp3 => ?_⟩
            have s4 := same_new (o := HO.lst (ls.map fun l => V.str (S l))) hL
            have s5 := same_new (o := HO.tup [V.str (S w1), V.ref L]) hp3
            exact q _ p3 L ((s13.trans s4).trans s5) (Or.inl (Or.inl upd_same)) (s5 _ _ upd_same)
end
end Lw

namespace Mq
open PySem PySem.Spec PyProof.Rows L2
/-! ### a text, from its end -/
def revS (z : Str) : Str := ⟨z.cps.toList.reverse.toArray⟩
theorem rev_ix (n : Nat) : Builtin.Str.strSliceIndices none none (-1) n = (List.range n).reverse := by
  rw [← PySem.W.krv_range, ← PySem.W.krv_sliceRange]
  rfl
theorem rev_pick (z : Str) : (Builtin.Str.strSliceIndices none none (-1) z.length).filterMap (z.cps[·]?) = z.cps.toList.reverse := by
  rw [rev_ix]
  show ((List.range z.cps.size).reverse).filterMap (z.cps[·]?) = _
  rw [List.filterMap_reverse, PySem.W.krv_all]
def tRevS (te : TE) : TE := fun σ H Q => te σ H fun x H1 => ∃ z : Str, x = .str z ∧ z.length ≤ sizeLine ∧ Q (.str (revS z)) H1
theorem pe_revS {X : Cx} {e : Expr} {te : TE} {k : Nat} {p1 p2 p3 pos : Pos} (he : PE X e te) : PE X (.Subscript e (.Slice none none (some (.UnaryOp .USub (.Constant (.int 1) k p1) p2)) p3) pos) (tRevS te) := by
  refine ⟨fun pins s σ H Q I0 h => ?_⟩
  refine Subscript_ (thn (he.run pins s σ H _ I0 h) fun v s1 ⟨x, H1, I1, r1, q1⟩ => ?_)
  obtain ⟨z, ez, hz, q⟩ := q1
  subst ez
  obtain ⟨tz, rfl⟩ := r1
  have back : PO X (some (.UnaryOp .USub (.Constant (.int 1) k p1) p2)) (tPart (tUn (rU fun i => .int (-i)) (tC (.int 1)))) := po_some (pe_un un_neg pe_int)
  refine wpAny_Slice (thn (po_none.run pins s1 σ H1 (fun o G => o = none ∧ G = H1) I1 ⟨rfl, rfl⟩) fun v1 s2 ⟨o1, G1, I2, a1, b1, c1⟩ => ?_)
  subst b1 c1
  refine thn (po_none.run pins s2 σ G1 (fun o G => o = none ∧ G = G1) I2 ⟨rfl, rfl⟩) fun v2 s3 ⟨o2, G2, I3, a2, b2, c2⟩ => ?_
  subst b2 c2
  refine thn (back.run pins s3 σ G2 (fun o G => o = some (-1) ∧ G = G2) I3 ⟨1, rfl, -1, rfl, rfl, rfl⟩) fun v3 s4 ⟨o3, G3, I4, a3, b3, c3⟩ => ?_
  subst b3 c3
  obtain ⟨l1, rfl, f1⟩ := IsPart.raw a1
  obtain ⟨l2, rfl, f2⟩ := IsPart.raw a2
  obtain ⟨l3, rfl, f3⟩ := IsPart.raw a3
  have I5 : Inv X pins σ G3 { s4 with heap := s4.heap.push { cls := .type "slice", data := .fields #[partValue l1, partValue l2, partValue l3] } } := I4.kept (t' := s4.toks) fun b ob q => Heap.get?_push_of_some _ q
  show wpAny (model X.prog X.w) X.A (subscriptTail e (.Slice none none (some (.UnaryOp .USub (.Constant (.int 1) k p1) p2)) p3) (.str z tz) (.ref s4.heap.objs.size)) (EP X pins σ Q) X.xe { s4 with heap := s4.heap.push { cls := .type "slice", data := .fields #[partValue l1, partValue l2, partValue l3] } }
  refine tail_any (ops := [.str z tz, .ref s4.heap.objs.size]) (typeIs_str _ z tz) (F.slot_str_getitem.lookup) ?_ (by with_unfolding_all rfl)
  refine wpAny_getItem_str_slice (l := l1) (u := l2) (st := l3) ⟨_, Heap.get?_push_size _ rfl, rfl, rfl⟩ (by rw [f3]; rfl) ?_
  unfold sliceMade slicePicked
  rw [f1, f2, f3]
  show Made.post (if ((-1 : Int) == 1 && (Builtin.Str.strSliceIndices none none (-1) z.length).length == z.length) = true then Made.val (.str z tz) else Made.str ⟨((Builtin.Str.strSliceIndices none none (-1) z.length).filterMap (z.cps[·]?)).toArray⟩) (EP X pins σ Q) _
  rw [rev_pick, if_neg (show ¬ _ by rw [show ((-1 : Int) == 1) = false by decide, Bool.false_and]; exact Bool.false_ne_true)]
  refine ⟨?_, .str _, G3, I5.tok _, ⟨_, rfl⟩, q⟩
  show (z.cps.toList.reverse.toArray).size ≤ sizeLine
  rw [List.size_toArray, List.length_reverse, Array.length_toList]
  exact hz
end Mq

/-! Mq34: sets of texts that can be walked: set(text), sorted(set). -/
namespace PySem.Froz
open PySem
/-- the set of the texts l at a: its table rises, and it can be walked -/
def WkT (P : Program) (w : World) (h : Heap) (a : Addr) (l : List Str) : Prop :=
  ∃ D : SD, h.get? a = some (sObj "set" D) ∧ TxOk P w D l ∧ l.Nodup ∧ l.length < scanBound ∧ L2.Ris D.2.2.place.toList ∧ (w.params.followText "set-order" = true ∨ D.2.2.led = true)
section
variable {P : Program} {w : World} {A : Around} {E : Value → Shared → Prop} {s : Shared}
theorem WkT.at {h h' : Heap} {a : Addr} {l : List Str} (R : WkT P w h a l) (k : ∀ o, h.get? a = some o → h'.get? a = some o) : WkT P w h' a l := by
  obtain ⟨D, ho, r⟩ := R
  exact ⟨D, k _ ho, r⟩
theorem tail_ris {ep : Nat} {es1 : Array (Int × Value)} {t2 : SetTable} {wd : Bool} (r : L2.Ris t2.place.toList) : L2.Ris (tailTx ep es1 t2 wd).2.2.place.toList := by
  unfold tailTx
  split
  · exact L2.relayAll_ris _ _ _
  · exact r
theorem tail_led {ep : Nat} {es1 : Array (Int × Value)} {t2 : SetTable} {wd : Bool} : (tailTx ep es1 t2 wd).2.2.led = t2.led := by
  unfold tailTx
  split
  · exact L2.relayAll_led _ _ _
  · rfl
theorem add_ris {h : Int} {v : Value} {D : SD} (r : L2.Ris D.2.2.place.toList) : L2.Ris (addTx h v D).2.2.place.toList := by
  obtain ⟨es, ep, t⟩ := D
  have r1 := L2.layNew_ris t es h v r
  refine tail_ris ?_
  show L2.Ris (if (layNew t es h v).2.1.plain = true then { (layNew t es h v).2.1 with plain := false } else (layNew t es h v).2.1).place.toList
  split <;> exact r1
theorem add_led {h : Int} {v : Value} {D : SD} : (addTx h v D).2.2.led = D.2.2.led := by
  obtain ⟨es, ep, t⟩ := D
  have l1 := L2.layNew_led t es h v
  refine tail_led.trans ?_
  show (if (layNew t es h v).2.1.plain = true then { (layNew t es h v).2.1 with plain := false } else (layNew t es h v).2.1).led = t.led
  split <;> exact l1
/-- one that is there already -/
theorem add_old {a : Addr} {T : String} {D : SD} {l : List Str} {k : Str} {u : Tok} {Q : Bool → Shared → Prop} (ho : s.heap.get? a = some (sObj T D)) (F : TxOk P w D l) (hk : k ∈ l) (hb : l.length < scanBound)
    (h : Q false s) : wpAny (model P w) A (setAddHashed a (.str k u) (hashStr w k)) Q E s := by
  obtain ⟨es, ep, t⟩ := D
  have hd : (sObj T (es, ep, t)).data = .set es ep t := rfl
  have hf : t.fits es.size = true := F.fit
  have hel : ElemsOf (strKind P w) es.toList := F.el
  have hb0 : es.size < scanBound := by rw [show es.size = l.length from F.sz]; exact hb
  have hkey : (strKind P w).is k (.str k u) = true := is_str k u
  unfold setAddHashed setAddHashedIn
  refine wpAny_holding (wpAny_bind (wpAny_setState_of ho hd hf ?_))
  dsimp only
  rw [byScan_of rfl hb0 hel]
  simp only [↓reduceIte]
  unfold setAddByScan
  refine wpAny_bind ?_
  refine wpAny_bind (wpAny_rule ?_)
  refine wpAny_bind (wpAny_setScan_of (knd := strKind P w) (k := k) hkey ho hd hf hel ?_)
  cases hfi : List.findIdx? (fun e => (strKind P w).is k e.2) es.toList with
  | some j => exact wpAny_pure (wpAny_pure h)
  | none =>
    obtain ⟨e, he, q⟩ := (F.mem k).mp hk
    have c := List.findIdx?_eq_none_iff.mp hfi e he
    rw [q] at c
    cases c
/-- the members behind so many signs of a text -/
def Upto (x : Str) (i : Nat) (l : List Str) : Prop := l.length ≤ i ∧ ∀ k : Str, k ∈ l ↔ k ∈ (PyProof.Rows.signs x).take i
theorem upto_step {x : Str} {i c : Nat} {l : List Str} (u : Upto x i l) (hc : x.cps[i]? = some c) : (PyProof.Rows.signs x)[i]? = some (sing c) ∧
    ∀ k, k ∈ (PyProof.Rows.signs x).take (i + 1) ↔ k ∈ l ∨ k = sing c := by
  have e : (PyProof.Rows.signs x)[i]? = some (sing c) := by
    unfold PyProof.Rows.signs
    rw [List.getElem?_map, Array.getElem?_toList, hc]
    rfl
  refine ⟨e, fun k => ?_⟩
  rw [List.take_add_one, e, u.2 k]
  simp
theorem code_updT {I a : Addr} {fp wr : List Addr} {n : Nat} {St : Nat → Heap → Prop} {x : Str} {R : Result → Shared → Prop}
    (W : Walks P w A.in1 I fp wr n (SignAt x) St) (hn : n = x.cps.size) (hsz : n + 1 < scanBound) (haf : a ∉ fp) : ∀ (m i : Nat) (l : List Str) (s : Shared), n - i = m → i ≤ n → St i s.heap →
    WkT P w s.heap a l → Upto x i l →
    (∀ h' tk l', (∀ b o, b ∉ a :: wr → s.heap.get? b = some o → h'.get? b = some o) → WkT P w h' a l' → Upto x n l' → R (.ok (.ret .none)) { s with heap := h', toks := tk }) →
    codeAny (model P w) A (.builtin "set.update.loop" ⟨[.ref a, .ref I], []⟩) R s := by
  have haw : a ∉ wr := fun z => haf (W.sub _ z)
  have hsub : ∀ b, b ∉ a :: wr → b ∉ wr := fun b hb z => hb (List.mem_cons_of_mem _ z)
  intro m
  induction m with
  | zero =>
    intro i l s hm hi hst hS hu hR
    have hin : i = n := by omega
    subst hin
    refine codeAny_builtin PyProof.Rows.F.entry_set_update_loop ?_
    rw [Around.under_plainId PyProof.Rows.F.plain_set_update_loop _]
    show wpAny _ A.in1 (pyNext (.ref I) >>= _) _ _ s
    refine wpAny_bind (W.done s _ _ hst fun h' tk hk' => ?_)
    show wpAny _ A.in1 (ret Value.none) _ _ _
    exact wpAny_pure (hR h' tk l (fun b o hb e => hk' b o (hsub b hb) e) (hS.at fun o e => hk' a o haw e) hu)
  | succ m ih =>
    intro i l s hm hi hst hS hu hR
    have hlt : i < n := by omega
    refine codeAny_builtin PyProof.Rows.F.entry_set_update_loop ?_
    rw [Around.under_plainId PyProof.Rows.F.plain_set_update_loop _]
    show wpAny _ A.in1 (pyNext (.ref I) >>= _) _ _ s
    refine wpAny_bind (W.item i s _ _ hlt hst fun v h' tk hP hst' hk' => ?_)
    obtain ⟨c, t, hc, rfl⟩ := hP
    obtain ⟨e1, e2⟩ := upto_step hu hc
    have hS' : WkT P w h' a l := hS.at fun o e => hk' a o haw e
    obtain ⟨D, hD, F, nd, hb, hr, hl⟩ := hS'
    show wpAny _ A.in1 (holding [Value.str (sing c) t] (setAdd a (.str (sing c) t)) >>= _) _ _ _
    refine wpAny_bind (wpAny_holding ?_)
    unfold setAdd
    refine wpAny_holding ?_
    refine wpAny_bind ((strKind P w).pyHash (k := sing c) (is_str _ _) ?_)
    have hll : l.length ≤ i := hu.1
    by_cases hk : sing c ∈ l
    · refine add_old (s := { s with heap := h', toks := tk + 1 }) hD F hk hb ?_
      refine wpAny_pure ⟨plainId_quiet PyProof.Rows.F.plain_set_update_loop _, ih (i + 1) l { s with heap := h', toks := tk + 1 } (by omega) hlt hst' ⟨D, hD, F, nd, hb, hr, hl⟩ ⟨by omega, fun k => ?_⟩ fun h'' tk'' l' hk'' w' u' => ?_⟩
      · rw [e2 k]
        exact ⟨.inl, fun z => z.elim id fun q => q ▸ hk⟩
      · exact hR h'' tk'' l' (fun b o hb e => hk'' b o hb (hk' b o (hsub b hb) e)) w' u'
    · have hb2 : l.length + 1 < scanBound := by omega
      refine add_x (s := { s with heap := h', toks := tk + 1 }) hD F hk hb2 ?_
      have hne : ∀ b ∈ fp, b ≠ a := fun b hb z => haf (z ▸ hb)
      have k2 : ∀ b o, b ≠ a → h'.get? b = some o → (h'.update a (fun _ => sObj "set" (addTx (hashStr w (sing c)) (.str (sing c) t) D))).get? b = some o := fun b o hb e => PySem.Heap.get?_update_of_ne _ (Ne.symm hb) e
      have hw : WkT P w (h'.update a (fun _ => sObj "set" (addTx (hashStr w (sing c)) (.str (sing c) t) D))) a (sing c :: l) :=
        ⟨_, get_upd _ hD rfl, add_ok t F, List.nodup_cons.mpr ⟨hk, nd⟩, hb2, add_ris hr, hl.imp id fun z => by rw [add_led]; exact z⟩
      refine wpAny_pure ⟨plainId_quiet PyProof.Rows.F.plain_set_update_loop _, ih (i + 1) (sing c :: l) { s with heap := h'.update a (fun _ => sObj "set" (addTx (hashStr w (sing c)) (.str (sing c) t) D)), toks := tk + 1 } (by omega) hlt
        (W.frame _ h' _ hst' fun b hb o e => k2 b o (hne b hb) e) hw ⟨?_, fun k => ?_⟩ fun h'' tk'' l' hk'' w' u' => ?_⟩
      · show l.length + 1 ≤ i + 1
        omega
      · rw [e2 k, List.mem_cons]
        exact Or.comm
      · exact hR h'' tk'' l' (fun b o hb e => hk'' b o hb (k2 b o (fun z => hb (z ▸ List.mem_cons_self ..)) (hk' b o (hsub b hb) e))) w' u'
end
end PySem.Froz

/-! Mq35: set(text), sorted(set). -/
namespace PySem.Froz
open PySem PySem.Spec PyProof.Rows L2
def emptyO (w : World) : Obj := { cls := .type "set", dict := none, data := .set #[] 0 (.fresh 0 0 (!w.params.followText "set-order")) }
theorem wkt_new {P : Program} {w : World} {h : Heap} {a : Addr} (ho : h.get? a = some (emptyO w)) : WkT P w h a [] := by
  refine ⟨(#[], 0, .fresh 0 0 (!w.params.followText "set-order")), ho, TxOk.nil rfl, List.nodup_nil, by decide, List.Pairwise.nil, ?_⟩
  show _ ∨ (!w.params.followText "set-order") = true
  cases w.params.followText "set-order"
  · exact .inr rfl
  · exact .inl rfl
section
variable {P : Program} {w : World} {A : Around} {E : Value → Shared → Prop} {s : Shared}
set_option maxHeartbeats 3200000 in
theorem call_set_txt {x : Str} {u : Tok} {Q : Value → Shared → Prop} (hh : A.handled = none) (hsz : x.cps.size + 1 < scanBound)
    (h : ∀ (h' : Heap) (tk : Nat) (l : List Str), WkT P w h' s.heap.objs.size l → Upto x x.cps.size l → (∀ b o, s.heap.get? b = some o → h'.get? b = some o) → Q (.ref s.heap.objs.size) { s with heap := h', toks := tk }) :
    wpAny (model P w) A (call (.type "set") [.str x u]) Q E s := by
  obtain ⟨c, tl, hmro⟩ := PySem.F.called_set.mro
  have hmade := PySem.F.called_set.made
  have hsub := PySem.F.called_set.sub
  refine wpAny_call (codeAny_of_tree ?_)
  show wpAny _ _ (callAny (.type "set") _) _ _ _
  refine wpAny_pure ⟨Code.quiet_builtin _ (by decide +kernel), codeAny_builtin F.entry_type_call ?_⟩
  rw [Around.under_plain (weight_type_call_type "set" [.str x u] []) rfl]
  have h1 := PySem.F.called_set.notType
  have h2 := PySem.F.called_set.canCreate
  have hct := F.typeCall_set_1 (.str x u)
  repeat (any_goals (first | assumption | wp_step))
  refine codeAny_mono (code_set_led1 (.str x u) (E := E) (Q₁ := fun obj s₁ => obj = .ref s.heap.objs.size ∧ s₁ = { s with heap := s.heap.push (emptyO w) }) ⟨rfl, rfl⟩) fun r s₁ hr => ?_
  cases r with
  | error e => exact hr
  | ok fl =>
    cases fl with
    | ret obj =>
      obtain ⟨rfl, rfl⟩ := hr
      have hS : (s.heap.push (emptyO w)).get? s.heap.objs.size = some (emptyO w) := Heap.get?_push_size _ rfl
      have hT : Shared.TypeIs { s with heap := s.heap.push (emptyO w) } (.ref s.heap.objs.size) "set" := ⟨_, hS, rfl⟩
      have hli := PySem.F.called_set.init.lookup
      have hbi := PySem.F.called_set.init.bind (.ref s.heap.objs.size)
      repeat (any_goals (first | assumption | wp_step))
      refine codeAny_mono (codeAny_call_builtin (R := wants (fun r s₂ => r = .none ∧ ∃ h' tk l, s₂ = { s with heap := h', toks := tk } ∧ WkT P w h' s.heap.objs.size l ∧ Upto x x.cps.size l ∧
          (∀ b o, s.heap.get? b = some o → h'.get? b = some o)) E) PySem.F.called_set.init.plain F.entry_set_init (check_set_init_1 hT ?_)) fun r₂ s₂ hr₂ => ?_
      · unfold Builtin.«set.__init__» noKeywords Builtin.Frozenset.updateFrom
        generalize hPI : pyIter = PI
        have hA1 := PySem.F.sub_str_set
        have hA2 := PySem.F.sub_str_frozenset
        have hne : (Value.type "str" == Value.type "dict") = false := by decide
        unfold emptyO at hS hT ⊢
        wp_walk
        subst hPI
        refine wpAny_pyIter_str fun o St hW hst => ?_
        refine wpAny_bind (wpAny_runValue ?_)
        have hsz1 : (s.heap.push (emptyO w)).objs.size = s.heap.objs.size + 1 := Heap.size_push ..
        have hS2 : WkT P w ((s.heap.push (emptyO w)).push o) s.heap.objs.size [] := (wkt_new (P := P) (Heap.get?_push_size _ rfl)).at fun _ e => Heap.get?_push_of_some _ e
        refine code_updT (hW _ (by simp [hh])) rfl hsz ?hSf (x.cps.size - 0) 0 [] _ rfl (Nat.zero_le _) hst hS2 ⟨Nat.le_refl 0, fun k => by simp⟩ fun h' tk l hk hw hu => ?_
        case hSf =>
          rw [List.mem_singleton]
          show s.heap.objs.size ≠ (s.heap.push (emptyO w)).objs.size
          rw [hsz1]
          exact Nat.ne_of_lt (Nat.lt_succ_self _)
        show wpAny _ _ _ _ _ _
        refine wpAny_pure ?_
        show wpAny _ _ (ret Value.none) _ _ _
        refine wpAny_pure ⟨rfl, h', tk, l, rfl, hw, hu, fun b o' e => ?_⟩
        have hb0 : b < s.heap.objs.size := Heap.lt_size e
        refine hk b o' (fun z => ?_) (Heap.get?_push_of_some _ (Heap.get?_push_of_some _ e))
        rcases List.mem_cons.mp z with z | z
        · exact Nat.ne_of_lt hb0 z
        · have z2 : b = (s.heap.push (emptyO w)).objs.size := List.mem_singleton.mp z
          rw [hsz1] at z2
          exact absurd hb0 (by rw [z2]; exact Nat.not_lt_of_le (Nat.le_succ _))
      · cases r₂ with
        | error e => exact hr₂
        | ok fl₂ =>
          cases fl₂ with
          | ret r =>
            obtain ⟨rfl, h', tk, l, rfl, hS', hc', hk'⟩ := hr₂
            repeat (any_goals (first | assumption | wp_step))
            exact h _ _ _ hS' hc' hk'
          | _ => exact hr₂.elim
    | _ => exact hr.elim
end
end PySem.Froz

/-! Mq36: sorted(set) of texts. -/
namespace PySem.Froz
open PySem PySem.Spec PyProof.Rows L2
theorem nd_perm {α : Type} : ∀ (l m : List α), l.Nodup → (∀ x ∈ l, x ∈ m) → m.length ≤ l.length → m.Perm l
  | [], m, _, _, h => by
    have e : m = [] := List.length_eq_zero_iff.mp (Nat.le_zero.mp h)
    rw [e]
  | x :: l, m, nd, sub, h => by
    obtain ⟨n1, n2⟩ := List.nodup_cons.mp nd
    obtain ⟨m1, m2, e⟩ := List.append_of_mem (sub x (List.mem_cons_self ..))
    subst e
    refine List.perm_middle.trans ((nd_perm l (m1 ++ m2) n2 (fun y hy => ?_) ?_).cons x)
    · have q := sub y (List.mem_cons_of_mem _ hy)
      rcases List.mem_append.mp q with q | q
      · exact List.mem_append_left _ q
      · rcases List.mem_cons.mp q with q | q
        · exact absurd hy (q ▸ n1)
        · exact List.mem_append_right _ q
    · simp only [List.length_append, List.length_cons] at h ⊢
      omega
section
variable {P : Program} {w : World} {A : Around} {E : Value → Shared → Prop} {s : Shared}
theorem texts_perm {D : SD} {l : List Str} (F : TxOk P w D l) (nd : l.Nodup) : (∀ v ∈ D.1.toList.map (·.2), ∃ x t, v = Value.str x t) ∧ ((D.1.toList.map (·.2)).map strOf).Perm l := by
  have hs : ∀ v ∈ D.1.toList.map (·.2), ∃ x t, v = Value.str x t := fun v hv => by
    obtain ⟨e, he, q⟩ := List.mem_map.mp hv
    obtain ⟨⟨k, hk, _⟩, _⟩ := F.el e he
    obtain ⟨t, ev⟩ := Value.isStrOf_shape (x := k) (v := e.2) hk
    exact ⟨k, t, by rw [← q]; exact ev⟩
  refine ⟨hs, nd_perm _ _ nd (fun k hk => ?_) ?_⟩
  · obtain ⟨e, he, q⟩ := (F.mem k).mp hk
    obtain ⟨t, ev⟩ := Value.isStrOf_shape (x := k) (v := e.2) q
    refine List.mem_map.mpr ⟨e.2, List.mem_map.mpr ⟨e, he, rfl⟩, ?_⟩
    rw [ev]
    rfl
  · rw [List.length_map, List.length_map, Array.length_toList, F.sz]
    exact Nat.le_refl _
theorem sorted_txt {a : Addr} {l : List Str} {Q : Value → Shared → Prop} (R : WkT P w s.heap a l) (hh : A.handled = none) (h64 : l.length < 64)
    (hQ : ∀ s' p (out : Array Value) (c : Nat) (ys : List Str), (∀ b o, s.heap.get? b = some o → s'.heap.get? b = some o) → s'.gens = s.gens → s'.os = s.os → s.heap.objs.size ≤ p →
      s'.heap.get? p = some (seqObj "list" out c) → StrsAre out.toList ys → ys.Perm l → sortedS ys = true → Q (.ref p) s') :
    wpAny (model P w) A (call (.builtin "sorted") [.ref a]) Q E s := by
  obtain ⟨⟨es, ep, t⟩, ho, F, nd, hb, hr, hl⟩ := R
  obtain ⟨hs, hp⟩ := texts_perm F nd
  have hf : t.fits es.size = true := F.fit
  have hn : es.size = l.length := F.sz
  refine Calls.call_function_entry kind_sorted plain_sorted entry_sorted (args_sorted1 _) ?_
  unfold Builtin.«sorted»
  refine wpAny_bind (m := checkCount "sorted" 1 1 _) (wpAny_pure ?_)
  refine wpAny_bind (collect_set (A := A.in1) hh ⟨_, ho, rfl, rfl⟩ hf (by rw [hn]; exact hb) hr hl fun s1 vs k1 hz g1 o1 pm => ?_)
  have hvl : vs.length = l.length := by rw [pm.length_eq, List.length_map, Array.length_toList]; exact hn
  have hS : StrsAre vs (vs.map strOf) := strsAre_map vs fun v hv => hs v (pm.mem_iff.mp hv)
  refine wpAny_bind (wpAny_newList ?_ (by rw [hvl, sizeLine_eq]; omega))
  have hoL : (s1.heap.push (seqObj "list" vs.toArray 0)).get? s1.heap.objs.size = some (seqObj "list" vs.toArray 0) := Heap.get?_push_size _ rfl
  refine wpAny_bind (wpAny_holding (wpAny_call_entry slot_list_sort ⟨_, hoL, rfl⟩ entry_list_sort
    (list_sort_treeK strKind_oneLt hoL hS.keysOf (fun v₁ v₂ rest e => keyKind_strs (by rw [← e]; exact hS)) (by rw [hvl]; exact h64) fun st' hp' hs' => ⟨_, rfl, ?_⟩) (args_list_sort _)))
  obtain ⟨ys, a1, a2, a3⟩ := sorted_out_str hS hp' hs'
  obtain ⟨c, hc⟩ := sortedHeap_at (vs := vs) (out := (arrOf st').map (·.2)) hoL
  refine wpAny_pure ⟨_, rfl, hQ _ s1.heap.objs.size _ c ys (fun b u e => ?_) g1 o1 hz hc a1 (a2.trans ((pm.map strOf).trans hp)) a3⟩
  have q := k1 b u e
  have hlt := Heap.lt_size q
  show (sortedHeap (s1.heap.push (seqObj "list" vs.toArray 0)) s1.heap.objs.size vs ((arrOf st').map (·.2))).get? b = some u
  rw [sortedHeap_old (Nat.ne_of_lt hlt) (by rw [size_push']; exact Nat.lt_succ_of_lt hlt)]
  exact Heap.get?_push_of_some _ q
end
end PySem.Froz

/-! Mq37: set(text), sorted(set) as rules. -/
namespace Mq
open PySem PySem.Spec PyProof.Rows L2 PySem.Froz
/-- the set of the texts l at a -/
def TxO (P : Program) (w : World) (a : Addr) (l : List Str) : HO := .ext fun h => WkT P w h a l
section
variable {X : Cx}
theorem txO_new {w : World} {P : Program} {H : Hp} {h : Heap} {a : Addr} {l : List Str} (R : WkT P w h a l) : ObjOk P w H h a (TxO P w a l) := by
  have ⟨D, ho, _⟩ := R
  exact ⟨R, ⟨_, ho⟩, fun h1 h2 p k => WkT.at p k⟩
theorem txO_get {pins : List (Addr × Obj)} {σ : L2.St} {H : Hp} {s : Shared} {a : Addr} {l : List Str} (I : Inv X pins σ H s) (ha : H a = some (TxO X.prog X.w a l)) : WkT X.prog X.w s.heap a l := (I.hok a _ ha).1
/-- set(text) -/
def rSetTx (X : Cx) : List V → Hp → VK → Prop := fun xs H Q => ∃ x : Str, xs = [V.str x] ∧ x.cps.size + 1 < scanBound ∧
  ∀ (p : Addr) (l : List Str), H p = none → l.Nodup → l.length ≤ x.cps.size → (∀ k, k ∈ l ↔ k ∈ signs x) → Q (.ref p) (upd H p (TxO X.prog X.w p l))
theorem cr_setTx (hc : X.calm = true) : CallR X (.type "set") (rSetTx X) := by
  intro pins s σ H xs us Q I r h
  obtain ⟨x, rfl, hsz, q⟩ := h
  obtain ⟨v, rfl, rv⟩ := r.one
  obtain ⟨t, rfl⟩ := rv
  refine call_set_txt (I.ok.hd hc) hsz fun h' tk l hw hu hk => ?_
  have e : (signs x).take x.cps.size = signs x := List.take_of_length_le (by unfold signs; rw [List.length_map, Array.length_toList] <;> exact Nat.le_refl _)
  have hn : l.Nodup := by
    obtain ⟨D, _, _, nd, _⟩ := hw
    exact nd
  exact ⟨.ref _, upd H s.heap.objs.size (TxO X.prog X.w s.heap.objs.size l), I.laid (t' := tk) hk (Nat.le_refl _) (txO_new hw), rfl, q _ l (I.hok.fresh (Nat.le_refl _)) hn hu.1 fun k => by rw [hu.2 k, e]⟩
/-- sorted(s), s a set of fewer than 64 texts -/
def rSortTx (X : Cx) : List V → Hp → VK → Prop := fun vs H Q => ∃ (a : Addr) (l : List Str), vs = [V.ref a] ∧ H a = some (TxO X.prog X.w a l) ∧ l.length < 64 ∧
  ∀ (ys : List Str) (p : Addr), ys.Perm l → sortedS ys = true → H p = none → Q (.ref p) (upd H p (.lst (ys.map V.str)))
theorem cr_sortTx (hc : X.calm = true) : CallR X (.builtin "sorted") (rSortTx X) := by
  intro pins s σ H vs us Q I r h
  obtain ⟨a, l, rfl, ha, h64, q⟩ := h
  have R := txO_get I ha
  rw [Vals.ref1 r]
  refine sorted_txt R (I.ok.hd hc) h64 fun s' p out c ys k g o hp hg hi hs hm => ?_
  have hlen : (ys.map V.str).length ≤ sizeLine := by rw [List.length_map, hs.length_eq]; exact small64 h64
  have hn : H p = none := I.hok.fresh hp
  have J : Inv X pins σ (upd H p (.lst (ys.map V.str))) { s with heap := s'.heap, gens := s'.gens, drawn := s'.drawn, toks := s'.toks } :=
    I.call (ch := []) (Un.laid k hp hn) (I.hok.laid k hp ⟨hlen, out.toList, c, vals_of_strs hi, hg⟩) (by rw [g]; exact I.bare) (fun _ z => nomatch z)
  have e : s' = { s with heap := s'.heap, gens := s'.gens, drawn := s'.drawn, toks := s'.toks } := by
    cases s'
    cases s
    cases o
    rfl
  rw [e]
  exact ⟨.ref p, _, J, rfl, q ys p hs hm hn⟩
theorem txO_setOf {P : Program} {w : World} {h : Heap} {a : Addr} {l : List Str} (R : WkT P w h a l) : h.SetOf (PySem.strKind P w) a (fun k => decide (k ∈ l)) l.length := by
  obtain ⟨D, ho, F, nd, hb, _, _⟩ := R
  exact ⟨_, D.1, D.2.1, D.2.2, ho, ⟨rfl, rfl, rfl⟩, rfl, F.el, fun k => by rw [decide_eq_true_eq]; exact F.mem k, by rw [show D.1.size = l.length from F.sz]; exact hb, F.fit, F.sz⟩
/-- text in s, text not in s -/
def rTxIn (X : Cx) (neg : Bool) : V → V → Hp → VK → Prop := fun x y H Q => ∃ k a l, x = V.str k ∧ y = V.ref a ∧ H a = some (TxO X.prog X.w a l) ∧ Q (.bl (if neg then !decide (k ∈ l) else decide (k ∈ l))) H
theorem or_txIn : OpR X (compareOp .In) (rTxIn X false) := by
  intro pins s σ H x y v u Q I rx ry h
  obtain ⟨k, a, l, rfl, rfl, ha, q⟩ := h
  obtain ⟨tk, rfl⟩ := rx
  cases ry
  exact wpAny_inSet_of (strKind_is _ _ _ _) rfl (txO_setOf (txO_get I ha)) ⟨.bl _, H, I.tok _, rfl, q⟩
theorem or_txNotIn : OpR X (compareOp .NotIn) (rTxIn X true) := by
  intro pins s σ H x y v u Q I rx ry h
  obtain ⟨k, a, l, rfl, rfl, ha, q⟩ := h
  obtain ⟨tk, rfl⟩ := rx
  cases ry
  exact wpAny_notInSet_of (strKind_is _ _ _ _) rfl (txO_setOf (txO_get I ha)) ⟨.bl _, H, I.tok _, rfl, q⟩
end
end Mq

namespace Mq
open PySem PySem.Spec PyProof.Rows L2
/-! ### list(text) -/
def rListTx : List V → Hp → VK → Prop := fun xs H Q => ∃ x : Str, xs = [.str x] ∧ x.cps.size ≤ sizeLine ∧ ∀ p, H p = none → p ≠ sysModules → Q (.ref p) (upd H p (.lst (x.cps.toList.map fun c => V.str ⟨#[c]⟩)))
theorem call_listTx {X : Cx} (hc : X.calm = true) : CallR X (.type "list") rListTx := by
  intro pins s σ H xs us Q I r h
  obtain ⟨x, rfl, hx, q⟩ := h
  obtain ⟨v, rfl, rv⟩ := r.one
  obtain ⟨t, rfl⟩ := rv
  refine call_list_str (I.ok.hd hc) x t (fun h' tk acc' c' hk hD ha => ?_) hx
  refine ⟨.ref s.heap.objs.size, upd H s.heap.objs.size (.lst (x.cps.toList.map fun c => V.str ⟨#[c]⟩)), I.laid (t' := tk) hk (Nat.le_refl _) ⟨?_, acc'.toList, c', ?_, ?_⟩, rfl, q _ (I.hok.fresh (Nat.le_refl _)) (Nat.ne_of_gt (Inv.low I))⟩
  · rw [List.length_map, Array.length_toList]
    exact hx
  · have el : acc'.toList.length = acc'.size := by simp
    refine vals_of_at (by rw [List.length_map, el, ha.1, Array.length_toList]) fun j y w h1 h2 => ?_
    obtain ⟨c, u, hcx, rfl⟩ := ha.2 j w (by rw [← Array.getElem?_toList]; exact h2)
    rw [List.getElem?_map, Array.getElem?_toList, hcx] at h1
    cases h1
    exact ⟨u, rfl⟩
  · rw [Array.toArray_toList]
    exact hD
/-! ### t[::-1] -/
section
variable {prog : Program} {w : World} {A : Around} {E : Value → Shared → Prop} {s : Shared}
theorem adjust_rev (n : Nat) : Builtin.Slice.sliceAdjust none none (-1) (n : Int) = ((n : Int) - 1, -1) := by
  unfold Builtin.Slice.sliceAdjust
  rfl
theorem places_rev (n : Nat) : Builtin.Slice.slicePlaces ((n : Int) - 1) (-1) (-1) = n := by
  unfold Builtin.Slice.slicePlaces
  have h1 : ¬ ((-1 : Int) > 0) := by omega
  simp only [h1, if_false]
  split
  · show (((n : Int) - 1 - -1 - 1) / 1 + 1).toNat = n
    rw [Int.ediv_one]
    omega
  · show (0 : Int).toNat = n
    omega
theorem fm_congr {α β : Type} {f g : α → Option β} : ∀ {l : List α}, (∀ k ∈ l, f k = g k) → l.filterMap f = l.filterMap g
  | [], _ => rfl
  | k :: l, h => by
    rw [List.filterMap_cons, List.filterMap_cons, h k List.mem_cons_self, fm_congr fun x hx => h x (List.mem_cons_of_mem _ hx)]
theorem pick_rev (xs : Array Value) : ((List.range xs.size).filterMap fun (k : Nat) => xs[(((xs.size : Int) - 1) + (k : Int) * (-1)).toNat]?) = xs.toList.reverse := by
  have e : ∀ k ∈ List.range xs.size, xs[(((xs.size : Int) - 1) + (k : Int) * (-1)).toNat]? = (fun k => xs[xs.size - 1 - k]?) k := by
    intro k hk
    have h1 := List.mem_range.mp hk
    have : (((xs.size : Int) - 1) + (k : Int) * (-1)).toNat = xs.size - 1 - k := by omega
    rw [this]
  rw [fm_congr e]
  have h2 : (List.range xs.size).filterMap (fun k => xs[xs.size - 1 - k]?) = ((List.range xs.size).map fun k => xs.size - 1 - k).filterMap (xs[·]?) := by
    rw [List.filterMap_map]
    rfl
  rw [h2, PySem.W.krv_range, List.filterMap_reverse, PySem.W.krv_all]
theorem sliceApplied_rev {sl : Addr} {vl vu vs : Value} {n : Nat} {Q : Int × Int × Nat → Shared → Prop} (hs : s.heap.IsSliceOf sl vl vu vs) (pl : IsPart vl none) (pu : IsPart vu none) (ps : IsPart vs (some (-1)))
    (h : Q ((n : Int) - 1, -1, n) s) : wpAny (model prog w) A (Builtin.Slice.sliceApplied (.ref sl) (pure (n : Int))) Q E s := by
  obtain ⟨os, hos, hcs, hds⟩ := id hs
  unfold Builtin.Slice.sliceApplied Builtin.Slice.sliceFields
  refine wpAny_bind (wpAny_bind (wpAny_field hos hds (x := vl) rfl (wpAny_bind (wpAny_field hos hds (x := vu) rfl (wpAny_bind (wpAny_field hos hds (x := vs) rfl (wpAny_pure ?_)))))))
  refine wpAny_bind (HT.slicePart_ ps ?_)
  show wpAny _ _ (if ((-1 : Int) == 0) = true then _ else _) _ _ s
  rw [if_neg (by decide)]
  refine wpAny_bind (HT.slicePart_ pl (wpAny_bind (HT.slicePart_ pu (wpAny_bind (wpAny_pure ?_)))))
  show wpAny _ _ (match Builtin.Slice.sliceAdjust none none (-1) (n : Int) with | (lo, hi) => pure (lo, (-1 : Int), Builtin.Slice.slicePlaces lo hi (-1))) _ _ s
  rw [adjust_rev n]
  show wpAny _ _ (pure (((n : Int) - 1), (-1 : Int), Builtin.Slice.slicePlaces ((n : Int) - 1) (-1) (-1))) _ _ s
  rw [places_rev]
  exact wpAny_pure h
theorem getItem_tuple_rev {t sl : Addr} {items : Array Value} {vl vu vs : Value} {Q : Value → Shared → Prop} (ht : IsTup s.heap t items) (hs : s.heap.IsSliceOf sl vl vu vs) (pl : IsPart vl none) (pu : IsPart vu none) (ps : IsPart vs (some (-1)))
    (h : Q (.ref s.heap.objs.size) { s with heap := s.heap.push { cls := .type "tuple", data := .seq items.toList.reverse.toArray } })
    (hsz : items.size ≤ sizeLine) : wpAny (model prog w) A (getItem (.ref t) (.ref sl)) Q E s := by
  have htake : sizeOk (.seq items.toList.reverse.toArray) := by
    show items.toList.reverse.toArray.size ≤ sizeLine
    rw [List.size_toArray, List.length_reverse, Array.length_toList]
    exact hsz
  obtain ⟨os, hos, hcs, hds⟩ := id hs
  have hTs : s.TypeIs (.ref sl) "slice" := ⟨os, hos, hcs⟩
  unfold getItem
  try with_reducible refine wpAny_holding ?_
  first | refine wpAny_bind (wpAny_pure ?_) | skip
  refine wpAny_bind (wpAny_sequenceKey ht.typeIs (by decide) ?_)
  refine wpAny_bind (wpAny_callSpecial?_slot (name := Str.ofString "__getitem__") ht.typeIs PyProof.Rows.slot_tuple_getitem
    (wpAny_call_entry PyProof.Rows.slot_tuple_getitem ht.typeIs PyProof.Rows.entry_tuple_getitem ?_ (PyProof.Rows.args_tuple_getitem _ _)))
  show wpAny _ _ (Builtin.Tuple.tupleItemsOf (.ref t) >>= _) _ _ s
  refine wpAny_bind (tupleItemsOf_ ht ?_)
  refine wpAny_bind (wpAny_typeOf hTs ?_)
  rw [if_pos (by decide)]
  refine wpAny_bind (sliceApplied_rev hs pl pu ps ?_)
  have hno : ¬ ((((items.size : Int) - 1) == 0 && (-1 : Int) == 1 && items.size == items.size) = true) := by
    rw [show ((-1 : Int) == 1) = false by decide, Bool.and_false, Bool.false_and]
    exact Bool.false_ne_true
  show wpAny _ _ (if ((((items.size : Int) - 1) == 0 && (-1 : Int) == 1 && items.size == items.size)) = true then _ else _) _ _ s
  rw [if_neg hno, pick_rev]
  first
    | exact wpAny_bind (m := Builtin.Tuple.tupleExact _) (wpAny_newObj_type (wpAny_pure ⟨_, rfl, wpAny_pure h⟩) htake)
    | exact wpAny_bind (m := Builtin.Tuple.tupleExact _) (wpAny_newObj_type (wpAny_bind (wpAny_pure (wpAny_pure ⟨_, rfl, wpAny_pure h⟩))) htake)
    | exact wpAny_bind (wpAny_bind (m := Builtin.Tuple.tupleExact _) (wpAny_newObj_type (wpAny_pure (wpAny_pure ⟨_, rfl, wpAny_pure h⟩)) htake))
    | exact wpAny_bind (wpAny_bind (m := Builtin.Tuple.tupleExact _) (wpAny_newObj_type (wpAny_pure ⟨_, rfl, wpAny_pure h⟩) htake))
end
def tRevT (K : PySem.W.Frag) (te : TE) : TE := fun σ H Q => te σ H fun x H1 => ∃ a xs, x = .ref a ∧ SqT K H1 a xs ∧ ∀ p, H1 p = none → Q (.ref p) (upd H1 p (.tup xs.reverse))
theorem pe_revT {X : Cx} {e : Expr} {te : TE} {k : Nat} {p1 p2 p3 pos : Pos} (he : PE X e te) : PE X (.Subscript e (.Slice none none (some (.UnaryOp .USub (.Constant (.int 1) k p1) p2)) p3) pos) (tRevT X.K te) := by
  refine ⟨fun pins s σ H Q I h => ?_⟩
  refine Subscript_ (thn (he.run pins s σ H _ I h) fun v s1 ⟨x, H1, I1, r1, q1⟩ => ?_)
  obtain ⟨a, xs, ex, hx, q⟩ := q1
  subst ex
  cases r1
  have hst : PO X (some (.UnaryOp .USub (.Constant (.int 1) k p1) p2)) (tPart (tUn (rU fun i => .int (-i)) (tC (.int 1)))) := po_some (pe_un un_neg pe_int)
  refine wpAny_Slice (thn (po_none.run pins s1 σ H1 (fun o H2 => o = none ∧ H2 = H1) I1 ⟨rfl, rfl⟩) fun vl s2 ⟨l, H2, I2, pl, el, e2⟩ => ?_)
  subst el e2
  refine thn (po_none.run pins s2 σ H2 (fun o H3 => o = none ∧ H3 = H2) I2 ⟨rfl, rfl⟩) fun vu s3 ⟨u, H3, I3, pu, eu, e3⟩ => ?_
  subst eu e3
  refine thn (hst.run pins s3 σ H3 (fun o H4 => o = some (-1) ∧ H4 = H3) I3 ⟨1, rfl, -1, rfl, rfl, rfl⟩) fun vs s4 ⟨o, H4, I4, ps, eo, e4⟩ => ?_
  subst eo e4
  have I5 : Inv X pins σ H4 { s4 with heap := s4.heap.push { cls := .type "slice", data := .fields #[vl, vu, vs] } } := I4.kept (t' := s4.toks) fun b ob q => Heap.get?_push_of_some _ q
  obtain ⟨its, r, ht, hz⟩ := I5.tuple hx
  have hlen := r.length
  show wpAny (model X.prog X.w) X.A (subscriptTail e (.Slice none none (some (.UnaryOp .USub (.Constant (.int 1) k p1) p2)) p3) (.ref a) (.ref s4.heap.objs.size)) (EP X pins σ Q) X.xe { s4 with heap := s4.heap.push { cls := .type "slice", data := .fields #[vl, vu, vs] } }
  refine tail_any (ops := [.ref a, .ref s4.heap.objs.size]) ht.typeIs (PyProof.Rows.slot_tuple_getitem.lookup) ?_ (by with_unfolding_all rfl)
  refine getItem_tuple_rev ht (Heap.IsSliceOf.new _ vl vu vs) pl pu ps ?_ (by rw [List.size_toArray]; omega)
  refine ⟨.ref _, _, I5.laid (t' := s4.toks) (o := .tup xs.reverse) (fun b ob q => Heap.get?_push_of_some _ q) (Nat.le_refl _) ?_, rfl, q _ (I5.hok.fresh (Nat.le_refl _))⟩
  exact ⟨by rw [List.length_reverse]; exact hz, its.reverse, r.reverse, IsTup.new _ _⟩
end Mq

namespace Mq
open PySem PySem.Spec PyProof.Rows L2
open SX (S)
/-! ### tuples cut and joined: what stands in the end -/
def NewT (K : PySem.W.Frag) (xs : List V) (H : Hp) (Q : VK) : Prop := ∀ p H', Same H H' → SqT K H' p xs → Q (.ref p) H'
theorem NewT.put {K : PySem.W.Frag} {xs : List V} {H : Hp} {Q : VK} (q : NewT K xs H Q) {p : Addr} (hp : H p = none) : Q (.ref p) (upd H p (.tup xs)) := q p _ (same_new hp) (Or.inl (Or.inl upd_same))
def rSlN (K : PySem.W.Frag) : V → Option Int → Option Int → Hp → VK → Prop := fun x lo hi H Q => ∃ a xs, x = .ref a ∧ SqT K H a xs ∧ NewT K (cutV xs lo hi) H Q
section
variable {X : Cx}
theorem sl_tupN : SlR X (rSlN X.K) := by
  intro pins s σ H x v vl vu lo hi sl Q I rx hs pl pu h
  obtain ⟨a, xs, ex, hx, q⟩ := h
  refine sl_tupA pins s σ H x v vl vu lo hi sl Q I rx hs pl pu ⟨a, xs, ex, hx, fun h => q a H (Same.refl H) ?_, fun _ p hp => q.put hp⟩
  have : cutV xs lo hi = xs := by
    unfold cutV
    rw [h.1, h.2, Nat.sub_zero, List.drop_zero, List.take_length]
  rw [this]
  exact hx
def rCatN (K : PySem.W.Frag) : R2 := fun x y H Q => ∃ a b xs ys, x = .ref a ∧ y = .ref b ∧ SqT K H a xs ∧ SqT K H b ys ∧ xs.length + ys.length ≤ sizeLine ∧ NewT K (xs ++ ys) H Q
theorem op_catN : OpR X (binaryOp .Add) (rCatN X.K) := by
  intro pins s σ H x y v u Q I rx ry h
  obtain ⟨a, b, xs, ys, ex, ey, hx, hy, hz, q⟩ := h
  refine op_catA pins s σ H x y v u Q I rx ry ⟨a, b, xs, ys, ex, ey, hx, hy, hz, fun e => q b H (Same.refl H) ?_, fun _ e => q a H (Same.refl H) ?_, fun _ _ p hp => q.put hp⟩
  · subst e
    exact hy
  · subst e
    rw [List.append_nil]
    exact hx
/-! ### twice a text -/
theorem op_2S : OpR X (binaryOp .Mult) (fun x y H Q => ∃ z : List Nat, x = .int 2 ∧ y = .str (S z) ∧ z.length ≤ 1000 ∧ Q (.str (S (z ++ z))) H) := by
  intro pins s σ H x y v u Q I rx ry h
  obtain ⟨z, rfl, rfl, hz, q⟩ := h
  obtain ⟨t, rfl⟩ := rx
  obtain ⟨t', rfl⟩ := ry
  have hl : (S z).length = z.length := SX.S_len z
  refine lm_binaryOp_repeat_right (T := "str") (U := "int") (by decide) (fun s' => typeIs_int s' 2 t) (typeIs_str s (S z) t') F.fills_int_mul noFill_str_mul F.slot_int_mul lm_noRepeat_int repeat_str F.slot_int_index.lookup
    (call_gives F.slot_int_mul (typeIs_int s 2 t) F.entry_int_mul (F.args_int_mul_2 _ _) (AutoIntG3.int___mul___int_str_0 2 t (S z) t')
      ⟨rfl, typeIs_str _ _ _, call_gives F.slot_str_mul (typeIs_str _ (S z) t') F.entry_str_mul (F.args_str_mul_2 _ _) (gives_str_mul (S z) 2 t' t (by decide) (fun _ _ => ?_) (fun _ _ => ?_)) ?_⟩)
  · rw [hl]
    have : (1000 : Int) ≤ (2 ^ 63 - 1) / 2 := by decide
    omega
  · rw [hl]
    unfold Builtin.Str.tooLong
    exact decide_eq_false (by
      have : (1000 * 2 : Nat) ≤ sizeLine := by decide
      show ¬ (z.length * 2 > sizeLine)
      omega)
  · rw [if_neg (by decide)]
    cases z with
    | nil => exact ⟨.str (S []), H, I, ⟨_, rfl⟩, q⟩
    | cons c z =>
      rw [show (((2 : Int) == 1) || ((S (c :: z)).length == 0)) = false by rw [hl]; rfl, if_neg Bool.false_ne_true]
      have e : (⟨(List.replicate (2 : Int).toNat (S (c :: z)).cps).foldl (· ++ ·) #[]⟩ : Str) = S ((c :: z) ++ (c :: z)) := by
        show (⟨(#[] ++ (c :: z).toArray) ++ (c :: z).toArray⟩ : Str) = ⟨((c :: z) ++ (c :: z)).toArray⟩
        simp
      rw [e]
      refine ⟨?_, .str (S ((c :: z) ++ (c :: z))), H, I.tok _, ⟨_, rfl⟩, q⟩
      show (S ((c :: z) ++ (c :: z))).length ≤ sizeLine
      rw [SX.S_len, List.length_append]
      have : (2000 : Nat) ≤ sizeLine := by decide
      omega
end
end Mq

namespace Lw
open PySem PySem.Spec PyProof.Rows L2 Mq
open SX (S)
/-! ### Book.read and the text of a book -/
theorem FdAll.snoc {K : PySem.W.Frag} {H : Hp} {v : V} {f : Fd} : ∀ {vs : List V} {fs : List Fd}, FdAll K H vs fs → FdAt K H v f → FdAll K H (vs ++ [v]) (fs ++ [f])
  | _, _, .nil, h => .cons h .nil
  | _, _, .cons a b, h => .cons a (b.snoc h)
theorem FdAll.unsnoc {K : PySem.W.Frag} {H : Hp} {g : Fd} : ∀ {vs : List V} {fs : List Fd}, FdAll K H vs (fs ++ [g]) → ∃ us v, vs = us ++ [v] ∧ FdAll K H us fs ∧ FdAt K H v g
  | _, [], h => by
    cases h with
    | cons a b =>
      cases b
      exact ⟨[], _, rfl, .nil, a⟩
  | _, f :: fs, h => by
    cases h with
    | cons a b =>
      obtain ⟨us, v, rfl, h1, h2⟩ := FdAll.unsnoc b
      exact ⟨_ :: us, v, rfl, .cons a h1, h2⟩
theorem push_same {H0 H : Hp} {L : Addr} {o : HO} (hn : H0 L = none) (s : Same H0 H) : Same H0 (upd H L o) := by
  intro b u e
  rw [upd_ne (ne_of_none e hn)]
  exact s b u e
def stopB (acc : List Fd) : Option Fd → Bool
  | none => true
  | some f => !okNext acc f
def tStop (K : PySem.W.Frag) : TT := fun σ H Q => ∃ L fv vs acc o, σ[4]? = some (some (.ref L)) ∧ σ[6]? = some (some fv) ∧ H L = some (.lst vs) ∧ FdAll K H vs acc ∧ FoldR K H o fv ∧ ∀ H', Same H H' → Q (stopB acc o) H'
def spRead (K : PySem.W.Frag) (C CT : Addr) : Sp := fun vs H Q E => ∃ v : V, vs = [.ref C, v] ∧
  ((NoTx K H v ∧ ∀ H' d, Same H H' → H' d = none → E (.ref CT) (some d) (lineD d 0 H')) ∨ ∃ t : List Nat, v = .str (S t) ∧ t.length ≤ 20000 ∧
    match pageM t with
    | .inr k => ∀ H' d, Same H H' → H' d = none → E (.ref CT) (some d) (lineD d k H')
    | .inl (sg, fs) => ∀ H' r fa ta xs, Same H H' → BkAt H' C r sg fs fa ta → SqT K H' fa xs → FdAll K H' xs fs → Q (.ref r) H')
theorem head_facts {t sg : List Nat} {ls : List (List Nat)} (h : headM t = some (sg, ls)) : lettersB sg = true ∧ sg.length ≤ t.length ∧ ls.length ≤ t.length ∧ ∀ l ∈ ls, l.length ≤ t.length := by
  unfold headM at h
  have h1 := spl_many 10 t
  have h2 : ∀ x ∈ spl 10 t, x.length ≤ t.length := fun x hx => spl_len hx
  split at h
  · rename_i l0 ls0 e
    rw [e] at h1 h2
    cases hw : headW l0 with
    | none =>
      rw [hw] at h
      cases h
    | some w =>
      rw [hw] at h
      cases h
      unfold headW at hw
      have h3 : ∀ x ∈ spl 32 l0, x.length ≤ l0.length := fun x hx => spl_len hx
      split at hw
      · rename_i w0 w1 e2
        rw [e2] at h3
        split at hw
        · rename_i c
          cases hw
          refine ⟨(Bool.and_eq_true_iff.mp c).2, Nat.le_trans (h3 _ (by simp)) (h2 _ (by simp)), ?_, fun l hl => h2 l (List.mem_cons_of_mem _ hl)⟩
          rw [List.length_cons] at h1
          omega
        · cases hw
      · cases hw
  · cases h
theorem cut2 (f : Fd) : cutV (fdV f) none (some 2) = [V.str (keyF f).1, V.str (keyF f).2] := rfl
section
variable {P : Program} {w : World} {K : PySem.W.Frag} {mg : Str → Option Value} {base : Heap} {C CT : Addr}
theorem ok_read {f fT fO fI : Addr} {fd fdT fdO fdI : FuncData} {fE : Addr} (F : Fun K "read" "Book.read" s_Book_read f fd) (B : Blt mg)
    (FT : Fun K "text_parts" "text_parts" s_text_parts fT fdT) (gT : mg "text_parts" = some (.ref fT)) (bT : Binds K fdT ["word", "text"] []) (GT : FnOk P w K mg base (L2.CX P w) 3 fT fdT ["word", "text"] (spTextParts K CT))
    (FO : Fun K "fold_read" "fold_read" s_fold_read fO fdO) (gO : mg "fold_read" = some (.ref fO)) (bO : Binds K fdO ["letters", "line"] []) (GO : FnOk P w K mg base CX0 3 fO fdO ["letters", "line"] (spFoldOf K))
    (MK : Mk K C fI) (bI : Binds K fdI ["self", "letters", "folds"] []) (GI : FnOk P w K mg base CX0 3 fI fdI ["self", "letters", "folds"] (spBook K C))
    (T : MqE_line.Txt K mg "BadText" "BadText.__init__" CT fE) :
    FnOk P w K mg base (L2.CX P w) 5 f fd ["cls", "text"] (spRead K C CT) := by
  refine F.okX sc_Book_read (fun vs H Q E h => ?_) (fun cdv A outer s H vs Q E hr h => ?_)
  · obtain ⟨_, rfl, _⟩ := h
    rfl
  · obtain ⟨v, rfl, h⟩ := h
    have hu0 : (A.deeper (envOfC "Book.read" (defScope s_Book_read) s.heap.objs.size f cdv)).units < cLine := by
      have := hr.units
      omega
    refine ⟨_, (pss_cons (ps_asg (pe_call GT (hr.mono (by decide)) (by rfl) gT FT.kp bT .nil (passes_call (takes_of rfl rfl rfl rfl) (fun _ _ _ _ z => z)) (pa_cons pe_str (pa_cons (pv 1) pa_nil))) (pg_tup rfl (pgs_cons (pg_name (i := 2) sc_Book_read.nd rfl (Or.inl rfl)) (pgs_cons (pg_name (i := 3) sc_Book_read.nd rfl (Or.inl rfl)) pgs_nil))))
      (pss_cons (ps_set (i := 4) sc_Book_read.nd rfl (Or.inl rfl) (Mq.pe_ls pa_nil))
      (pss_cons (ps_for (passes_of rfl) rfl (pi_list (pv 3)) (pg_name (i := 5) sc_Book_read.nd rfl (Or.inl rfl))
        (pss_cons (ps_set (i := 6) sc_Book_read.nd rfl (Or.inl rfl) (pe_call GO (hr.mono (by decide)) (by rfl) gO FO.kp bO .nil pass0 (pa_cons (pv 2) (pa_cons (pv 5) pa_nil))))
        (pss_cons (ps_if (PT_imp (t' := tStop K) (PW.pt (pw_or (pt_cmpR op_isN (pv 6) pe_non (nomark _)) (pw_or1 (PW.pt (pw_and (pt_truth (pv 4) (by intro _; rfl)) (pw_and1 (pt_cmpR (op_leSS hu0) (pe_slice sl_tup (pv 6) po_none (po_some pe_int)) (pe_slice sl_tup (pe_ix ix_list (pv 4) (pe_un un_neg pe_int) (fun _ _ => rfl)) po_none (po_some pe_int)) (nomark _)))))))) (fun σ H Q h => by
            obtain ⟨L, fv, vs, acc, o, h4, h6, hL, ha, ho, q⟩ := h
            cases o with
            | none =>
              cases (show fv = .non from ho)
              exact ⟨_, h6, rfl, _, rfl, ifT rfl (q H (Same.refl H))⟩
            | some f =>
              obtain ⟨p, rfl, hp⟩ := ho
              refine ⟨_, h6, rfl, _, rfl, ifF rfl ⟨_, h4, _, Or.inl ⟨vs, SqL.of hL, rfl⟩, ?_⟩⟩
              rcases List.eq_nil_or_concat acc with rfl | ⟨acc', g, rfl⟩
              · cases ha
                exact ifF rfl (q H (Same.refl H))
              · rw [List.concat_eq_append] at ha q
                obtain ⟨us, v, rfl, h1, pg, rfl, hg⟩ := ha.unsnoc
                refine ifT (by simp) ⟨_, h6, 2, rfl, p, _, rfl, hp, (fun z => absurd z.2 (by show ¬ 2 = 3; decide)), fun p1 hp1 => ?_⟩
                rw [cut2]
                have s1 := same_new (o := HO.tup [V.str (keyF f).1, V.str (keyF f).2]) hp1
                refine ⟨_, h4, _, rfl, L, _, -1, _, rfl, rfl, SqL.of (s1 _ _ hL), atI_last _ _, 2, rfl, pg, _, rfl, Same.tup s1 hg, (fun z => absurd z.2 (by show ¬ 2 = 3; decide)), fun p2 hp2 => ?_⟩
                rw [cut2]
                have s2 := same_new (o := HO.tup [V.str (keyF g).1, V.str (keyF g).2]) hp2
                refine ⟨p1, p2, keyF f, keyF g, rfl, rfl, Same.tup s2 (Or.inl (Or.inl upd_same)), Or.inl (Or.inl upd_same), ?_⟩
                have e : stopB (acc' ++ [g]) (some f) = leSS (keyF f) (keyF g) := by
                  rw [le_not]
                  show (!okNext (acc' ++ [g]) f) = _
                  unfold okNext
                  rw [List.getLast?_concat]
                rw [← e]
                exact ⟨_, rfl, q _ (s1.trans s2)⟩))
          (pss_one (MqE_line.ps_raise rfl T hr (takes_of rfl rfl rfl rfl) (pa_cons (pe_op op_add (pe_callB call_len_seq (by rfl) B.len (by decide +kernel) (pa_cons (pv 4) pa_nil)) pe_int) pa_nil))) pss_nil)
        (pss_one (ps_expr (pe_bm PySem.F.plainAttrs_list PySem.F.slot_list_append PySem.F.type_list_append mt_append (pv 4) (pa_cons (pv 6) pa_nil)))))))
      (pss_one (ps_ret (pe_makeV MK GI (hr.mono (by decide)) (pv 0) bI pass0 (pa_cons (pv 2) (pa_cons (pe_callTy call_tuple_of (by rfl) B.tuple (by decide +kernel) (pa_cons (pv 4) pa_nil)) pa_nil)))))))), ?_⟩
    refine ⟨_, rfl, v, rfl, ?_⟩
    rcases h with ⟨hn, q⟩ | ⟨t, rfl, ht, q⟩
    · exact Or.inl ⟨hn, q⟩
    refine Or.inr ⟨t, rfl, ht, ?_⟩
    unfold pageM at q
    cases hh : headM t with
    | none =>
      rw [hh] at q
      exact q
    | some a =>
      obtain ⟨sg, ls⟩ := a
      rw [hh] at q
      dsimp only at q ⊢
      intro H1 T1 L1 s1 hT1 hL1
      obtain ⟨hlet, hsl, hll, hlm⟩ := head_facts hh
      refine ⟨T1, _, rfl, hT1, rfl, _, _, rfl, _, _, rfl, rfl, ?_⟩
      refine ⟨sz_le (n := 0) (by decide), fun L hL _ => ?_⟩
      have s2 := same_new (o := HO.lst []) hL
      have z2 : upd H1 L (.lst []) L = some (.lst []) := upd_same
      have zL := s2 _ _ hL1
      generalize upd H1 L (.lst []) = H2 at s2 z2 zL ⊢
      refine ⟨_, rfl, L1, rfl, ⟨_, SqL.of zL⟩, ?_⟩
      refine for_list (xs := ls.map fun l => V.str (S l)) (fun i σ H' => Same H1 H' ∧ ∃ vs acc o5 o6, H' L = some (.lst vs) ∧ FdAll K H' vs acc ∧ acc.length = i ∧ FsOk sg acc ∧ bodyM sg (ls.drop i) acc = bodyM sg ls [] ∧
        σ = [some (.ref C), some (.str (S t)), some (.str (S sg)), some (.ref L1), some (.ref L), o5, o6]) ⟨s2, [], [], _, _, z2, .nil, rfl, FsOk.nil sg, rfl, rfl⟩ (fun i σ H' _ p => SqL.of (p.1 _ _ hL1)) ?_ ?_
      · rintro i x σ H3 hx ⟨s3, vs, acc, o5, o6, hv, ha, hlen, hok, hb, rfl⟩
        obtain ⟨l, hi, rfl⟩ : ∃ l, ls[i]? = some l ∧ x = .str (S l) := by
          rw [List.getElem?_map] at hx
          cases e : ls[i]? with
          | none => rw [e] at hx; cases hx
          | some l => rw [e] at hx; cases hx; exact ⟨l, rfl, rfl⟩
        have hil : i < ls.length := by
          rcases Nat.lt_or_ge i ls.length with h | h
          · exact h
          · rw [List.getElem?_eq_none h] at hi
            cases hi
        have hlm' := hlm l (List.mem_of_getElem? hi)
        rw [bodyM_snoc hi] at hb
        refine ⟨_, rfl, _, rfl, sg, l, rfl, by omega, by omega, fun H4 v4 s4 hv4 => ?_⟩
        have hL4 := s4 _ _ hv
        have ha4 := ha.kp (KpT.same s4)
        refine ⟨L, v4, vs, acc, foldM sg l, rfl, rfl, hL4, ha4, hv4, fun H5 s5 => ?_⟩
        have s15 := (s3.trans s4).trans s5
        have hL5 := s5 _ _ hL4
        have ha5 := ha4.kp (KpT.same s5)
        have hvl : vs.length = acc.length := ha5.len
        have raise : bodyM sg ls [] = .inr (acc.length + 2) → ∀ d, H5 d = none → E (.ref CT) (some d) (upd H5 d (.xd [("line", .int ((vs.length : Nat) + 2))])) := by
          intro e d hd
          rw [e] at q
          have q' := q H5 d (s1.trans s15) hd
          unfold lineD at q'
          rw [hvl]
          exact q'
        cases hfm : foldM sg l with
        | none =>
          rw [hfm] at hb
          exact ifT rfl ⟨_, rfl, L, _, rfl, .inl (SqL.of hL5), _, _, rfl, rfl, _, rfl, raise hb.symm⟩
        | some f =>
          rw [hfm] at hb hv4
          dsimp only at hb
          cases hn : okNext acc f with
          | false =>
            rw [hn] at hb
            exact ifT (by show (!okNext acc f) = true; rw [hn]; rfl) ⟨_, rfl, L, _, rfl, .inl (SqL.of hL5), _, _, rfl, rfl, _, rfl, raise hb.symm⟩
          | true =>
            rw [hn] at hb
            refine ifF (by show (!okNext acc f) = false; rw [hn]; rfl) ?_
            refine ⟨_, rfl, Or.inl ⟨rfl, _, SqL.of hL5⟩, _, rfl, L, _, _, rfl, rfl, hL5, sz_lt (by omega), push_same hL s15, vs ++ [v4], acc ++ [f], _, _, upd_same, ?_, ?_, ?_, hb, rfl⟩
            · exact (ha5.snoc (FdAt.kp hv4 (KpT.same s5))).kp (KpT.lst hL5)
            · rw [List.length_append, hlen]
              rfl
            · exact hok.snoc (fold_ok hfm) hn (by omega)
      · rintro σ H3 ⟨s3, vs, acc, o5, o6, hv, ha, hlen, hok, hb, rfl⟩
        rw [List.drop_of_length_le (by rw [List.length_map]; exact Nat.le_refl _)] at hb
        have hb' : bodyM sg ls [] = .inl acc := hb.symm
        rw [hb'] at q
        refine ⟨_, rfl, rfl, _, rfl, _, rfl, L, vs, rfl, Or.inl ⟨SqL.of hv, fun fa hfa => ?_⟩⟩
        have s4 := same_new (o := HO.tup vs) hfa
        have t4 : SqT K (upd H3 fa (.tup vs)) fa vs := Or.inl (Or.inl upd_same)
        have ha4 := ha.kp (KpT.same s4)
        generalize upd H3 fa (.tup vs) = H4 at s4 t4 ha4 ⊢
        intro x dx hx hdx hne
        have s5 := same_new (o := HO.own x) hdx
        have hx5 : upd H4 dx (.own x) x = none := (upd_ne (Ne.symm hne)).trans hx
        have s6 := s5.trans (same_new (o := HO.ins C dx []) hx5)
        refine ⟨x, dx, fa, sg, acc, vs, rfl, upd_same, Same.tup s6 t4, ha4.kp (KpT.same s6), hok, sg_ok hlet (by omega), fun H7 ta hbk kp => ⟨rfl, ?_⟩⟩
        have s7 : Same H4 H7 := by
          intro b o e
          refine kp b o (s6 b o e) ?_
          rintro rfl
          rw [hx] at e
          cases e
        exact q H7 x fa ta vs (((s1.trans s3).trans s4).trans s7) hbk (Same.tup s7 t4) (ha4.kp (KpT.same s7))
end
end Lw

namespace Lw
open PySem PySem.Spec PyProof.Rows L2 Mq
open SX (S)
/-! ### the text of a book, told by both -/
def orDash (z : List Nat) : List Nat := if z = [] then [45] else z
def foldL : List Nat := [102, 111, 108, 100]
def wordsT (f : Fd) : List (List Nat) := [foldL, [f.x], [f.y], orDash f.z]
def lineT (f : Fd) : List Nat := TL.joinL [32] (wordsT f)
def pageT (sg : List Nat) (fs : List Fd) : List Nat := TL.joinL [10] ((bookL ++ [32] ++ sg) :: fs.map lineT)
theorem app_le {a b : Str} {m n : Nat} (h : a.length ≤ m) (k : b.length ≤ n) : (a ++ b).length ≤ m + n := by
  have e : (a ++ b).length = a.length + b.length := Array.size_append ..
  omega
theorem S_le {l : List Nat} {n : Nat} (h : l.length ≤ n) : (S l).length ≤ n := by rw [SX.S_len]; exact h
theorem fd_z {sg : List Nat} {f : Fd} (h : fdOk sg f) : f.z.length ≤ 1 := by
  rcases h.2.2 with h | ⟨c, _, h⟩
  · rw [h]; exact Nat.zero_le _
  · rw [h]; exact Nat.le_refl _
theorem orDash_len {z : List Nat} (h : z.length ≤ 1) : (orDash z).length ≤ 1 := by
  unfold orDash
  split
  · exact Nat.le_refl _
  · exact h
theorem lineT_eq (f : Fd) : lineT f = foldL ++ [32] ++ [f.x] ++ [32] ++ [f.y] ++ [32] ++ orDash f.z := by
  unfold lineT wordsT
  simp [TL.joinL]
theorem lineT_len {sg : List Nat} {f : Fd} (h : fdOk sg f) : (lineT f).length ≤ 10 := by
  rw [lineT_eq]
  have := orDash_len (fd_z h)
  simp only [List.length_append, List.length_singleton]
  show 4 + 1 + 1 + 1 + 1 + 1 + _ ≤ 10
  omega
def tOrDash : TE := fun σ H Q => ∃ z, σ[4]? = some (some (.str (S z))) ∧ z.length ≤ 1 ∧ Q (.str (S (orDash z))) H
def tLine : TE := fun σ H Q => ∃ f : Fd, σ[2]? = some (some (.str (S [f.x]))) ∧ σ[3]? = some (some (.str (S [f.y]))) ∧ σ[4]? = some (some (.str (S f.z))) ∧ f.z.length ≤ 1 ∧ Q (.str (S (lineT f))) H
def spStr (K : PySem.W.Frag) (C : Addr) : Sp := fun vs H Q _ => ∃ (r fa ta : Addr) (sg : List Nat) (fs : List Fd) (xs : List V), vs = [.ref r] ∧ BkAt H C r sg fs fa ta ∧ SqT K H fa xs ∧ FdAll K H xs fs ∧ FsOk sg fs ∧ sg.length ≤ 20000 ∧
  ∀ H', Same H H' → Q (.str (S (pageT sg fs))) H'
def tOrDash5 : TE := fun σ H Q => ∃ z, σ[5]? = some (some (.str (S z))) ∧ Q (.str (S (orDash z))) H
def spPage (K : PySem.W.Frag) : Sp := fun vs H Q _ => ∃ (fa : Addr) (sg : List Nat) (fs : List Fd) (xs : List V), vs = [.str (S sg), .ref fa] ∧ SqT K H fa xs ∧ FdAll K H xs fs ∧ FsOk sg fs ∧ sg.length ≤ 20000 ∧
  ∀ H', Same H H' → Q (.str (S (pageT sg fs))) H'
theorem sum_le {ps : List (List Nat)} {n : Nat} (h : ∀ p ∈ ps, p.length ≤ n) : ((ps.map S).map (·.length)).sum ≤ ps.length * n := by
  induction ps with
  | nil => exact Nat.zero_le _
  | cons p ps ih =>
    rw [List.map_cons, List.map_cons, List.sum_cons, List.length_cons, Nat.succ_mul]
    have h1 := ih fun q hq => h q (List.mem_cons_of_mem _ hq)
    have h2 := h p List.mem_cons_self
    rw [SX.S_len]
    omega
theorem page_sum {sg : List Nat} {fs : List Fd} (h : FsOk sg fs) (hl : sg.length ≤ 20000) : ((((bookL ++ [32] ++ sg) :: fs.map lineT).map S).map (·.length)).sum + (((bookL ++ [32] ++ sg) :: fs.map lineT).map S).length * (S [10]).length ≤ 16777216 := by
  have h1 : (((fs.map lineT).map S).map (·.length)).sum ≤ (fs.map lineT).length * 10 := sum_le fun p hp => by
    obtain ⟨f, hf, rfl⟩ := List.mem_map.mp hp
    exact lineT_len (h.ok f hf)
  have h2 := h.few
  rw [List.length_map] at h1
  rw [List.map_cons, List.map_cons, List.sum_cons, SX.S_len, List.length_cons, List.length_map, List.length_map, SX.S_len]
  simp only [List.length_append, List.length_singleton]
  show 4 + 1 + sg.length + _ + (fs.length + 1) * 1 ≤ _
  omega
section
variable {P : Program} {w : World} {K : PySem.W.Frag} {mg : Str → Option Value} {base : Heap} {C CT : Addr}
theorem ok_str {f : Addr} {fd : FuncData} (F : Fun K "__str__" "Book.__str__" s_Book___str__ f fd) (R : BkC K C) :
    FnOk P w K mg base CX0 1 f fd ["self"] (spStr K C) := by
  refine F.ok sc_Book___str__ (fun vs H Q E h => ?_) (fun cdv A outer s H vs Q E hr h => ?_)
  · obtain ⟨_, _, _, _, _, _, rfl, _⟩ := h
    rfl
  · obtain ⟨r, fa, ta, sg, fs, xs, rfl, ⟨⟨dx, h1⟩, h2⟩, hfa, hall, hok, hsg, q⟩ := h
    refine ⟨_, (pss_cons (ps_setLc (i := 1) (own := [("last", 2), ("laid", 3), ("left", 4)]) (g := gTup K 3 (gCons (gName 2) (gCons (gName 3) (gCons (gName 4) gNil)))) (tt := tYes) rfl sc_Book___str__.nd rfl rfl (sw_true rfl rfl rfl (by decide +kernel)) (pi_tup (pe_fld (pv 0) rfl)) (blkOk_by (own := [("last", 2), ("laid", 3), ("left", 4)]) (N := ["self", "lines", "last", "laid", "left"]) (sc := defScope s_Book___str__) (by decide +kernel)) (fun _ _ _ _ _ => pg_tup rfl (pgs_cons (pg_name (i := 2) sc_Book___str__.nd rfl (Or.inl rfl)) (pgs_cons (pg_name (i := 3) sc_Book___str__.nd rfl (Or.inl rfl)) (pgs_cons (pg_name (i := 4) sc_Book___str__.nd rfl (Or.inl rfl)) pgs_nil)))) (fun _ _ _ _ _ => pts_nil)
        (fun _ _ _ _ _ => (PE_imp (t' := tLine) (pe_joined (.cons pe_str (.cons (pe_fmt (pv 2)) (.cons pe_str (.cons (pe_fmt (pv 3)) (.cons pe_str (.cons (pe_fmt (PE_imp (t' := tOrDash) (pe_orT (pv 4) (pe_one pe_str)) (fun σ H Q h => by
          obtain ⟨z, h4, hz, q⟩ := h
          have hl : (S z).length = z.length := SX.S_len z
          refine ⟨_, h4, _, ⟨sz_le (by omega), rfl⟩, ?_⟩
          rw [hl]
          unfold orDash at q
          cases z with
          | nil => exact ifF rfl q
          | cons a b => exact ifT (by simp; omega) q))) .nil))))))) (fun σ H Q h => by
          obtain ⟨f, h2, h3, h4, hz, q⟩ := h
          have l0 : (Str.empty ++ ("fold " : Str)).length ≤ 5 := by decide
          have l1 := app_le l0 (S_le (l := [f.x]) (n := 1) (Nat.le_refl _))
          have l2 := app_le l1 (S_le (l := [32]) (n := 1) (Nat.le_refl _))
          have l3 := app_le l2 (S_le (l := [f.y]) (n := 1) (Nat.le_refl _))
          have l4 := app_le l3 (S_le (l := [32]) (n := 1) (Nat.le_refl _))
          have l5 := app_le l4 (S_le (orDash_len hz))
          have e : Str.empty ++ ("fold " : Str) ++ S [f.x] ++ S [32] ++ S [f.y] ++ S [32] ++ S (orDash f.z) = S (lineT f) := by
            rw [lineT_eq, show Str.empty ++ ("fold " : Str) = S (foldL ++ [32]) by decide +kernel]
            simp only [SX.S_cat]
          refine ⟨_, rfl, sz_le (Nat.le_trans l0 (by decide)), _, h2, Or.inl ⟨S [f.x], rfl, sz_le (Nat.le_trans (S_le (n := 1) (Nat.le_refl _)) (by decide)), S [f.x], rfl, sz_le (Nat.le_trans l1 (by decide)), ?_⟩⟩
          refine ⟨S [32], rfl, sz_le (Nat.le_trans l2 (by decide)), _, h3, Or.inl ⟨S [f.y], rfl, sz_le (Nat.le_trans (S_le (n := 1) (Nat.le_refl _)) (by decide)), S [f.y], rfl, sz_le (Nat.le_trans l3 (by decide)), ?_⟩⟩
          refine ⟨S [32], rfl, sz_le (Nat.le_trans l4 (by decide)), f.z, h4, hz, Or.inl ⟨S (orDash f.z), rfl, sz_le (Nat.le_trans (S_le (orDash_len hz)) (by decide)), S (orDash f.z), rfl, sz_le (Nat.le_trans l5 (by decide)), ?_⟩⟩
          rw [e]
          exact q))))
      (pss_one (ps_ret (pe_join pe_str (Mq.pe_ls (pa_cons (pe_joined (.cons pe_str (.cons (pe_fmt (pe_fld (pv 0) rfl)) .nil))) (StX.pa_star (pv 1) pa_nil))))))), ?_⟩
    have hxl : xs.length = fs.length := hall.len
    refine ⟨_, rfl, r, C, dx, _, _, rfl, h1, R.cls, R.nF, rfl, fa, rfl, ⟨_, hfa⟩, fun D hD => ?_⟩
    refine lc_yes (walk_tup (a := fa) (xs := xs)) (fun i H' => Same H H' ∧ H' D = some (.lst ((fs.take i).map fun f => V.str (S (lineT f))))) ⟨same_new hD, upd_same⟩ (fun i H' hi p => Same.tup p.1 hfa) ?_ ?_
    · rintro i x H2 H3 hi ⟨s2, zD⟩ ⟨rfl, hx⟩
      obtain ⟨f, hf, b, rfl, hb⟩ := hall.at hx
      have hb2 := Same.tup s2 hb
      have hz := fd_z (hok.ok f (List.mem_of_getElem? hf))
      refine ⟨b, _, rfl, hb2, rfl, _, _, rfl, _, _, rfl, _, _, rfl, rfl, rfl, ?_⟩
      refine ⟨f, rfl, rfl, rfl, hz, ?_⟩
      have hfs := hok.few
      refine ⟨_, zD, sz_lt (by rw [List.length_map, List.length_take]; omega), push_same hD s2, ?_⟩
      rw [upd_same, List.take_add_one, hf, List.map_append]
      rfl
    · rintro H2 ⟨s2, zD⟩
      rw [hxl, List.take_length] at zD
      have l0 : (Str.empty ++ ("book " : Str)).length ≤ 5 := by decide
      have l1 := app_le l0 (S_le hsg)
      have e : Str.empty ++ ("book " : Str) ++ S sg = S (bookL ++ [32] ++ sg) := by
        rw [show Str.empty ++ ("book " : Str) = S (bookL ++ [32]) by decide +kernel, SX.S_cat]
      refine ⟨⟨_, rfl⟩, _, rfl, sz_le (Nat.le_trans l0 (by decide)), _, rfl, r, C, dx, _, _, rfl, s2 _ _ h1, R.cls, R.nL, rfl, Or.inl ⟨S sg, rfl, sz_le (Nat.le_trans (S_le hsg) (by decide)), S sg, rfl, sz_le (Nat.le_trans l1 (by decide)), ?_⟩⟩
      rw [show ∀ acc σ H Q, tJs [] acc σ H Q = Q acc H from fun _ _ _ _ => rfl]
      refine ⟨_, rfl, D, _, rfl, Or.inr (SqL.of zD), ?_, fun p hp _ => ?_⟩
      · have := hok.few
        rw [List.append_nil, List.length_cons, List.length_map]
        exact sz_le (by omega)
      · rw [List.append_nil, e]
        have s3 := same_new (o := HO.lst (V.str (S (bookL ++ [32] ++ sg)) :: fs.map fun f => V.str (S (lineT f)))) hp
        refine ⟨S [10], p, ((bookL ++ [32] ++ sg) :: fs.map lineT).map S, rfl, rfl, Or.inl (SqL.of (upd_same.trans ?_)), page_sum hok hsg, ?_⟩
        · rw [map_SV, List.map_cons, List.map_map]
          rfl
        · rw [SX.join_S]
          exact q _ (s2.trans s3)
end
end Lw

namespace Lw
open PySem PySem.Spec PyProof.Rows L2 Mq
open SX (S)
/-! ### the folds that are drawn -/
def menu7 : List (List Nat) := [[97, 98], [97, 109], [97, 98, 120], [97], [120, 121, 122], [97, 98, 99, 100, 101], [97, 98]]
def riseB (sg : List Nat) : Bool := (List.range sg.length).all fun a => (List.range sg.length).all fun b => !decide (a < b) || decide (sg.getD a 0 < sg.getD b 0)
theorem menu_ok : ∀ sg ∈ menu7, lettersB sg = true ∧ sg.length ≤ 5 ∧ ∀ a b, a < b → b < sg.length → sg.getD a 0 < sg.getD b 0 := by
  intro sg h
  have h1 : (menu7.all fun sg => lettersB sg && (decide (sg.length ≤ 5) && riseB sg)) = true := by decide +kernel
  have h2 := List.all_eq_true.mp h1 sg h
  obtain ⟨a, h2⟩ := Bool.and_eq_true_iff.mp h2
  obtain ⟨b, h2⟩ := Bool.and_eq_true_iff.mp h2
  refine ⟨a, of_decide_eq_true b, fun i j hij hj => ?_⟩
  unfold riseB at h2
  have h3 := List.all_eq_true.mp (List.all_eq_true.mp h2 i (List.mem_range.mpr (by omega))) j (List.mem_range.mpr hj)
  rw [decide_eq_true hij] at h3
  simpa using h3
theorem getD_mem {l : List Nat} {a : Nat} (ha : a < l.length) : l.getD a 0 ∈ l := by
  rw [List.getD_eq_getElem?_getD, List.getElem?_eq_getElem ha]
  exact List.getElem_mem ha
theorem lt_key {a b c d : Nat} (h : a < c ∨ (a = c ∧ b < d)) : ltSS (S [a], S [b]) (S [c], S [d]) = true := by
  have e : ltSS (S [a], S [b]) (S [c], S [d]) = (decide ((S [a]).cps.toList < (S [c]).cps.toList) || (!decide ((S [c]).cps.toList < (S [a]).cps.toList) && (decide ((S [b]).cps.toList < (S [d]).cps.toList) || (!decide ((S [d]).cps.toList < (S [b]).cps.toList) && false)))) := rfl
  rw [e, lt_sign, lt_sign, lt_sign, lt_sign]
  rcases h with h | ⟨rfl, h⟩
  · rw [decide_eq_true h]
    rfl
  · rw [decide_eq_false (Nat.lt_irrefl a), decide_eq_true h]
    rfl
/-- what is drawn ahead of row i, column j -/
structure Part (sg : List Nat) (i j : Nat) (gs : List Fd) : Prop where
  len : gs.length ≤ 5 * i + j
  ok : FsOk sg gs
  low : ∀ g ∈ gs, ∃ a b, a < sg.length ∧ b < sg.length ∧ g.x = sg.getD a 0 ∧ g.y = sg.getD b 0 ∧ (a < i ∨ (a = i ∧ b < j))
theorem Part.start (sg : List Nat) : Part sg 0 0 [] := ⟨Nat.zero_le _, FsOk.nil sg, fun _ h => by cases h⟩
theorem Part.skip {sg : List Nat} {i j : Nat} {gs : List Fd} (p : Part sg i j gs) : Part sg i (j + 1) gs :=
  ⟨by have := p.len; omega, p.ok, fun g hg => by
    obtain ⟨a, b, h1, h2, h3, h4, h5⟩ := p.low g hg
    exact ⟨a, b, h1, h2, h3, h4, by omega⟩⟩
theorem Part.row {sg : List Nat} {i : Nat} {gs : List Fd} (p : Part sg i sg.length gs) (h3 : sg.length ≤ 5) : Part sg (i + 1) 0 gs :=
  ⟨by have := p.len; omega, p.ok, fun g hg => by
    obtain ⟨a, b, h1, h2, h3, h4, h5⟩ := p.low g hg
    exact ⟨a, b, h1, h2, h3, h4, by omega⟩⟩
theorem Part.put {sg z : List Nat} {i j : Nat} {gs : List Fd} (p : Part sg i j gs) (hl : sg.length ≤ 5) (rise : ∀ a b, a < b → b < sg.length → sg.getD a 0 < sg.getD b 0) (hi : i < sg.length) (hj : j < sg.length) (hz : z = [] ∨ ∃ c ∈ sg, z = [c]) :
    Part sg i (j + 1) (gs ++ [⟨sg.getD i 0, sg.getD j 0, z⟩]) := by
  have hlen := p.len
  refine ⟨by rw [List.length_append]; show gs.length + 1 ≤ _; omega, p.ok.snoc ⟨getD_mem hi, getD_mem hj, hz⟩ ?_ (by omega), fun g hg => ?_⟩
  · unfold okNext
    cases e : gs.getLast? with
    | none => rfl
    | some g =>
      obtain ⟨a, b, h1, h2, h3, h4, h5⟩ := p.low g (List.mem_of_getLast? e)
      show ltSS (S [g.x], S [g.y]) (S [sg.getD i 0], S [sg.getD j 0]) = true
      rw [h3, h4]
      refine lt_key ?_
      rcases h5 with h5 | ⟨rfl, h5⟩
      · exact Or.inl (rise a i h5 hi)
      · exact Or.inr ⟨rfl, rise b j h5 hj⟩
  · rcases List.mem_append.mp hg with hg | hg
    · exact p.skip.low g hg
    · rw [List.mem_singleton.mp hg]
      exact ⟨i, j, hi, hj, rfl, rfl, Or.inr ⟨rfl, Nat.lt_succ_self j⟩⟩
def itemOk (v : V) : Prop := v = .non ∨ v = .str "" ∨ v = .str "!"
def MenuAt (H : Hp) (D C p : Addr) : Prop := p ≠ D ∧ p ≠ C ∧ ∃ xs : List V, H p = some (.lst xs) ∧ 0 < xs.length ∧ xs.length ≤ 10 ∧ ∀ v ∈ xs, itemOk v
theorem MenuAt.same {H H' : Hp} {D C p : Addr} (h : MenuAt H D C p) (e : Same H H') : MenuAt H' D C p := let ⟨a, b, xs, c, d⟩ := h; ⟨a, b, xs, e _ _ c, d⟩
theorem MenuAt.off {H H' : Hp} {D C p : Addr} (h : MenuAt H D C p) (e : Off D C H H') : MenuAt H' D C p := let ⟨a, b, xs, c, d⟩ := h; ⟨a, b, xs, e _ _ a b c, d⟩
theorem new_ne {D C : Addr} {T : Nat} {H : Hp} {q : Addr} (k : DeckAt D C T H) (h : H q = none) : q ≠ D ∧ q ≠ C := by
  obtain ⟨_, _, _, e1, e2, _⟩ := k.ex
  refine ⟨?_, ?_⟩
  · rintro rfl
    rw [h] at e1
    cases e1
  · rintro rfl
    rw [h] at e2
    cases e2
/-- a list of its own is stored to: the deck stays -/
theorem deck_lst {D C L : Addr} {T : Nat} {H : Hp} {o : HO} (k : DeckAt D C T H) (h1 : L ≠ D) (h2 : L ≠ C) : DeckAt D C T (upd H L o) := by
  obtain ⟨m, t, js, a, b, c, d⟩ := k.ex
  exact ⟨m, t, js, (upd_ne (Ne.symm h1)).trans a, (upd_ne (Ne.symm h2)).trans b, c, d⟩
theorem off_lst {D C L : Addr} {H H' : Hp} {o : HO} (e : Off D C H H') (h : H L = none) : Off D C H (upd H' L o) := by
  intro b u h1 h2 e2
  rw [upd_ne (ne_of_none e2 h)]
  exact e b u h1 h2 e2
def spFolds (K : PySem.W.Frag) : Sp := fun vs H Q _ => ∃ (D C : Addr) (T : Nat) (sg : List Nat), vs = [.ref D, .str (S sg)] ∧ DeckAt D C T H ∧ T ≤ 900000 ∧ sg ∈ menu7 ∧
  ∀ H' fa xs fs, FsOk sg fs → fs.length ≤ 25 → SqT K H' fa xs → FdAll K H' xs fs → DeckAt D C (T + 60) H' → Off D C H H' → Q (.ref fa) H'
section
variable {P : Program} {w : World} {K : PySem.W.Frag} {mg : Str → Option Value} {base : Heap}
theorem ok_folds {f fP : Addr} {fd fdP : FuncData} (F : Fun K "_law_folds" "_law_folds" s__law_folds f fd) (B : Blt mg)
    (FP : Fun K "_law_pick" "_law_pick" s__law_pick fP fdP) (gP : mg "_law_pick" = some (.ref fP)) (bP : Binds K fdP ["_law_deck_here", "_law_some"] []) (GP : FnOk P w K mg base CX0 2 fP fdP ["_law_deck_here", "_law_some"] spPick) :
    FnOk P w K mg base CX0 3 f fd ["_law_deck_here", "_law_letters"] (spFolds K) := by
  refine F.ok sc__law_folds (fun vs H Q E h => ?_) (fun cdv A outer s H vs Q E hr h => ?_)
  · obtain ⟨_, _, _, _, rfl, _⟩ := h
    rfl
  · obtain ⟨D, C, T, sg, rfl, hdk, hT, hsg, q⟩ := h
    obtain ⟨hlet, h5, rise⟩ := menu_ok sg hsg
    have hpos := pos_of (letters_alpha hlet).1
    refine ⟨_, (pss_cons (ps_set (i := 2) sc__law_folds.nd rfl (Or.inl rfl) (Mq.pe_ls (pa_cons (Mq.pe_ls (pa_cons pe_non (pa_cons pe_non (pa_cons pe_str (pa_cons pe_str pa_nil))))) (pa_cons (Mq.pe_ls (pa_cons pe_non (pa_cons pe_str (pa_cons pe_str (pa_cons pe_str pa_nil))))) (pa_cons (Mq.pe_ls (pa_cons pe_non (pa_cons pe_str (pa_cons pe_str (pa_cons pe_str pa_nil))))) (pa_cons (Mq.pe_ls (pa_cons pe_non (pa_cons pe_non (pa_cons pe_non (pa_cons pe_str pa_nil))))) pa_nil))))))
      (pss_cons (ps_par (i := 3) (j := 4) rfl sc__law_folds.nd rfl rfl (by decide) rfl rfl (pa_cons (pe_call GP (hr.mono (by decide)) (by rfl) gP FP.kp bP .nil pass0 (pa_cons (pv 0) (pa_cons (pv 2) pa_nil))) (pa_cons (Mq.pe_ls pa_nil) pa_nil)) (by rfl))
      (pss_cons (ps_for PassesOwn.never rfl (pi_str (pv 1)) (pg_name (i := 5) sc__law_folds.nd rfl (Or.inl rfl))
        (pss_one (ps_for PassesOwn.never rfl (pi_str (pv 1)) (pg_name (i := 6) sc__law_folds.nd rfl (Or.inl rfl))
          (pss_cons (ps_set (i := 7) sc__law_folds.nd rfl (Or.inl rfl) (pe_call GP (hr.mono (by decide)) (by rfl) gP FP.kp bP .nil pass0 (pa_cons (pv 0) (pa_cons (pv 3) pa_nil))))
          (pss_one (ps_if (pt_cmpR op_notN (pv 7) pe_non (nomark _)) (pss_one (ps_expr (pe_bm PySem.F.plainAttrs_list PySem.F.slot_list_append PySem.F.type_list_append mt_append (pv 4) (pa_cons (pe_tup (pa_cons (pv 5) (pa_cons (pv 6) (pa_cons (pe_ifExp (pt_cmpR op_eq (pv 7) pe_str (nomark _)) (pv 7) (pe_call GP (hr.mono (by decide)) (by rfl) gP FP.kp bP .nil pass0 (pa_cons (pv 0) (pa_cons (pv 1) pa_nil)))) pa_nil)))) pa_nil)))) pss_nil))))))
      (pss_one (ps_ret (pe_callTy call_tuple_of (by rfl) B.tuple (by decide +kernel) (pa_cons (pv 4) pa_nil))))))), ?_⟩
    refine ⟨sz_le (n := 4) (by decide), fun m1 hm1 _ => ?_⟩
    have k1 : MenuAt (upd H m1 (.lst [V.non, V.non, V.str "", V.str "!"])) D C m1 := ⟨(new_ne hdk hm1).1, (new_ne hdk hm1).2, _, upd_same, Nat.zero_lt_succ _, by decide, by
      intro v hv
      simp only [List.mem_cons, List.not_mem_nil, or_false] at hv
      rcases hv with rfl | rfl | rfl | rfl
      · exact Or.inl rfl
      · exact Or.inl rfl
      · exact Or.inr (Or.inl rfl)
      · exact Or.inr (Or.inr rfl)⟩
    have s1 := same_new (o := HO.lst [V.non, V.non, V.str "", V.str "!"]) hm1
    generalize upd H m1 (.lst [V.non, V.non, V.str "", V.str "!"]) = G1 at k1 s1 ⊢
    refine ⟨sz_le (n := 4) (by decide), fun m2 hm2 _ => ?_⟩
    have e1 := hdk.same s1
    have k2 : MenuAt (upd G1 m2 (.lst [V.non, V.str "", V.str "", V.str "!"])) D C m2 := ⟨(new_ne e1 hm2).1, (new_ne e1 hm2).2, _, upd_same, Nat.zero_lt_succ _, by decide, by
      intro v hv
      simp only [List.mem_cons, List.not_mem_nil, or_false] at hv
      rcases hv with rfl | rfl | rfl | rfl
      · exact Or.inl rfl
      · exact Or.inr (Or.inl rfl)
      · exact Or.inr (Or.inl rfl)
      · exact Or.inr (Or.inr rfl)⟩
    have t2 := same_new (o := HO.lst [V.non, V.str "", V.str "", V.str "!"]) hm2
    have s2 := s1.trans t2
    have k1 := k1.same t2
    generalize upd G1 m2 (.lst [V.non, V.str "", V.str "", V.str "!"]) = G2 at k1 k2 s2 ⊢
    refine ⟨sz_le (n := 4) (by decide), fun m3 hm3 _ => ?_⟩
    have e2 := hdk.same s2
    have k3 : MenuAt (upd G2 m3 (.lst [V.non, V.str "!", V.str "!", V.str ""])) D C m3 := ⟨(new_ne e2 hm3).1, (new_ne e2 hm3).2, _, upd_same, Nat.zero_lt_succ _, by decide, by
      intro v hv
      simp only [List.mem_cons, List.not_mem_nil, or_false] at hv
      rcases hv with rfl | rfl | rfl | rfl
      · exact Or.inl rfl
      · exact Or.inr (Or.inr rfl)
      · exact Or.inr (Or.inr rfl)
      · exact Or.inr (Or.inl rfl)⟩
    have t3 := same_new (o := HO.lst [V.non, V.str "!", V.str "!", V.str ""]) hm3
    have s3 := s2.trans t3
    have k1 := k1.same t3
    have k2 := k2.same t3
    generalize upd G2 m3 (.lst [V.non, V.str "!", V.str "!", V.str ""]) = G3 at k1 k2 k3 s3 ⊢
    refine ⟨sz_le (n := 4) (by decide), fun m4 hm4 _ => ?_⟩
    have e3 := hdk.same s3
    have k4 : MenuAt (upd G3 m4 (.lst [V.non, V.non, V.non, V.str ""])) D C m4 := ⟨(new_ne e3 hm4).1, (new_ne e3 hm4).2, _, upd_same, Nat.zero_lt_succ _, by decide, by
      intro v hv
      simp only [List.mem_cons, List.not_mem_nil, or_false] at hv
      rcases hv with rfl | rfl | rfl | rfl
      · exact Or.inl rfl
      · exact Or.inl rfl
      · exact Or.inl rfl
      · exact Or.inr (Or.inl rfl)⟩
    have t4 := same_new (o := HO.lst [V.non, V.non, V.non, V.str ""]) hm4
    have s4 := s3.trans t4
    have k1 := k1.same t4
    have k2 := k2.same t4
    have k3 := k3.same t4
    generalize upd G3 m4 (.lst [V.non, V.non, V.non, V.str ""]) = G4 at k1 k2 k3 k4 s4 ⊢
    refine ⟨sz_le (n := 4) (by decide), fun ms hms _ => ?_⟩
    have e5 := hdk.same s4
    have t6 := same_new (o := HO.lst [V.ref m1, V.ref m2, V.ref m3, V.ref m4]) hms
    have s6 := s4.trans t6
    have hk : ∀ v ∈ [V.ref m1, V.ref m2, V.ref m3, V.ref m4], ∃ pm, v = .ref pm ∧ MenuAt (upd G4 ms (.lst [V.ref m1, V.ref m2, V.ref m3, V.ref m4])) D C pm := by
      intro v hv
      simp only [List.mem_cons, List.not_mem_nil, or_false] at hv
      rcases hv with rfl | rfl | rfl | rfl
      · exact ⟨_, rfl, k1.same t6⟩
      · exact ⟨_, rfl, k2.same t6⟩
      · exact ⟨_, rfl, k3.same t6⟩
      · exact ⟨_, rfl, k4.same t6⟩
    refine ⟨_, rfl, _, rfl, D, C, _, .ref ms, rfl, hdk.same s6, by omega, Or.inr ⟨ms, _, rfl, upd_same, (new_ne e5 hms).2, Nat.zero_lt_succ _, by show 4 ≤ 1000; decide, fun H4 v hv dk4 off4 => ?_⟩⟩
    obtain ⟨pm, rfl, kpm⟩ := hk v hv
    have km4 := kpm.off off4
    have off04 : Off D C H H4 := (Off.same s6).trans off4
    clear kpm k1 k2 k3 k4 hk hv e1 e2 e3 e5 off4 s6 t6 s4 t4 s3 t3 s2 t2 s1
    refine ⟨sz_le (n := 0) (by decide), fun L hL _ => ?_⟩
    obtain ⟨nD, nC⟩ := new_ne dk4 hL
    have hLH : ∀ b o, b ≠ D → b ≠ C → H b = some o → b ≠ L := fun b o h1 h2 e => ne_of_none (off04 b o h1 h2 e) hL
    have t7 := same_new (o := HO.lst []) hL
    have dk7 := dk4.same t7
    have km7 := km4.same t7
    have off7 := off04.trans (Off.same t7)
    have zL : upd H4 L (.lst []) L = some (.lst []) := upd_same
    generalize upd H4 L (.lst []) = H7 at dk7 km7 off7 zL ⊢
    have pushO : ∀ {H8 : Hp} {o : HO}, Off D C H H8 → Off D C H (upd H8 L o) := by
      intro H8 o e b u h1 h2 e2
      rw [upd_ne (hLH b u h1 h2 e2)]
      exact e b u h1 h2 e2
    have pushM : ∀ {H8 : Hp} {xs : List V}, pm ≠ L → MenuAt H8 D C pm → MenuAt (upd H8 L (.lst xs)) D C pm := fun n k => let ⟨a, b, xs, c, d⟩ := k; ⟨a, b, xs, (upd_ne n).trans c, d⟩
    have nP : pm ≠ L := by
      obtain ⟨_, _, xs, c, _⟩ := km4
      exact ne_of_none c hL
    refine ⟨_, _, rfl, ?_⟩
    refine ⟨_, rfl, S sg, rfl, ?_⟩
    refine for_it (walk_S sg) (fun i σ H' => DeckAt D C (T + 1 + 10 * i) H' ∧ Off D C H H' ∧ MenuAt H' D C pm ∧ ∃ gs vs o5 o6 o7, Part sg i 0 gs ∧ H' L = some (.lst vs) ∧ FdAll K H' vs gs ∧ σ = [some (.ref D), some (.str (S sg)), some (.ref ms), some (.ref pm), some (.ref L), o5, o6, o7])
      ⟨dk7, off7, km7, [], [], _, _, _, Part.start sg, zL, .nil, rfl⟩ (fun _ _ _ _ _ => trivial) ?_ ?_
    · rintro i x σ H5 H5' hi ⟨dk5, off5, km5, gs0, vs0, o5, o6, o7, hp0, hl5, ha5, rfl⟩ ⟨rfl, rfl⟩
      refine ⟨_, rfl, S sg, rfl, ?_⟩
      refine for_it (walk_S sg) (fun j σ H' => DeckAt D C (T + 1 + 10 * i + 2 * j) H' ∧ Off D C H H' ∧ MenuAt H' D C pm ∧ ∃ gs vs o6 o7, Part sg i j gs ∧ H' L = some (.lst vs) ∧ FdAll K H' vs gs ∧ σ = [some (.ref D), some (.str (S sg)), some (.ref ms), some (.ref pm), some (.ref L), some (.str (S [sg.getD i 0])), o6, o7])
        ⟨dk5, off5, km5, gs0, vs0, _, _, hp0, hl5, ha5, rfl⟩ (fun _ _ _ _ _ => trivial) ?_ ?_
      · rintro j x σ H6 H6' hj ⟨dk6, off6, km6, gs, vs, o6, o7, hp6, hl6, ha6, rfl⟩ ⟨rfl, rfl⟩
        obtain ⟨kD, kC, xs, hpm, hx0, hx1, hxs⟩ := km6
        refine ⟨_, rfl, _, rfl, D, C, _, .ref pm, rfl, dk6, by omega, Or.inr ⟨pm, xs, rfl, hpm, kC, hx0, by omega, fun H7 v hv dk7 off7 => ?_⟩⟩
        have km7 : MenuAt H7 D C pm := MenuAt.off ⟨kD, kC, xs, hpm, hx0, hx1, hxs⟩ off7
        have hl7 := off7 L _ nD nC hl6
        have ha7 := ha6.kp (KpT.off off7 dk6)
        have off07 := off6.trans off7
        have hvl := ha6.len
        have hgl := hp6.len
        have put : ∀ (H8 : Hp) (z : List Nat) (T' : Nat), (z = [] ∨ ∃ c ∈ sg, z = [c]) → DeckAt D C T' H8 → T' ≤ T + 1 + 10 * i + 2 * (j + 1) → Off D C H H8 → MenuAt H8 D C pm → H8 L = some (.lst vs) → FdAll K H8 vs gs → ∀ p, H8 p = none →
            (upd H8 p (.tup [.str (S [sg.getD i 0]), .str (S [sg.getD j 0]), .str (S z)])) L = some (.lst vs) ∧
            ∀ H9, H9 = upd (upd H8 p (.tup [.str (S [sg.getD i 0]), .str (S [sg.getD j 0]), .str (S z)])) L (.lst (vs ++ [.ref p])) →
            DeckAt D C (T + 1 + 10 * i + 2 * (j + 1)) H9 ∧ Off D C H H9 ∧ MenuAt H9 D C pm ∧ H9 L = some (.lst (vs ++ [.ref p])) ∧ FdAll K H9 (vs ++ [.ref p]) (gs ++ [⟨sg.getD i 0, sg.getD j 0, z⟩]) := by
          intro H8 z T' hz dk8 hT8 off8 km8 hl8 ha8 p hp
          have s9 := same_new (o := HO.tup [.str (S [sg.getD i 0]), .str (S [sg.getD j 0]), .str (S z)]) hp
          have hl9 := s9 _ _ hl8
          have hk9 : SqT K (upd H8 p (.tup [.str (S [sg.getD i 0]), .str (S [sg.getD j 0]), .str (S z)])) p [.str (S [sg.getD i 0]), .str (S [sg.getD j 0]), .str (S z)] := Or.inl (Or.inl upd_same)
          refine ⟨hl9, fun H9 e9 => ?_⟩
          subst e9
          refine ⟨deck_lst ((dk8.same s9).mono hT8) nD nC, pushO (off8.trans (Off.same s9)), pushM nP (km8.same s9), upd_same, ?_⟩
          exact ((ha8.kp (KpT.same s9)).snoc (f := ⟨sg.getD i 0, sg.getD j 0, z⟩) ⟨p, rfl, hk9⟩).kp (KpT.lst hl9)
        rcases hxs v hv with rfl | rfl | rfl
        · refine ⟨_, rfl, rfl, _, rfl, ifF rfl ?_⟩
          exact ⟨dk7.mono (by omega), off07, km7, gs, vs, _, _, hp6.skip, hl7, ha7, rfl⟩
        · refine ⟨_, rfl, rfl, _, rfl, ifT rfl ?_⟩
          refine ⟨_, rfl, Or.inl ⟨rfl, _, SqL.of hl7⟩, _, rfl, _, rfl, _, rfl, rfl, _, rfl, ifT (by decide +kernel) ⟨_, rfl, sz_le (n := 3) (by decide), fun p hp => ?_⟩⟩
          obtain ⟨a0, a1⟩ := put H7 [] _ (Or.inl rfl) dk7 (by omega) off07 km7 hl7 ha7 p hp
          obtain ⟨a1, a2, a3, a4, a5⟩ := a1 _ rfl
          exact ⟨L, _, _, rfl, rfl, a0, sz_lt (by omega), a1, a2, a3, _, _, _, _, hp6.put h5 rise hi hj (Or.inl rfl), a4, a5, rfl⟩
        · refine ⟨_, rfl, rfl, _, rfl, ifT rfl ?_⟩
          refine ⟨_, rfl, Or.inl ⟨rfl, _, SqL.of hl7⟩, _, rfl, _, rfl, _, rfl, rfl, _, rfl, ifF (by decide +kernel) ⟨_, rfl, _, rfl, D, C, _, _, rfl, dk7, by omega, Or.inl ⟨sg, rfl, hpos, by omega, fun H8 c hc dk8 off8 => ?_⟩⟩⟩
          refine ⟨sz_le (n := 3) (by decide), fun p hp => ?_⟩
          have hl8 := off8 L _ nD nC hl7
          obtain ⟨a0, a1⟩ := put H8 [c] _ (Or.inr ⟨c, hc, rfl⟩) dk8 (by omega) (off07.trans off8) (km7.off off8) hl8 (ha7.kp (KpT.off off8 dk7)) p hp
          obtain ⟨a1, a2, a3, a4, a5⟩ := a1 _ rfl
          exact ⟨L, _, _, rfl, rfl, a0, sz_lt (by omega), a1, a2, a3, _, _, _, _, hp6.put h5 rise hi hj (Or.inr ⟨c, hc, rfl⟩), a4, a5, rfl⟩
      · rintro σ H6 ⟨dk6, off6, km6, gs, vs, o6, o7, hp6, hl6, ha6, rfl⟩
        exact ⟨dk6.mono (by omega), off6, km6, gs, vs, _, _, _, hp6.row h5, hl6, ha6, rfl⟩
    · rintro σ H5 ⟨dk5, off5, km5, gs, vs, o5, o6, o7, hp5, hl5, ha5, rfl⟩
      refine ⟨_, rfl, L, vs, rfl, Or.inl ⟨SqL.of hl5, fun fa hfa => ?_⟩⟩
      have s6 := same_new (o := HO.tup vs) hfa
      have hgl := hp5.len
      exact q _ fa vs gs hp5.ok (by omega) (Or.inl (Or.inl upd_same)) (ha5.kp (KpT.same s6)) ((dk5.same s6).mono (by omega)) (off5.trans (Off.same s6))
end
end Lw

namespace Mq
open PySem PySem.Spec PyProof.Rows L2
/-! ### sorted(xs), xs a list of tuples of three texts -/
def txt3 (x : Str × Str × Str) : List (Int ⊕ List Nat) := [.inr x.1.cps.toList, .inr x.2.1.cps.toList, .inr x.2.2.cps.toList]
def ltS3 (x y : Str × Str × Str) : Bool := (PyProof.Rows.listOrd PyProof.Rows.itemOrd).blt (txt3 x) (txt3 y)
def Is3 (H : Hp) (f : Addr → Str × Str × Str) (b : Addr) : Prop := H b = some (.tup [.str (f b).1, .str (f b).2.1, .str (f b).2.2])
def rSorted3 (K : PySem.W.Frag) : List V → Hp → VK → Prop := fun xs H Q => ∃ (a : Addr) (as : List Addr) (f : Addr → Str × Str × Str), xs = [.ref a] ∧ SqL K H a (as.map V.ref) ∧ (∀ b ∈ as, Is3 H f b) ∧
  ∀ (qs : List Addr) (p : Addr), qs.Perm as → (∀ i j, i ≤ j → j < qs.length → ltS3 (f (qs.getD j 0)) (f (qs.getD i 0)) = false) → H p = none → Q (.ref p) (upd H p (.lst (qs.map V.ref)))
theorem vals_refs : ∀ {as : List Addr} {us : List Value}, Vals (as.map V.ref) us → us = as.map Value.ref
  | [], _, .nil => rfl
  | b :: as, _, @Paired.cons _ _ _ _ y _ _ r rr => by
    have e : y = Value.ref b := r
    rw [e, vals_refs rr]
    rfl
section
variable {X : Cx}
theorem call_sorted3 : CallR X (.builtin "sorted") (rSorted3 X.K) := by
  intro pins s σ H xs us Q I r q
  obtain ⟨a, as, f, rfl, ha, h3, q⟩ := q
  obtain ⟨u, rfl, rx⟩ := vals1 r
  cases rx
  obtain ⟨its, rv, hl, hz⟩ := I.list ha
  have ei : its = as.map Value.ref := vals_refs rv
  subst ei
  have obj : ∀ b ∈ as, ∃ (ob : Obj) (n : Nat) (t1 t2 t3 : Tok), s.heap.get? b = some ob ∧ ob.cls = .type "tuple" ∧ ob.data = .seq #[.str (f b).1 t1, .str (f b).2.1 t2, .str (f b).2.2 t3] n := by
    intro b hb
    obtain ⟨_, its, r2, ob, h1, h2, n, h4⟩ := (show ObjOk X.prog X.w H s.heap b (.tup [.str (f b).1, .str (f b).2.1, .str (f b).2.2]) from I.hok b _ (h3 b hb))
    cases r2 with
    | cons a1 r2 =>
      cases r2 with
      | cons a2 r2 =>
        cases r2 with
        | cons a3 r2 =>
          cases r2
          obtain ⟨t1, rfl⟩ := a1
          obtain ⟨t2, rfl⟩ := a2
          obtain ⟨t3, rfl⟩ := a3
          exact ⟨ob, n, t1, t2, t3, h1, h2, h4⟩
  have tups : ∀ l : List Addr, (∀ b ∈ l, b ∈ as) → ∃ fs, PyProof.Rows.TupsOf s.heap (fun _ => true) (l.map Value.ref) fs := by
    intro l
    induction l with
    | nil => intro _; exact ⟨[], .nil⟩
    | cons b l ih =>
      intro hl
      obtain ⟨fs, hf⟩ := ih fun x hx => hl x (List.mem_cons_of_mem _ hx)
      obtain ⟨ob, n, t1, t2, t3, h1, h2, h4⟩ := obj b (hl b List.mem_cons_self)
      exact ⟨_, .cons ⟨b, ob, _, n, rfl, h1, h2, h4, rfl, fun z => (by cases z), fun _ => ⟨_, _, rfl⟩⟩ hf⟩
  obtain ⟨fs, hfs⟩ := tups as fun _ h => h
  have keyC : ∀ b ∈ as, PyProof.Rows.G.tupKeyC s.heap (fun _ => true) (.ref b) = some (txt3 (f b)) := by
    intro b hb
    obtain ⟨ob, n, t1, t2, t3, h1, h2, h4⟩ := obj b hb
    have hT : PyProof.Rows.G.isTupObj s.heap (.ref b) = true := by
      simp [PyProof.Rows.G.isTupObj, h1, h2]
    unfold PyProof.Rows.G.tupKeyC
    rw [if_pos hT]
    simp only [PyProof.Rows.tupKey, h1, h4]
    rfl
  refine PyProof.Rows.G.sorted_tups (vs := as.map Value.ref) hl.isList hfs (fun v hv => ?_) (by rw [List.length_map] at hz ⊢; exact hz) fun st' hp hs _ => ?_
  · obtain ⟨b, hb, rfl⟩ := List.mem_map.mp hv
    exact ⟨_, keyC b hb⟩
  obtain ⟨e', he'⟩ := PyProof.Rows.sortedAll_at s.heap (as.map Value.ref) ((arrOf st').map (·.2))
  have mem : ∀ p ∈ (arrOf st').toList, p.1 = p.2 ∧ p.1 ∈ as.map Value.ref := fun p hp' => by
    have h1 := (hp.toList.mem_iff (a := p)).mp hp'
    rw [PyProof.Rows.pairsOf_toList] at h1
    exact PyProof.Rows.mem_zip_self h1
  obtain ⟨qs, hq1, hq2⟩ : ∃ qs : List Addr, (arrOf st').toList.map (·.2) = qs.map Value.ref ∧ qs.Perm as := by
    have h1 : ((arrOf st').toList.map (·.2)).Perm (as.map Value.ref) := by
      have h2 := hp.toList.map (fun p : Keyed => p.2)
      rw [PyProof.Rows.pairsOf_toList] at h2
      rw [List.map_snd_zip (Nat.le_refl _)] at h2
      exact h2
    exact perm_back h1
  have hql : qs.length = as.length := hq2.length_eq
  have harr : (arrOf st').toList.length = qs.length := by
    have h1 := congrArg List.length hq1
    rw [List.length_map, List.length_map] at h1
    exact h1
  have hkk : ∀ i, i < qs.length → PyProof.Rows.KK (PyProof.Rows.G.tupKindC s.heap fun _ => true) (arrOf st') i = txt3 (f (qs.getD i 0)) := by
    intro i hi
    have hi' : i < (arrOf st').toList.length := by omega
    have e1 : (arrOf st')[i]? = some (arrOf st').toList[i] := by
      rw [← Array.getElem?_toList, List.getElem?_eq_getElem hi']
    obtain ⟨m1, m2⟩ := mem _ (List.getElem_mem hi')
    have e2 : (arrOf st').toList[i].2 = .ref (qs.getD i 0) := by
      have h1 := congrArg (fun l => l[i]?) hq1
      simp only [List.getElem?_map, List.getElem?_eq_getElem hi', List.getElem?_eq_getElem hi, Option.map_some, Option.some.injEq] at h1
      rw [h1, List.getD_eq_getElem?_getD, List.getElem?_eq_getElem hi]
      rfl
    have hin : qs.getD i 0 ∈ as := hq2.mem_iff.mp (by rw [List.getD_eq_getElem?_getD, List.getElem?_eq_getElem hi]; exact List.getElem_mem hi)
    unfold PyProof.Rows.KK
    rw [e1]
    show (PyProof.Rows.G.tupKeyC _ _ (arrOf st').toList[i].1).getD _ = _
    rw [m1, e2, keyC _ hin]
    rfl
  have srt : ∀ i j, i ≤ j → j < qs.length → ltS3 (f (qs.getD j 0)) (f (qs.getD i 0)) = false := by
    intro i j hij hj
    have h1 := hs i j hij (by rw [PyProof.Rows.pairsOf_size, List.length_map]; omega)
    rw [hkk i (by omega), hkk j hj] at h1
    exact h1
  have vals : ∀ l : List Addr, Vals (l.map V.ref) (l.map Value.ref) := fun l => by
    induction l with
    | nil => exact .nil
    | cons b l ih => exact .cons rfl ih
  have hout : ((arrOf st').map (·.2)).toList = qs.map Value.ref := by
    rw [Array.toList_map]
    exact hq1
  have hz2 : (qs.map V.ref).length ≤ sizeLine := by
    rw [List.length_map, hql]
    rw [List.length_map] at hz
    exact hz
  have fresh := I.hok.fresh (Nat.le_succ s.heap.objs.size)
  refine ⟨.ref (s.heap.objs.size + 1), upd H (s.heap.objs.size + 1) (.lst (qs.map V.ref)), ?_, rfl, q qs _ hq2 srt fresh⟩
  refine I.laid (t' := s.toks) (fun b u e => PyProof.Rows.sortedAll_old e) (Nat.le_succ _) ⟨hz2, qs.map Value.ref, e', vals qs, ?_⟩
  rw [← hout, Array.toArray_toList]
  exact he'
end
end Mq

namespace Mq
open PySem PySem.Spec PyProof.Rows L2
/-! ### sorted(xs), xs a list of pairs of texts -/
def Is2 (H : Hp) (b : Addr) : Prop := H b = some (.tup [.str (prOf H b).1, .str (prOf H b).2])
def rSorted2 (K : PySem.W.Frag) : List V → Hp → VK → Prop := fun xs H Q => ∃ (a : Addr) (as : List Addr), xs = [.ref a] ∧ SqL K H a (as.map V.ref) ∧ (∀ b ∈ as, Is2 H b) ∧
  ∀ (qs : List Addr) (p : Addr), qs.Perm as → (∀ i j, i ≤ j → j < qs.length → ltSS (prOf H (qs.getD j 0)) (prOf H (qs.getD i 0)) = false) → H p = none → Q (.ref p) (upd H p (.lst (qs.map V.ref)))
section
variable {X : Cx}
theorem call_sorted2 : CallR X (.builtin "sorted") (rSorted2 X.K) := by
  intro pins s σ H xs us Q I r q
  obtain ⟨a, as, rfl, ha, h3, q⟩ := q
  obtain ⟨u, rfl, rx⟩ := vals1 r
  cases rx
  obtain ⟨its, rv, hl, hz⟩ := I.list ha
  have ei : its = as.map Value.ref := vals_refs rv
  subst ei
  have obj : ∀ b ∈ as, ∃ (ob : Obj) (n : Nat) (t1 t2 : Tok), s.heap.get? b = some ob ∧ ob.cls = .type "tuple" ∧ ob.data = .seq #[.str (prOf H b).1 t1, .str (prOf H b).2 t2] n := by
    intro b hb
    obtain ⟨_, its, r2, ob, h1, h2, n, h4⟩ := (show ObjOk X.prog X.w H s.heap b (.tup [.str (prOf H b).1, .str (prOf H b).2]) from I.hok b _ (h3 b hb))
    cases r2 with
    | cons a1 r2 =>
      cases r2 with
      | cons a2 r2 =>
        cases r2
        obtain ⟨t1, rfl⟩ := a1
        obtain ⟨t2, rfl⟩ := a2
        exact ⟨ob, n, t1, t2, h1, h2, h4⟩
  have tups : ∀ l : List Addr, (∀ b ∈ l, b ∈ as) → ∃ fs, PyProof.Rows.TupsOf s.heap (fun _ => true) (l.map Value.ref) fs := by
    intro l
    induction l with
    | nil => intro _; exact ⟨[], .nil⟩
    | cons b l ih =>
      intro hl
      obtain ⟨fs, hf⟩ := ih fun x hx => hl x (List.mem_cons_of_mem _ hx)
      obtain ⟨ob, n, t1, t2, h1, h2, h4⟩ := obj b (hl b List.mem_cons_self)
      exact ⟨_, .cons ⟨b, ob, _, n, rfl, h1, h2, h4, rfl, fun z => (by cases z), fun _ => ⟨_, _, rfl⟩⟩ hf⟩
  obtain ⟨fs, hfs⟩ := tups as fun _ h => h
  have keyC : ∀ b ∈ as, PyProof.Rows.G.tupKeyC s.heap (fun _ => true) (.ref b) = some (txt2 (prOf H b)) := by
    intro b hb
    obtain ⟨ob, n, t1, t2, h1, h2, h4⟩ := obj b hb
    have hT : PyProof.Rows.G.isTupObj s.heap (.ref b) = true := by
      simp [PyProof.Rows.G.isTupObj, h1, h2]
    unfold PyProof.Rows.G.tupKeyC
    rw [if_pos hT]
    simp only [PyProof.Rows.tupKey, h1, h4]
    rfl
  refine PyProof.Rows.G.sorted_tups (vs := as.map Value.ref) hl.isList hfs (fun v hv => ?_) (by rw [List.length_map] at hz ⊢; exact hz) fun st' hp hs _ => ?_
  · obtain ⟨b, hb, rfl⟩ := List.mem_map.mp hv
    exact ⟨_, keyC b hb⟩
  obtain ⟨e', he'⟩ := PyProof.Rows.sortedAll_at s.heap (as.map Value.ref) ((arrOf st').map (·.2))
  have mem : ∀ p ∈ (arrOf st').toList, p.1 = p.2 ∧ p.1 ∈ as.map Value.ref := fun p hp' => by
    have h1 := (hp.toList.mem_iff (a := p)).mp hp'
    rw [PyProof.Rows.pairsOf_toList] at h1
    exact PyProof.Rows.mem_zip_self h1
  obtain ⟨qs, hq1, hq2⟩ : ∃ qs : List Addr, (arrOf st').toList.map (·.2) = qs.map Value.ref ∧ qs.Perm as := by
    have h1 : ((arrOf st').toList.map (·.2)).Perm (as.map Value.ref) := by
      have h2 := hp.toList.map (fun p : Keyed => p.2)
      rw [PyProof.Rows.pairsOf_toList] at h2
      rw [List.map_snd_zip (Nat.le_refl _)] at h2
      exact h2
    exact perm_back h1
  have hql : qs.length = as.length := hq2.length_eq
  have harr : (arrOf st').toList.length = qs.length := by
    have h1 := congrArg List.length hq1
    rw [List.length_map, List.length_map] at h1
    exact h1
  have hkk : ∀ i, i < qs.length → PyProof.Rows.KK (PyProof.Rows.G.tupKindC s.heap fun _ => true) (arrOf st') i = txt2 (prOf H (qs.getD i 0)) := by
    intro i hi
    have hi' : i < (arrOf st').toList.length := by omega
    have e1 : (arrOf st')[i]? = some (arrOf st').toList[i] := by
      rw [← Array.getElem?_toList, List.getElem?_eq_getElem hi']
    obtain ⟨m1, m2⟩ := mem _ (List.getElem_mem hi')
    have e2 : (arrOf st').toList[i].2 = .ref (qs.getD i 0) := by
      have h1 := congrArg (fun l => l[i]?) hq1
      simp only [List.getElem?_map, List.getElem?_eq_getElem hi', List.getElem?_eq_getElem hi, Option.map_some, Option.some.injEq] at h1
      rw [h1, List.getD_eq_getElem?_getD, List.getElem?_eq_getElem hi]
      rfl
    have hin : qs.getD i 0 ∈ as := hq2.mem_iff.mp (by rw [List.getD_eq_getElem?_getD, List.getElem?_eq_getElem hi]; exact List.getElem_mem hi)
    unfold PyProof.Rows.KK
    rw [e1]
    show (PyProof.Rows.G.tupKeyC _ _ (arrOf st').toList[i].1).getD _ = _
    rw [m1, e2, keyC _ hin]
    rfl
  have srt : ∀ i j, i ≤ j → j < qs.length → ltSS (prOf H (qs.getD j 0)) (prOf H (qs.getD i 0)) = false := by
    intro i j hij hj
    have h1 := hs i j hij (by rw [PyProof.Rows.pairsOf_size, List.length_map]; omega)
    rw [hkk i (by omega), hkk j hj] at h1
    exact h1
  have vals : ∀ l : List Addr, Vals (l.map V.ref) (l.map Value.ref) := fun l => by
    induction l with
    | nil => exact .nil
    | cons b l ih => exact .cons rfl ih
  have hout : ((arrOf st').map (·.2)).toList = qs.map Value.ref := by
    rw [Array.toList_map]
    exact hq1
  have hz2 : (qs.map V.ref).length ≤ sizeLine := by
    rw [List.length_map, hql]
    rw [List.length_map] at hz
    exact hz
  have fresh := I.hok.fresh (Nat.le_succ s.heap.objs.size)
  refine ⟨.ref (s.heap.objs.size + 1), upd H (s.heap.objs.size + 1) (.lst (qs.map V.ref)), ?_, rfl, q qs _ hq2 srt fresh⟩
  refine I.laid (t' := s.toks) (fun b u e => PyProof.Rows.sortedAll_old e) (Nat.le_succ _) ⟨hz2, qs.map Value.ref, e', vals qs, ?_⟩
  rw [← hout, Array.toArray_toList]
  exact he'
end
/-- what stands in order is left as it is -/
theorem perm_asc {α : Type} {r : α → α → Bool} : ∀ {l m : List α}, l.Perm m → l.Pairwise (fun a b => r b a = false) → m.Pairwise (fun a b => r a b = true) → l = m
  | [], m, h, _, _ => h.nil_eq
  | a :: l, [], h, _, _ => h.eq_nil
  | a :: l, b :: m, h, hl, hm => by
    obtain ⟨h1, h2⟩ := List.pairwise_cons.mp hl
    obtain ⟨h3, h4⟩ := List.pairwise_cons.mp hm
    have e : a = b := by
      rcases List.mem_cons.mp (h.mem_iff.mp (List.mem_cons_self (a := a) (l := l))) with e | e
      · exact e
      · rcases List.mem_cons.mp (h.mem_iff.mpr (List.mem_cons_self (a := b) (l := m))) with e2 | e2
        · exact e2.symm
        · have h5 := h1 b e2
          rw [h3 a e] at h5
          cases h5
    subst e
    rw [perm_asc h.cons_inv h2 h4]
theorem lt_first {x y : Str × Str} (h : x.1.cps.toList < y.1.cps.toList) : ltSS x y = true := by
  show (decide (x.1.cps.toList < y.1.cps.toList) || (!decide (y.1.cps.toList < x.1.cps.toList) && (decide (x.2.cps.toList < y.2.cps.toList) || (!decide (y.2.cps.toList < x.2.cps.toList) && false)))) = true
  rw [decide_eq_true h]
  rfl
end Mq

namespace Lw
open PySem PySem.Spec PyProof.Rows L2 Mq
open SX (S)
/-! ### signs in order -/
theorem S_one {c d : Nat} : S [c] = S [d] ↔ c = d := ⟨fun h => by have := SX.S_inj h; simpa using this, fun h => by rw [h]⟩
theorem asc_pair {l : List Nat} : ascB l = true ↔ l.Pairwise (· < ·) := by
  unfold ascB
  rw [List.pairwise_iff_getElem, List.all_eq_true]
  constructor
  · intro h
    have h1 : ∀ k, k + 1 < l.length → l.getD k 0 < l.getD (k + 1) 0 := by
      intro k hk
      have := h (decide (l.getD k 0 < l.getD (k + 1) 0)) (List.mem_map.mpr ⟨k, List.mem_range.mpr (by omega), rfl⟩)
      exact of_decide_eq_true this
    have h2 : ∀ n i, i + n + 1 < l.length → l.getD i 0 < l.getD (i + n + 1) 0 := by
      intro n
      induction n with
      | zero => exact fun i hi => h1 i hi
      | succ n ih => exact fun i hi => Nat.lt_trans (ih i (by omega)) (h1 (i + n + 1) (by omega))
    intro i j hi hj hij
    have := h2 (j - i - 1) i (by omega)
    rw [show i + (j - i - 1) + 1 = j by omega] at this
    rw [List.getD_eq_getElem?_getD, List.getD_eq_getElem?_getD, List.getElem?_eq_getElem hi, List.getElem?_eq_getElem hj] at this
    exact this
  · intro h b hb
    obtain ⟨k, hk, rfl⟩ := List.mem_map.mp hb
    have hk := List.mem_range.mp hk
    have := h k (k + 1) (by omega) (by omega) (by omega)
    rw [List.getD_eq_getElem?_getD, List.getD_eq_getElem?_getD, List.getElem?_eq_getElem (show k < l.length by omega), List.getElem?_eq_getElem (show k + 1 < l.length by omega)]
    exact decide_eq_true this
theorem rising_pair : ∀ (p : Nat) (l : List Nat), PyProof.Rows.risingS (S [p]) (l.map fun c => S [c]) = true → (p :: l).Pairwise (· ≤ ·)
  | p, [], _ => List.pairwise_singleton _ _
  | p, x :: l, h => by
    have h' : (!PySem.Spec.ltCps (S [x]).cps.toList (S [p]).cps.toList && PyProof.Rows.risingS (S [x]) (l.map fun c => S [c])) = true := h
    obtain ⟨h1, h2⟩ := Bool.and_eq_true_iff.mp h'
    have ih := rising_pair x l h2
    have h3 : p ≤ x := by
      have e : PySem.Spec.ltCps (S [x]).cps.toList (S [p]).cps.toList = decide (x < p) := by
        show (decide (x < p) || (x == p && false)) = _
        rw [Bool.and_false, Bool.or_false]
      rw [e] at h1
      have := of_decide_eq_false (by simpa using h1 : decide (x < p) = false)
      omega
    refine List.pairwise_cons.mpr ⟨fun y hy => ?_, ih⟩
    rcases List.mem_cons.mp hy with rfl | hy
    · exact h3
    · exact Nat.le_trans h3 ((List.pairwise_cons.mp ih).1 y hy)
theorem sorted_pair {l : List Nat} (h : PyProof.Rows.sortedS (l.map fun c => S [c]) = true) (nd : l.Nodup) : l.Pairwise (· < ·) := by
  have h1 : l.Pairwise (· ≤ ·) := by
    cases l with
    | nil => exact .nil
    | cons p l => exact rising_pair p l h
  exact (h1.and nd).imp fun ⟨a, b⟩ => Nat.lt_of_le_of_ne a b
theorem dp_strs {K : PySem.W.Frag} {H : Hp} : ∀ ys : List Str, DpAll K H (ys.map V.str) (ys.map PyData.str)
  | [] => .nil
  | y :: ys => .cons (.str y) (dp_strs ys)
theorem shaped_strs {ys : List Str} (h : ∀ y ∈ ys, (PyData.str y).canLay0 = true) : SeqAt.shaped (.list (ys.map PyData.str)) = true := by
  have key : PyData.canLayAll0 (ys.map PyData.str) = true ∧ PyData.depthAll (ys.map PyData.str) = 0 := by
    induction ys with
    | nil => exact ⟨rfl, rfl⟩
    | cons y ys ih =>
      obtain ⟨a, b⟩ := ih fun m hm => h m (List.mem_cons_of_mem _ hm)
      constructor
      · show ((PyData.str y).canLay0 && PyData.canLayAll0 (ys.map PyData.str)) = true
        rw [h y List.mem_cons_self, a]
        rfl
      · show max 0 (PyData.depthAll (ys.map PyData.str)) = 0
        rw [b]
        rfl
  unfold SeqAt.shaped
  rw [show (PyData.list (ys.map PyData.str)).canLay0 = true from key.1]
  have : (PyData.list (ys.map PyData.str)).depth ≤ 64 := by
    show PyData.depthAll _ + 1 ≤ 64
    rw [key.2]
    decide
  rw [decide_eq_true this]
  rfl
theorem eqv_strs : ∀ xs ys : List Str, PyData.eqv (.list (xs.map PyData.str)) (.list (ys.map PyData.str)) = decide (xs = ys)
  | [], [] => rfl
  | [], _ :: _ => rfl
  | _ :: _, [] => rfl
  | x :: xs, y :: ys => by
    have ih := eqv_strs xs ys
    show (x == y && PyData.eqv (.list (xs.map PyData.str)) (.list (ys.map PyData.str))) = _
    rw [ih]
    rw [Bool.eq_iff_iff]
    simp
theorem asc_set {lc : List Nat} {l' ys : List Str} (h1 : l'.Nodup) (h2 : ∀ k, k ∈ l' ↔ k ∈ lc.map fun c => S [c]) (hp : ys.Perm l') (hs : PyProof.Rows.sortedS ys = true) : decide ((lc.map fun c => S [c]) = ys) = ascB lc := by
  have hnd : ys.Nodup := hp.nodup_iff.mpr h1
  have hm : ∀ k, k ∈ ys ↔ k ∈ lc.map fun c => S [c] := fun k => (hp.mem_iff).trans (h2 k)
  by_cases ha : ascB lc = true
  · rw [ha]
    refine decide_eq_true ?_
    have ha := asc_pair.mp ha
    have hy : ys = (ys.map fun k => k.cps.toList.headD 0).map fun c => S [c] := by
      rw [List.map_map]
      refine (List.map_id' ys).symm.trans (List.map_congr_left fun k hk => ?_)
      obtain ⟨c, _, rfl⟩ := List.mem_map.mp ((hm k).mp hk)
      rfl
    generalize hq : (ys.map fun k => k.cps.toList.headD 0) = qs at hy
    rw [hy] at hs hnd hm ⊢
    have hqn : qs.Nodup := (List.pairwise_map.mp hnd).imp fun h3 h4 => h3 (by rw [h4])
    have hqp := sorted_pair hs hqn
    have hmm : ∀ c, c ∈ lc ↔ c ∈ qs := by
      intro c
      have e : ∀ l : List Nat, S [c] ∈ l.map (fun c => S [c]) ↔ c ∈ l := by
        intro l
        rw [List.mem_map]
        exact ⟨fun ⟨d, h3, h4⟩ => by rw [S_one.mp h4] at h3; exact h3, fun h3 => ⟨c, h3, rfl⟩⟩
      rw [← e lc, ← e qs, hm (S [c])]
    have hln : lc.Nodup := ha.imp fun h => Nat.ne_of_lt h
    have hpm : lc.Perm qs := (List.perm_ext_iff_of_nodup hln hqn).mpr hmm
    rw [perm_asc (r := fun a b => decide (a < b)) hpm (ha.imp fun h => decide_eq_false (by omega)) (hqp.imp fun h => decide_eq_true h)]
  · have ha' := Bool.eq_false_iff.mpr ha
    rw [ha']
    refine decide_eq_false fun e => ha ?_
    rw [← e] at hs hnd
    have hqn : lc.Nodup := (List.pairwise_map.mp hnd).imp fun h3 h4 => h3 (by rw [h4])
    exact asc_pair.mpr (sorted_pair hs hqn)
theorem all_filter (n : Nat) (q : Nat → Bool) : ((List.range n).map q).all id = ((List.range n).filter fun k => !q k).isEmpty := by
  rw [Bool.eq_iff_iff]
  simp [List.filter_eq_nil_iff]
theorem dp_signs {K : PySem.W.Frag} {H : Hp} (g : Nat → Str) : ∀ js : List Nat, DpAll K H (js.map fun k => V.str (g k)) (js.map fun k => PyData.str (g k))
  | [] => .nil
  | t :: ts => .cons (.str _) (dp_signs g ts)
theorem lay_signs (g : Nat → Str) : ∀ js : List Nat, (∀ k ∈ js, (PyData.str (g k)).canLay0 = true) → PyData.canLayAll0 (js.map fun k => PyData.str (g k)) = true ∧ PyData.depthAll (js.map fun k => PyData.str (g k)) = 0
  | [], _ => ⟨rfl, rfl⟩
  | t :: ts, h => by
    have ih := lay_signs g ts (fun k hk => h k (List.mem_cons_of_mem _ hk))
    constructor
    · show ((PyData.str (g t)).canLay0 && PyData.canLayAll0 (ts.map fun k => PyData.str (g k))) = true
      rw [h t (List.mem_cons_self ..), ih.1]
      rfl
    · show max 0 (PyData.depthAll (ts.map fun k => PyData.str (g k))) = 0
      rw [ih.2]
      rfl
theorem shaped_signs (g : Nat → Str) (js : List Nat) (h : ∀ k ∈ js, (PyData.str (g k)).canLay0 = true) : SeqAt.shaped (.list (js.map fun k => PyData.str (g k))) = true := by
  unfold SeqAt.shaped
  obtain ⟨a, b⟩ := lay_signs g js h
  rw [show (PyData.list (js.map fun k => PyData.str (g k))).canLay0 = true from a]
  have : (PyData.list (js.map fun k => PyData.str (g k))).depth ≤ 64 := by
    show PyData.depthAll _ + 1 ≤ 64
    omega
  rw [decide_eq_true this]
  rfl
theorem sign_ok {c : Nat} (h : c < 1114112) : (PyData.str (S [c])).canLay0 = true := by
  show (#[c] : Array Nat).all (fun d => decide (d < 1114112)) = true
  simp [h]
theorem eqv_nil (g : Nat → Str) (js : List Nat) : PyData.eqv (.list (js.map fun k => PyData.str (g k))) (.list []) = js.isEmpty := by
  cases js <;> rfl
theorem lay_txt {l : List Nat} (h : ∀ c ∈ l, c < 128) : (PyData.str (S l)).canLay0 = true := by
  show (l.toArray : Array Nat).all (fun d => decide (d < 1114112)) = true
  rw [List.all_toArray]
  refine List.all_eq_true.mpr fun c hc => decide_eq_true ?_
  have := h c hc
  omega
end Lw


namespace MqE_part
open PySem PySem.Spec PyProof.Rows L2 Mq PySem.W PySem.Calls
/-! ### errors whose one parameter is thing -/
def iA (p1 p2 : Pos) : Arguments := { posonlyargs := [], args := [{ arg := "self", annotation := none, pos := p1 }, { arg := "part", annotation := none, pos := p2 }], vararg := none, kwonlyargs := [], kw_defaults := [], kwarg := none, defaults := [] }
def iB (q1 q2 q3 q4 : Pos) : List Stmt := [.Assign [.Attribute (.Name "self" q1) "part" q2] (.Name "part" q3) q4]
def iS : Scope := { kind := .function, names := [(PySem.Str.ofString "self", .local), (PySem.Str.ofString "part", .local)], isGenerator := false, isCoroutine := false, more := [] }
/-- what the written part says of the class x at C, and of its __init__ at fI -/
structure Txt (K : Frag) (mg : Str → Option Value) (x qual : Str) (C fI : Addr) : Prop where
  gC : mg x = some (.ref C)
  kC : keepIn K (.ref C) = true
  ex : excInitIn K C exTail "Exception.__new__" = true
  ov : excOver K C exTail = true
  hdC : hasDictIn K C = true
  tk : takerIn K C "part" = some none
  sa : findIn K (.ref C) "__setattr__" = some (some (.builtin "object.__setattr__"))
  iC : findIn K (.ref C) "__init__" = some (some (.ref fI))
  tC : typeIn K (.ref fI) = some (.type "function")
  exC : subIn K (.ref C) (.type "BaseException") = some true
  tyC : typeIn K (.ref C) = some (.type "type")
  fn : ∃ (oc : Value) (od : Option Addr) (doc pm : Value) (an : Option Addr) (cdv ct : Value) (osl : Array (Option Value)) (p1 p2 q1 q2 q3 q4 : Pos),
    K.lookup fI = some ⟨oc, od, .func (fnOf "__init__" qual (iA p1 p2) (iB q1 q2 q3 q4) iS .none .none doc pm an cdv ct), osl⟩ ∧ codeIn K cdv qual = true
theorem ld_loc {M : Model} {s : Shared} {name : Str} {scope : Scope} {L a : Addr} {cd : Value} {m : Str → Option Value} {y : Str} {pos : Pos} {v : Value}
    {Q : Value → Shared → Prop} {A : Around} {E : Value → Shared → Prop} (hn : s.heap.Ns L m) (hv : m y = some v) (h : Q v s)
    (hk : scope.kind = .function := by rfl) (hl : (envOfC name scope L a cd).kindOf y = some .local := by rfl) (hd : (y == ("__debug__" : Str)) = false := by decide) :
    wpAny M A (eval (.Name y pos) (envOfC name scope L a cd)) Q E s := wpAny_Name (wpAny_loadName_local hk hl hn hv h) hd
/-- what __init__ leaves of a new error at e -/
structure Filled (h h' : Heap) (e C dx t1 : Addr) (v : Value) : Prop where
  keep : ∀ b o, b ≠ e → h.get? b = some o → h'.get? b = some o
  obj : h'.get? e = some (excObj C t1 (some dx) .none)
  big : h.objs.size ≤ dx
  ne : dx ≠ e
  ns : h'.Ns1 dx (fun y => if y = "part" then some v else none)
/-- a made error -/
structure Made (h h' : Heap) (e C d : Addr) (v : Value) : Prop where
  keep : ∀ b o, h.get? b = some o → h'.get? b = some o
  new : h.objs.size ≤ e
  obj : ∃ oe vs, h'.get? e = some oe ∧ oe.cls = .ref C ∧ oe.dict = some d ∧ oe.data = .fields vs ∧ vs[1]? = some .none
  big : h.objs.size ≤ d
  ne : d ≠ e
  ns : h'.Ns1 d (fun y => if y = "part" then some v else none)
section
variable {prog : Program} {w : World} {A : Around} {E : Value → Shared → Prop} {R : Result → Shared → Prop} {s : Shared} {K : Frag} {mg : Str → Option Value} {x qual : Str} {C fI : Addr}
theorem init_run (T : Txt K mg x qual C fI) {e t0 : Addr} {v : Value} (X : K.In s.heap) (lim : s.heap.NoLimit) (he : s.heap.get? e = some (excObj C t0 none .none)) (room : A.depth < recursionLimit)
    (hq : ∀ h' tk dx, Filled s.heap h' e C dx t0 v → R (.ok (.ret .none)) { s with heap := h', toks := tk }) :
    codeAny (model prog w) A (.call (.ref fI) ⟨[.ref e, v], []⟩) R s := by
  obtain ⟨oc, od, doc, pm, an, cdv, ct, osl, p1, p2, q1, q2, q3, q4, ho, hcd⟩ := T.fn
  refine Att.call_fn (binds := [("self", .ref e), ("part", v)]) X lim ho hcd room (BindsTo.of_eq (by first | rfl | with_unfolding_all rfl)) (by first | rfl | decide | with_unfolding_all rfl) (fun s₁ IC => ?_) rfl rfl rfl
  obtain ⟨h₁, tk₁, rfl⟩ := IC.toInCall.same
  have k : ∀ b o, s.heap.get? b = some o → h₁.get? b = some o := IC.toInCall.keep
  have hn := IC.toInCall.ns
  have X₁ : K.In h₁ := X.keeps k
  have he₁ := k _ _ he
  show wpAny _ _ (execs _ _) _ _ _
  refine wpAny_execs_cons (plainObj_wpAny_Assign_Attribute ?_)
  refine ld_loc (v := v) hn (by first | rfl | with_unfolding_all rfl | kernel_rfl) (ld_loc (v := .ref e) hn (by first | rfl | with_unfolding_all rfl | kernel_rfl) ?_)
  refine set_plain X₁ (ox := excObj C t0 none .none) (od := none) ⟨he₁, rfl, rfl, trivial⟩ T.sa ?_
  refine osa_first X₁ he₁ T.ov T.hdC T.tk (fun h₃ tk₃ dx k₃ dn dne he₃ hn₃ => ?_)
  show wpAny _ _ (execs _ _) _ _ _
  have z : s.heap.objs.size < h₁.objs.size := hn.lt
  exact wpAny_execs_nil (hq h₃ tk₃ dx ⟨fun b o hb e => k₃ b o hb (k b o e), he₃, Nat.le_of_lt (Nat.lt_of_lt_of_le z dn), dne, hn₃⟩)
theorem made_run (T : Txt K mg x qual C fI) {v : Value} (X : K.In s.heap) (lim : s.heap.NoLimit) (room : A.depth + 1 < recursionLimit)
    (hq : ∀ h' tk e d, Made s.heap h' e C d v → R (.ok (.ret (.ref e))) { s with heap := h', toks := tk }) :
    codeAny (model prog w) A (.call (.ref C) ⟨[v], []⟩) R s := by
  obtain ⟨nm, N, qn, bs, bm, hdct, sn, sub, ab, col, dd, k0, k1, k2, k3, k5, hC, hT⟩ := excInit_of X T.ex
  obtain ⟨hp, g, dr, tk, os⟩ := s
  have k : ∀ b o, hp.get? b = some o → ((hp.push (kdv_tup [v])).push (HandSPX.excO C hp.objs.size)).get? b = some o := fun b o e => Heap.get?_push_of_some _ (Heap.get?_push_of_some _ e)
  have hget : ((hp.push (kdv_tup [v])).push (HandSPX.excO C hp.objs.size)).get? (hp.objs.size + 1) = some (excObj C hp.objs.size none .none) := by heap_get
  refine HandSPX.call_own F.excBase_Exception hT hC (looks_findIn X T.iC) (fun self => bind_fn X self T.tC) (by rw [sizeLine_eq]; exact (by decide : 1 ≤ 16777216)) ?_
  refine init_run (s := ⟨(hp.push (kdv_tup [v])).push (HandSPX.excO C hp.objs.size), g, dr, tk, os⟩) T (X.keeps k) (lim.keeps k) hget ?_ (fun h' tk' dx M => ?_)
  · show A.depth + 1 < recursionLimit
    exact room
  · obtain ⟨k', hx, dn, dne, hns⟩ := M
    have old : ∀ b o, hp.get? b = some o → h'.get? b = some o := fun b o e => k' b o (Nat.ne_of_lt (Nat.lt_succ_of_lt (Heap.lt_size e))) (k b o e)
    have z : hp.objs.size + 1 + 1 ≤ dx := by
      have q := dn
      rw [Heap.size_push, Heap.size_push] at q
      exact q
    exact ⟨rfl, hq h' tk' (hp.objs.size + 1) dx ⟨old, Nat.le_succ _, ⟨_, _, hx, rfl, rfl, rfl, rfl⟩, Nat.le_trans (Nat.le_trans (Nat.le_succ _) (Nat.le_succ _)) z, dne, hns⟩⟩
end
theorem relO_f {v : V} {v' : Value} (r : RelV v v') (f : Str) : RelO (List.lookup f [(("part" : Str), v)]) (if f = "part" then some v' else none) := by
  by_cases hw : f = "part"
  · subst hw
    rw [if_pos rfl]
    have q : List.lookup ("part" : Str) [(("part" : Str), v)] = some v := by simp [List.lookup]
    rw [q]
    exact r
  · rw [if_neg hw]
    have qw : (f == ("part" : Str)) = false := by simpa using hw
    have q2 : List.lookup f [(("part" : Str), v)] = none := by simp [List.lookup, qw]
    rw [q2]
    trivial
section
variable {X : Cx} {C fI : Addr} {x qual : Str}
/-- x(e) -/
def tMk (C : Addr) (ta : TA) : L2.St → Hp → XK → Prop := fun σ H Q => ta σ H fun vs H1 => ∃ v, vs = [v] ∧ ∀ d, H1 d = none → Q (.ref C) (some d) (upd H1 d (.xd [(("part" : Str), v)]))
theorem pmk {a : Expr} {ta : TA} {p pos : Pos} {k : Nat} (T : Txt X.K X.mg x qual C fI) (hr : Room k X.A) (ha : PA X [a] ta) (hg : Gl X x := by rfl) (hdb : (x == ("__debug__" : Str)) = false := by decide)
    (he : starEach (a :: []) X.env = (false, eval a X.env) :: starEach [] X.env := by rfl) (hpl : (backTo pos (starEach [] X.env)).any (·.1) = false := by rfl) :
    PMk X (.Call (.Name x p) [a] [] pos) (tMk C ta) := by
  intro pins s σ H Q I h
  refine wpAny_Call_Name_kw (ld_glob I hg T.gC ?_ hdb)
  refine callWith_K (h₀ := X.base) I.ok.mod.kin T.kC (thn (ha.run pos pins s σ H _ I h) fun us s1 hh => ?_) he hpl
  obtain ⟨vs, H1, I1, r1, v, ev, q1⟩ := hh
  subst ev
  refine ⟨I1.kIn, ?_⟩
  cases r1 with
  | cons rv rn =>
    rename_i v' us'
    cases rn
    show wpAny _ _ (call (.ref C) [v']) _ _ _
    have hlim := I1.nolimit
    obtain ⟨hp, g, dr, tk, os⟩ := s1
    refine wpAny_call (made_run T I1.kIn hlim (by have := hr.dp; omega) (fun h' tk' e d M => ?_))
    show MkP X pins σ Q (.ref e) ⟨h', g, dr, tk', os⟩
    obtain ⟨oe, fv, hoe, hc, hd, hdat, h1⟩ := M.obj
    have hns := M.ns
    obtain ⟨G', g1, g2⟩ := restrict h' fun b => decide (b ≠ e)
    have gk : ∀ b, b ≠ e → G'.get? b = h'.get? b := fun b hb => g1 b (decide_eq_true hb)
    have ge : G'.get? e = none := g2 e (by simp)
    have old : ∀ b o, hp.get? b = some o → G'.get? b = some o := fun b o q => (gk b (Nat.ne_of_lt (Nat.lt_of_lt_of_le (Heap.lt_size q) M.new))).trans (M.keep b o q)
    have ob : ObjOk X.prog X.w (upd H1 d (.xd [(("part" : Str), v)])) G' d (.xd [(("part" : Str), v)]) :=
      ⟨_, hns.at (fun o q => (gk d M.ne).trans q), fun f => relO_f rv f⟩
    have J : L2.Inv X pins σ (upd H1 d (.xd [(("part" : Str), v)])) ⟨G', g, dr, tk', os⟩ := I1.laid (t' := tk') old M.big ob
    refine ⟨e, oe, fv, ⟨G', g, dr, tk', os⟩, _, .ref C, some d, rfl, J, (fun b o q => ?_), ge, hoe, ⟨hc, hd⟩, hdat, h1, ?_, rfl, I1.bare, raises_own T.exC T.tyC, q1 d (I1.hok.fresh M.big)⟩
    · by_cases hb : b = e
      · have q' : G'.get? b = some o := q
        rw [hb, ge] at q'
        cases q'
      · exact (gk b hb).symm.trans q
    · rw [upd_ne (Ne.symm M.ne)]
      exact I1.hok.fresh M.new
/-- raise x(e) -/
def tRaise (C : Addr) (W : WX) (ta : TA) : TS := fun _ σ H => tMk C ta σ H fun cls d H' => W cls d σ H'
theorem ps_raise {a : Expr} {ta : TA} {W : WX} {p pos pos2 : Pos} {k : Nat} (hc : X.calm = true) (T : Txt X.K X.mg x qual C fI) (hr : Room k X.A) (tk : Takes X W) (ha : PA X [a] ta) (hg : Gl X x := by rfl) (hdb : (x == ("__debug__" : Str)) = false := by decide)
    (he : starEach (a :: []) X.env = (false, eval a X.env) :: starEach [] X.env := by rfl) (hpl : (backTo pos (starEach [] X.env)).any (·.1) = false := by rfl) :
    PS X (.Raise (some (.Call (.Name x p) [a] [] pos)) none pos2) (tRaise C W ta) := L2.ps_raise hc tk (pmk T hr ha hg hdb he hpl)
end
end MqE_part

namespace Mq
open PySem PySem.Spec PySem.W PySem.Calls PySem.HandSPX PyProof.Rows
/-! ### an own error made by keywords -/
section
variable {M : Model} {A : Around} {E : Value → Shared → Prop} {h : Heap} {g : Array GenState} {dr : Drawn} {tk : Nat} {os : OsState}
variable {nm q : Str} {C N : Addr} {bs bm bmB : List Value} {hd : Bool} {sn : List Str} {sub : List Value} {ab : Bool} {col : Option Bool} {dd : Option Addr} {k0 k1 k2 k3 k5 : Option Value} {B newId initId : String}
theorem new_fine (F : ExcBaseFacts B newId initId bmB) (same : ∀ X : String, bm.contains (.type X) = bmB.contains (.type X)) {us : List Value} {kw : List (Str × Value)} {Q : Unit → Shared → Prop}
    (at' : h.get? C = some (excClassObj nm q C N bs bm hd sn sub ab col dd k0 k1 k2 k3 k5 newId)) (done : Q () ⟨h, g, dr, tk, os⟩) : wpAny M A (checkBuiltinCall newId ⟨.ref C :: us, kw⟩) Q E ⟨h, g, dr, tk, os⟩ := by
  have below : (Value.ref C :: bm).contains (.type B) = true := by rw [List.contains_cons, same, F.hasB, Bool.or_true]
  have ns := F.noStar
  simp only [checkBuiltinCall, F.newKind, F.newSplit, F.newRow]
  repeat (first
    | refine wpAny_loadPart_at at' ?_
    | (refine wpAny_isSubtype_exc at' ?_; rw [below])
    | refine wpAny_staticBase_exc at' ?_
    | refine wpAny_madeBy_exc at' ?_
    | simp only [bne_self_eq_false, Bool.false_eq_true, if_false]
    | wp_step)
  exact done
end
section
variable {prog : Program} {w : World} {A : Around} {E : Value → Shared → Prop} {R : Result → Shared → Prop} {h : Heap} {g : Array GenState} {dr : Drawn} {tk : Nat} {os : OsState}
variable {nm q : Str} {C N : Addr} {bs bm bmB : List Value} {hd : Bool} {sn : List Str} {sub : List Value} {ab : Bool} {col : Option Bool} {dd : Option Addr} {k0 k1 k2 k3 k5 : Option Value} {B newId initId : String}
theorem new_kw (F : ExcBaseFacts B newId initId bmB) (same : ∀ X : String, bm.contains (.type X) = bmB.contains (.type X)) {us : List Value} {kw : List (Str × Value)}
    (at' : h.get? C = some (excClassObj nm q C N bs bm hd sn sub ab col dd k0 k1 k2 k3 k5 newId)) (few : us.length ≤ sizeLine)
    (done : R (.ok (.ret (.ref (h.objs.size + 1)))) ⟨(h.push (kdv_tup us)).push (excO C h.objs.size), g, dr, tk, os⟩) :
    codeAny (model prog w) A (.builtin newId ⟨.ref C :: us, kw⟩) R ⟨h, g, dr, tk, os⟩ := by
  have ends := F.ends
  have isB : (Value.ref C :: bm).contains (.type B) = true := by rw [List.contains_cons, same, F.hasB, Bool.or_true]
  have isA : (Value.ref C :: bm).contains (.type "AttributeError") = false := by rw [List.contains_cons, same, F.noAttr]; rfl
  have isN : (Value.ref C :: bm).contains (.type "NameError") = false := by rw [List.contains_cons, same, F.noName]; rfl
  refine codeAny_builtinAt F.entry ?_
  unfold Builtin.«BaseException.__new__»
  refine PySem.wpAt_bind ?_
  show PySem.wpAt _ _ _ (stack >>= _) _ _ _
  refine PySem.wpAt_bind (PySem.wpAt_stack fun p below => PySem.wpAt_of_wpAny ?_)
  wp_walk
  refine PySem.wpAt_of_wpAny ?_
  rw [F.owner]
  repeat (first
    | with_reducible refine wpAny_madeHere_exc F.canon at' ?_
    | with_reducible refine wpAny_loadPart_at at' ?_
    | (with_reducible refine wpAny_isSubtype_exc at' ?_; first | rw [isB] | rw [isA] | rw [isN])
    | wp_step)
  show R _ _
  rw [Heap.size_push]
  exact done
theorem type_kw (F : ExcBaseFacts B newId initId bmB) (same : ∀ X : String, bm.contains (.type X) = bmB.contains (.type X)) {us : List Value} {kw : List (Str × Value)} {fI : Addr} {Q : Fin → Shared → Prop}
    (at' : h.get? C = some (excClassObj nm q C N bs bm hd sn sub ab col dd k0 k1 k2 k3 k5 newId)) (few : us.length ≤ sizeLine)
    (looks : Looks (model prog w) h (typeLookup (.ref C) "__init__") (some (.ref fI))) (binds : ∀ self, Looks (model prog w) h (bindSpecial (.ref fI) self) (.ref fI, [self]))
    (done : codeAny (model prog w) A (.call (.ref fI) ⟨.ref (h.objs.size + 1) :: us, kw⟩)
      (fun r s' => match r with | .ok (.ret v) => v = .none ∧ Q (.done (.ret (.ref (h.objs.size + 1)))) s' | .ok _ => False | .error e => E e s')
      ⟨(h.push (kdv_tup us)).push (excO C h.objs.size), g, dr, tk, os⟩) :
    wpAny (model prog w) A (Builtin.«type.__call__» ⟨.ref C :: us, kw⟩) Q E ⟨h, g, dr, tk, os⟩ := by
  repeat (first
    | with_reducible refine wpAny_loadPart_at at' ?_
    | with_reducible refine wpAny_madeBy_exc at' ?_
    | wp_step)
  refine codeAny_call_builtin_code (Code.quiet_builtin _ F.quiet) (new_fine F same at' ?_)
  refine new_kw F same at' few ?_
  show wpAny _ _ _ _ _ _
  have k : ∀ b o, h.get? b = some o → ((h.push (kdv_tup us)).push (excO C h.objs.size)).get? b = some o := fun b o e => Heap.get?_push_of_some _ (Heap.get?_push_of_some _ e)
  have at1 := k _ _ at'
  have new : ((h.push (kdv_tup us)).push (excO C h.objs.size)).get? (h.objs.size + 1) = some (excO C h.objs.size) := by heap_get
  have own : (Value.ref C :: bm).contains (.ref C) = true := by simp
  have i1 := looks.keeps k
  have b1 := (binds (.ref (h.objs.size + 1))).keeps k
  unfold isInstance
  repeat (first
    | with_reducible refine wpAny_loadPart_at new ?_
    | (with_reducible refine wpAny_isSubtype_exc at1 ?_; rw [own])
    | wp_step)
  show wpAny _ _ (typeLookup (.ref C) _) _ _ _
  refine i1.at ?_
  refine wpAny_holding (wpAny_bind (b1.at ?_))
  refine wpAny_bind (wpAny_call (codeAny_mono done fun r s' z => ?_))
  rcases r with e | (v | _ | _ | _) <;> first | exact z | exact z.elim | skip
  obtain ⟨rfl, z⟩ := z
  first
    | exact wpAny_pure (wpAny_pure z)
    | (wp_walk; exact z)
theorem call_kw (F : ExcBaseFacts B newId initId bmB) (same : ∀ X : String, bm.contains (.type X) = bmB.contains (.type X)) {us : List Value} {kw : List (Str × Value)} {fI : Addr}
    (at' : h.get? C = some (excClassObj nm q C N bs bm hd sn sub ab col dd k0 k1 k2 k3 k5 newId)) (few : us.length ≤ sizeLine)
    (looks : Looks (model prog w) h (typeLookup (.ref C) "__init__") (some (.ref fI))) (binds : ∀ self, Looks (model prog w) h (bindSpecial (.ref fI) self) (.ref fI, [self]))
    (done : codeAny (model prog w) (A.under (.builtin "type.__call__" ⟨.ref C :: us, kw⟩)) (.call (.ref fI) ⟨.ref (h.objs.size + 1) :: us, kw⟩) (InitBack (h.objs.size + 1) R)
      ⟨(h.push (kdv_tup us)).push (excO C h.objs.size), g, dr, tk, os⟩) :
    codeAny (model prog w) A (.call (.ref C) ⟨us, kw⟩) R ⟨h, g, dr, tk, os⟩ := by
  have f1 := tc_lookup
  have f2 := tc_bind (.ref C)
  have isT : (⟨h, g, dr, tk, os⟩ : Shared).TypeIs (.ref C) "type" := ⟨_, at', rfl⟩
  refine codeAny_of_tree ?_
  show wpAny _ _ (callAny (.ref C) _) _ _ _
  repeat (any_goals (first
    | assumption
    | with_reducible refine wpAny_loadPart_at at' ?_
    | wp_step))
  refine ⟨rfl, ?_⟩
  refine codeAny_call_builtin_at (Code.quiet_builtin _ (by decide +kernel)) entry_typeCall (wpAny_check_type_call_sub at' (type_kw F same at' few looks binds ?_))
  refine codeAny_mono done fun r s' z => ?_
  rcases r with e | (v | _ | _ | _) <;> exact z
end
end Mq

namespace Mq
open PySem PySem.Spec PyProof.Rows L2
open PySem.W (Frag)
open PySem.Builtin.ObjectAttr
/-! ### a second field -/
section
variable {prog : Program} {w : World} {A : Around} {E : Value → Shared → Prop} {R : Result → Shared → Prop}
  {hp : Heap} {g : Array GenState} {d : Drawn} {t : Nat} {os : OsState} {K : Frag}
theorem osa_next {name n0 : Str} {tk : Tok} {v v0 : Value} {x C t1 dx : Addr} (X : K.In hp)
    (hx : hp.get? x = some (PySem.W.excObj C t1 (some dx) .none)) (hn : hp.Ns1 dx (fun y => if y = n0 then some v0 else none)) (ho : PySem.W.excOver K C exTail = true)
    (hh : PySem.W.hasDictIn K C = true) (ht : PySem.W.takerIn K C name = some none)
    (hq : ∀ h' tk', (∀ b o, b ≠ dx → hp.get? b = some o → h'.get? b = some o) →
      h'.Ns1 dx (fun y => if y = name then some v else if y = n0 then some v0 else none) → R (.ok (.ret .none)) ⟨h', g, d, tk', os⟩) :
    codeAny (model prog w) A (.call (.builtin "object.__setattr__") ⟨[.ref x, .str name tk, v], []⟩) R ⟨hp, g, d, t, os⟩ := by
  obtain ⟨od, hod, _⟩ := lookIn_ns hn
  refine PySem.W.osa_openX (od := some od) (s := ⟨hp, g, d, t, os⟩) F.store_Exception X ⟨hx, rfl, rfl, hod⟩ ho ht (fun b => ?_)
  obtain ⟨cd, hc, hd'⟩ := PySem.W.any_some hh
  have Lc : PySem.W.Looks (model prog w) hp (classData C) cd := PySem.W.looks_clsIn X hc
  refine wpAny_bind (wpAny_pure (wpAny_bind ?_))
  unfold ownDictForStores
  show wpAny _ _ (instanceDict x true) _ _ _
  unfold instanceDict
  refine wpAny_bind (wpAny_loadPart hx ?_)
  dsimp only
  refine wpAny_bind (Lc.here ?_)
  rw [hd']
  rw [if_neg (by decide)]
  refine wpAny_pure ?_
  show wpAny _ _ (storeInDict dx (.str name tk) name v) _ _ _
  unfold storeInDict newKeyGuard
  refine wpAny_bind (wpAny_pure (wpAny_bind (wpAny_nsSet1 hn fun h' hn' hs => ?_)))
  have hw : PySem.Within (fun y => if y = name then some v else if y = n0 then some v0 else none) [name, n0] := by
    have h1 := PySem.Within.cons name v (PySem.Within.cons n0 v0 PySem.Within.nil)
    exact h1
  obtain ⟨oD, esD, epD, hoD, hdD, hcD⟩ := hn'.count hw
  refine wpAny_bind (wpAny_lookBehind hoD (by rw [hdD]; exact pastItsLine_dict (Nat.le_trans hcD (by rw [sizeLine_eq]; show 2 ≤ 16777216 + 1; decide))) ?_)
  wp_walk
  exact hq h' _ (fun b o hb ho => (hs.2 b hb).trans ho) hn'
end
/-! ### errors as values -/
def ExF (C : Addr) (d : Option Addr) (a : Addr) : HO := .ext fun h => ∃ (oe : Obj) (vs : Array Value), h.get? a = some oe ∧ Zc (.ref C) d oe ∧ oe.data = .fields vs
theorem exF_ok {P : Program} {w : World} {H : Hp} {h : Heap} {a C : Addr} {d : Option Addr} {oe : Obj} {vs : Array Value} (e : h.get? a = some oe) (z : Zc (.ref C) d oe) (f : oe.data = .fields vs) : ObjOk P w H h a (ExF C d a) :=
  ⟨⟨oe, vs, e, z, f⟩, ⟨oe, e⟩, fun _ _ ⟨o, v, q, r⟩ k => ⟨o, v, k o q, r⟩⟩
/-- the error at e, of the class C, its field's dict at d -/
structure ErrAt (H : Hp) (C e d : Addr) (fs : List (Str × V)) : Prop where
  ex : H e = some (ExF C (some d) e)
  fd : H d = some (.xd fs)
theorem ErrAt.same {H H' : Hp} {C e d : Addr} {fs : List (Str × V)} (h : ErrAt H C e d fs) (s : ∀ b o, H b = some o → H' b = some o) : ErrAt H' C e d fs := ⟨s _ _ h.ex, s _ _ h.fd⟩
section
variable {X : Cx} {pins : List (Addr × Obj)} {σ : L2.St} {H : Hp} {s : Shared}
/-- e.n, e an error that is a value -/
def tXv (C : Addr) (n : Str) (te : TE) : TE := fun σ H Q => te σ H fun x H1 => ∃ (a d : Addr) (fs : List (Str × V)) (v : V), x = .ref a ∧ ErrAt H1 C a d fs ∧ fs.lookup n = some v ∧ Q v H1
theorem pe_xv {C : Addr} {e : Expr} {te : TE} {pos : Pos} {n : Str} (T : XfC X.K C) (hno : PySem.W.findIn X.K (.ref C) n = some none)
    (he : PE X e te) (hb : attributeBase e n X.env (eval e X.env) = eval e X.env := by rfl) : PE X (.Attribute e n pos) (tXv C n te) := by
  refine ⟨fun pins s σ H Q I h => ?_⟩
  refine attr_of hb (thn (he.run pins s σ H _ I h) fun u s1 hh => ?_)
  obtain ⟨x, H1, I1, rx, a, dd, fs, v, ex, er, l, q⟩ := hh
  subst ex
  obtain rfl : u = Value.ref a := rx
  obtain ⟨⟨oe, vs, ha, hz, hd⟩, _, _⟩ := (show ObjOk X.prog X.w H1 s1.heap a (ExF C (some dd) a) from I1.hok a _ er.ex)
  obtain ⟨mA, hns, hr⟩ := (show ObjOk X.prog X.w H1 s1.heap dd (.xd fs) from I1.hok dd _ er.fd)
  obtain ⟨od, ho, hl⟩ := lookIn_ns hns
  obtain ⟨u, hu, ru⟩ := RelO.some_of (v := v) (o := mA n) (by rw [← l]; exact hr n)
  have J : PySem.W.InstAt s1.heap a oe C (some od) := by
    refine ⟨ha, hz.1, ?_, ?_⟩
    · unfold PySem.W.notCls
      rw [hd]
    · rw [hz.2]
      exact ho
  exact HandSPX.exc_get I1.kIn J T.ga T.gg T.exC (PySem.W.findObj_own T.hdC hno rfl (by rw [hl, hu])) (handed_of ru) ⟨v, H1, I1.tok _, ru, q⟩
/-- isinstance(e, c), e an error that is a value -/
def rIsE (K : PySem.W.Frag) : List V → Hp → VK → Prop := fun xs H Q => ∃ (a D : Addr) (d : Option Addr) (c : V) (u : Value) (b : Bool), xs = [.ref a, c] ∧ ClsV c u ∧ H a = some (ExF D d a) ∧
  (∀ x, d = some x → ∃ fs, H x = some (.xd fs)) ∧ HeldC K D ∧ PySem.W.kitOne K (.ref D) u = some b ∧ Q (.bl b) H
theorem call_isE : CallR X (.builtin "isinstance") (rIsE X.K) := by
  intro pins s σ H xs us Q I r h
  obtain ⟨a, D, d, c, u, b, rfl, k, ha, hdx, C, e, q⟩ := h
  obtain ⟨u1, u2, rfl, r1, r2⟩ := vals2 r
  have e2 := k.eq r2
  subst e2
  cases r1
  obtain ⟨⟨oe, vs, hget, hz, hv⟩, _, _⟩ := (show ObjOk X.prog X.w H s.heap a (ExF D d a) from I.hok a _ ha)
  obtain ⟨od, J⟩ : ∃ od, PySem.W.InstAt s.heap a oe D od := by
    cases d with
    | none =>
      refine ⟨none, hget, hz.1, ?_, ?_⟩
      · unfold PySem.W.notCls
        rw [hv]
      · rw [hz.2]
        trivial
    | some dd =>
      obtain ⟨fs, hf⟩ := hdx dd rfl
      obtain ⟨mA, ⟨od, es, ep, ho, _⟩, _⟩ := (show ObjOk X.prog X.w H s.heap dd (.xd fs) from I.hok dd _ hf)
      refine ⟨some od, hget, hz.1, ?_, ?_⟩
      · unfold PySem.W.notCls
        rw [hv]
      · rw [hz.2]
        exact ho
  refine PySem.W.kia_one (PySem.W.kitx_exc C.cl C.ga C.gg C.sb C.ca C.sp C.tk C.mo) I.kIn J e (fun z => by cases z) (fun tk => ?_)
  exact ⟨.bl b, H, I.kept (t' := tk) (fun _ _ z => z), rfl, q⟩
/-- C(), a bare one -/
theorem pe_exB {C : Addr} {bmB : List Value} {B newId initId : String} {x : Str} {p pos : Pos} (F : ExcBaseFacts B newId initId bmB) (q : PySem.W.excIn X.K C bmB newId = true) (gC : X.mg x = some (.ref C)) (kC : PySem.W.keepIn X.K (.ref C) = true) (hg : Gl X x)
    (hdb : (x == ("__debug__" : Str)) = false := by decide) :
    PE X (.Call (.Name x p) [] [] pos) (fun _ H Q => ∀ a, H a = none → Q (.ref a) (upd H a (ExF C none a))) := by
  refine ⟨fun pins s σ H Q I h => ?_⟩
  refine wpAny_Call_Name_kw (ld_glob I hg gC ?_ hdb)
  refine PySem.W.callWith_K0 I.kIn kC ?_
  obtain ⟨bm, N, nm, qn, bs, hdct, sn, sub, ab, col, dd, k0, k1, k2, k3, k5, mN, hC, hN, hni, T⟩ := exc_obj I.kIn q
  refine wpAny_call_exc_subT F T hC hN hni (fun h' a hm => ?_) (by show 0 ≤ sizeLine; exact Nat.zero_le _)
  have hn : H a = none := I.hok.gone hm.new
  obtain ⟨t, ht, _, _⟩ := hm.there
  exact ⟨.ref a, upd H a (ExF C none a), I.laidN hm.keeps hm.new hn (exF_ok ht ⟨rfl, rfl⟩ rfl), rfl, h a hn⟩
end
end Mq

namespace Mq
open PySem PySem.Spec PyProof.Rows L2
open PySem.W (Frag)
/-! ### the call of an error's class as a value -/
/-- a made error, its fields by m -/
structure MadeM (h h' : Heap) (e C d : Addr) (m : Str → Option Value) : Prop where
  keep : ∀ b o, h.get? b = some o → h'.get? b = some o
  new : h.objs.size ≤ e
  obj : ∃ oe vs, h'.get? e = some oe ∧ oe.cls = .ref C ∧ oe.dict = some d ∧ oe.data = .fields vs ∧ vs[1]? = some .none
  big : h.objs.size ≤ d
  ne : d ≠ e
  ns : h'.Ns1 d m
/-- what the written part says of an error's class -/
structure ErrC (K : Frag) (mg : Str → Option Value) (x : Str) (C fI : Addr) : Prop where
  gC : mg x = some (.ref C)
  kC : PySem.W.keepIn K (.ref C) = true
  ex : PySem.W.excInitIn K C exTail "Exception.__new__" = true
  ov : PySem.W.excOver K C exTail = true
  hdC : PySem.W.hasDictIn K C = true
  sa : PySem.W.findIn K (.ref C) "__setattr__" = some (some (.builtin "object.__setattr__"))
  iC : PySem.W.findIn K (.ref C) "__init__" = some (some (.ref fI))
  tC : PySem.W.typeIn K (.ref fI) = some (.type "function")
  exC : PySem.W.subIn K (.ref C) (.type "BaseException") = some true
  tyC : PySem.W.typeIn K (.ref C) = some (.type "type")
/-- calls of C with these arguments make an error with fields by m -/
def Makes (K : Frag) (C : Addr) (us : List Value) (kw : List (Str × Value)) (m : Str → Option Value) : Prop :=
  ∀ (prog : Program) (w : World) (A : Around) (R : Result → Shared → Prop) (s : Shared), K.In s.heap → s.heap.NoLimit → A.depth + 1 < recursionLimit →
    (∀ h' tk e d, MadeM s.heap h' e C d m → R (.ok (.ret (.ref e))) { s with heap := h', toks := tk }) → codeAny (model prog w) A (.call (.ref C) ⟨us, kw⟩) R s
theorem zip_rel : ∀ {ks : List Str} {vs : List V} {us : List Value}, Vals vs us → ∀ f : Str, RelO ((ks.zip vs).lookup f) ((ks.zip us).lookup f)
  | [], _, _, _, f => by simp [RelO]
  | _ :: _, _, _, .nil, f => by simp [RelO]
  | k :: ks, _, _, .cons r t, f => by
    rw [List.zip_cons_cons, List.zip_cons_cons, List.lookup_cons, List.lookup_cons]
    cases f == k with
    | true => exact r
    | false => exact zip_rel t f
section
variable {X : Cx} {pins : List (Addr × Obj)} {σ : L2.St} {H : Hp}
theorem laid_exc {hp h' : Heap} {g : Array GenState} {dr : Drawn} {tk tk' : Nat} {os : OsState} {e C d : Addr} {m : Str → Option Value} {fs : List (Str × V)}
    (I : L2.Inv X pins σ H ⟨hp, g, dr, tk, os⟩) (M : MadeM hp h' e C d m) (hr : ∀ f, RelO (fs.lookup f) (m f)) :
    H d = none ∧ H e = none ∧ L2.Inv X pins σ (upd (upd H d (.xd fs)) e (ExF C (some d) e)) ⟨h', g, dr, tk', os⟩ := by
  obtain ⟨oe, fv, hoe, hc, hd, hdat, h1⟩ := M.obj
  have hns := M.ns
  obtain ⟨G', g1, g2⟩ := restrict h' fun b => decide (b ≠ e)
  have gk : ∀ b, b ≠ e → G'.get? b = h'.get? b := fun b hb => g1 b (decide_eq_true hb)
  have ge : G'.get? e = none := g2 e (by simp)
  have old : ∀ b o, hp.get? b = some o → G'.get? b = some o := fun b o q => (gk b (Nat.ne_of_lt (Nat.lt_of_lt_of_le (Heap.lt_size q) M.new))).trans (M.keep b o q)
  have ob : ObjOk X.prog X.w (upd H d (.xd fs)) G' d (.xd fs) := ⟨m, hns.at (fun o q => (gk d M.ne).trans q), hr⟩
  have J : L2.Inv X pins σ (upd H d (.xd fs)) ⟨G', g, dr, tk', os⟩ := I.laid (t' := tk') old M.big ob
  have ne : upd H d (.xd fs) e = none := by
    rw [upd_ne (Ne.symm M.ne)]
    exact I.hok.fresh M.new
  have up : ∀ b o, G'.get? b = some o → h'.get? b = some o := fun b o q => by
    by_cases hb : b = e
    · rw [hb, ge] at q
      cases q
    · exact (gk b hb).symm.trans q
  exact ⟨I.hok.fresh M.big, I.hok.fresh M.new, J.laidN (s := ⟨G', g, dr, tk', os⟩) (t' := tk') up ge ne (exF_ok hoe ⟨hc, hd⟩ hdat)⟩
end
section
variable {X : Cx} {C fI : Addr} {x : Str} {k : Nat} {p pos : Pos} {e : Expr} {es : List Expr} {kws : List Keyword} {t tk : TA} {ks kks : List Str}
/-- C(e, ..) -/
def tMkP (C : Addr) (ks : List Str) (t : TA) : TE := fun σ H Q => t σ H fun vs H1 => vs.length = ks.length ∧ ∀ e d, H1 d = none → H1 e = none → d ≠ e → Q (.ref e) (upd (upd H1 d (.xd (ks.zip vs))) e (ExF C (some d) e))
theorem pe_mkP (T : ErrC X.K X.mg x C fI) (hr : Room k X.A) (M : ∀ us : List Value, us.length = ks.length → Makes X.K C us [] fun y => (ks.zip us).lookup y) (ha : PA X (e :: es) t) (hg : Gl X x := by rfl)
    (hdb : (x == ("__debug__" : Str)) = false := by decide) (he : starEach (e :: es) X.env = (false, eval e X.env) :: starEach es X.env := by rfl) (hpl : (backTo pos (starEach es X.env)).any (·.1) = false := by rfl) :
    PE X (.Call (.Name x p) (e :: es) [] pos) (tMkP C ks t) := by
  refine ⟨fun pins s σ H Q I h => ?_⟩
  refine wpAny_Call_Name_kw (ld_glob I hg T.gC ?_ hdb)
  refine PySem.W.callWith_K (h₀ := X.base) I.ok.mod.kin T.kC (thn (ha.run pos pins s σ H _ I h) fun us s1 hh => ?_) he hpl
  obtain ⟨vs, H1, I1, r1, hl, q1⟩ := hh
  refine ⟨I1.kIn, ?_⟩
  have hlim := I1.nolimit
  obtain ⟨hp, g, dr, tk, os⟩ := s1
  have hus : us.length = ks.length := r1.length.symm.trans hl
  show wpAny _ _ (call (.ref C) us) _ _ _
  refine wpAny_call (M us hus X.prog X.w _ _ _ I1.kIn hlim (by have := hr.dp; omega) (fun h' tk' e d MM => ?_))
  obtain ⟨n1, n2, J⟩ := laid_exc (tk' := tk') I1 MM (zip_rel r1)
  exact ⟨.ref e, _, J, rfl, q1 e d n1 n2 MM.ne⟩
/-- C(k = e, ..): the fields' values by g -/
def tMkK (C : Addr) (ks : List Str) (n : Nat) (g : {α : Type} → List α → List α) (tk : TA) : TE := fun σ H Q => tk σ H fun zs H1 => zs.length = n ∧ ∀ e d, H1 d = none → H1 e = none → d ≠ e → Q (.ref e) (upd (upd H1 d (.xd (ks.zip (g zs)))) e (ExF C (some d) e))
theorem pe_mkK {g : {α : Type} → List α → List α} (T : ErrC X.K X.mg x C fI) (hr : Room k X.A) (hg2 : ∀ {vs : List V} {us : List Value}, Vals vs us → Vals (g vs) (g us))
    (M : ∀ ws : List Value, ws.length = kks.length → Makes X.K C [] (kks.zip ws) fun y => (ks.zip (g ws)).lookup y) (hkw : PK X kws tk) (hg : Gl X x := by rfl)
    (hall : (backToKw pos (keywordEach kws X.env)).all (·.1.isSome) = true := by rfl) (hks : (backToKw pos (keywordEach kws X.env)).filterMap (·.1) = kks := by rfl)
    (hdb : (x == ("__debug__" : Str)) = false := by decide)
    (hpl : ((backTo pos (starEach [] X.env)).any (·.1) || (backToKw pos (keywordEach kws X.env)).any (·.1.isNone)) = false := by rfl) :
    PE X (.Call (.Name x p) [] kws pos) (tMkK C ks kks.length g tk) := by
  refine ⟨fun pins s σ H Q I h => ?_⟩
  refine wpAny_Call_Name_kw (ld_glob I hg T.gC ?_ hdb)
  refine PySem.W.callWith_KW0 (h₀ := X.base) I.ok.mod.kin T.kC hall ?_ hpl
  refine thn (hkw.run pos pins s σ H _ I h) fun ws s2 ⟨zs, H2, I2, rz, hl, q2⟩ => ⟨I2.kIn, ?_⟩
  rw [hks]
  have hlim := I2.nolimit
  have hws : ws.length = kks.length := rz.length.symm.trans hl
  obtain ⟨hp, gg, dr, tk, os⟩ := s2
  refine wpAny_call (M ws hws X.prog X.w _ _ _ I2.kIn hlim (by have := hr.dp; omega) (fun h' tk' e d MM => ?_))
  obtain ⟨n1, n2, J⟩ := laid_exc (tk' := tk') I2 MM (zip_rel (hg2 rz))
  exact ⟨.ref e, _, J, rfl, q2 e d n1 n2 MM.ne⟩
end
end Mq

namespace Mq
open PySem PySem.Spec PyProof.Rows L2
/-! ### such a call behind raise -/
section
variable {X : Cx} {pins : List (Addr × Obj)} {σ : L2.St} {H : Hp}
theorem flown {hp h' : Heap} {g : Array GenState} {dr : Drawn} {tk tk' : Nat} {os : OsState} {e C d : Addr} {m : Str → Option Value} {fs : List (Str × V)} {Q : XK}
    (I : L2.Inv X pins σ H ⟨hp, g, dr, tk, os⟩) (M : MadeM hp h' e C d m) (hr : ∀ f, RelO (fs.lookup f) (m f)) (rs : Raises X (.ref C)) (q : Q (.ref C) (some d) (upd H d (.xd fs))) (hd : H d = none) :
    MkP X pins σ Q (.ref e) ⟨h', g, dr, tk', os⟩ := by
  obtain ⟨oe, fv, hoe, hc, hd', hdat, h1⟩ := M.obj
  have hns := M.ns
  obtain ⟨G', g1, g2⟩ := restrict h' fun b => decide (b ≠ e)
  have gk : ∀ b, b ≠ e → G'.get? b = h'.get? b := fun b hb => g1 b (decide_eq_true hb)
  have ge : G'.get? e = none := g2 e (by simp)
  have old : ∀ b o, hp.get? b = some o → G'.get? b = some o := fun b o q => (gk b (Nat.ne_of_lt (Nat.lt_of_lt_of_le (Heap.lt_size q) M.new))).trans (M.keep b o q)
  have ob : ObjOk X.prog X.w (upd H d (.xd fs)) G' d (.xd fs) := ⟨m, hns.at (fun o q => (gk d M.ne).trans q), hr⟩
  have J : L2.Inv X pins σ (upd H d (.xd fs)) ⟨G', g, dr, tk', os⟩ := I.laid (t' := tk') old M.big ob
  refine ⟨e, oe, fv, ⟨G', g, dr, tk', os⟩, _, .ref C, some d, rfl, J, (fun b o q => ?_), ge, hoe, ⟨hc, hd'⟩, hdat, h1, ?_, rfl, I.bare, rs, q⟩
  · by_cases hb : b = e
    · have q' : G'.get? b = some o := q
      rw [hb, ge] at q'
      cases q'
    · exact (gk b hb).symm.trans q
  · rw [upd_ne (Ne.symm M.ne)]
    exact I.hok.fresh M.new
end
section
variable {X : Cx} {C fI : Addr} {x : Str} {k : Nat} {p pos : Pos} {e : Expr} {es : List Expr} {kws : List Keyword} {t tk : TA} {ks kks : List Str}
def tFlP (C : Addr) (ks : List Str) (t : TA) : L2.St → Hp → XK → Prop := fun σ H Q => t σ H fun vs H1 => vs.length = ks.length ∧ ∀ d, H1 d = none → Q (.ref C) (some d) (upd H1 d (.xd (ks.zip vs)))
theorem pmkP (T : ErrC X.K X.mg x C fI) (hr : Room k X.A) (M : ∀ us : List Value, us.length = ks.length → Makes X.K C us [] fun y => (ks.zip us).lookup y) (ha : PA X (e :: es) t) (hg : Gl X x := by rfl)
    (hdb : (x == ("__debug__" : Str)) = false := by decide) (he : starEach (e :: es) X.env = (false, eval e X.env) :: starEach es X.env := by rfl) (hpl : (backTo pos (starEach es X.env)).any (·.1) = false := by rfl) :
    PMk X (.Call (.Name x p) (e :: es) [] pos) (tFlP C ks t) := by
  intro pins s σ H Q I h
  refine wpAny_Call_Name_kw (ld_glob I hg T.gC ?_ hdb)
  refine PySem.W.callWith_K (h₀ := X.base) I.ok.mod.kin T.kC (thn (ha.run pos pins s σ H _ I h) fun us s1 hh => ?_) he hpl
  obtain ⟨vs, H1, I1, r1, hl, q1⟩ := hh
  refine ⟨I1.kIn, ?_⟩
  have hlim := I1.nolimit
  obtain ⟨hp, g, dr, tk, os⟩ := s1
  have hus : us.length = ks.length := r1.length.symm.trans hl
  show wpAny _ _ (call (.ref C) us) _ _ _
  refine wpAny_call (M us hus X.prog X.w _ _ _ I1.kIn hlim (by have := hr.dp; omega) (fun h' tk' e d MM => ?_))
  exact flown I1 MM (zip_rel r1) (raises_own T.exC T.tyC) (q1 d (I1.hok.fresh MM.big)) (I1.hok.fresh MM.big)
def tFlK (C : Addr) (ks : List Str) (n : Nat) (g : {α : Type} → List α → List α) (tk : TA) : L2.St → Hp → XK → Prop := fun σ H Q => tk σ H fun zs H1 => zs.length = n ∧ ∀ d, H1 d = none → Q (.ref C) (some d) (upd H1 d (.xd (ks.zip (g zs))))
theorem pmkK {g : {α : Type} → List α → List α} (T : ErrC X.K X.mg x C fI) (hr : Room k X.A) (hg2 : ∀ {vs : List V} {us : List Value}, Vals vs us → Vals (g vs) (g us))
    (M : ∀ ws : List Value, ws.length = kks.length → Makes X.K C [] (kks.zip ws) fun y => (ks.zip (g ws)).lookup y) (hkw : PK X kws tk) (hg : Gl X x := by rfl)
    (hall : (backToKw pos (keywordEach kws X.env)).all (·.1.isSome) = true := by rfl) (hks : (backToKw pos (keywordEach kws X.env)).filterMap (·.1) = kks := by rfl)
    (hdb : (x == ("__debug__" : Str)) = false := by decide)
    (hpl : ((backTo pos (starEach [] X.env)).any (·.1) || (backToKw pos (keywordEach kws X.env)).any (·.1.isNone)) = false := by rfl) :
    PMk X (.Call (.Name x p) [] kws pos) (tFlK C ks kks.length g tk) := by
  intro pins s σ H Q I h
  refine wpAny_Call_Name_kw (ld_glob I hg T.gC ?_ hdb)
  refine PySem.W.callWith_KW0 (h₀ := X.base) I.ok.mod.kin T.kC hall ?_ hpl
  refine thn (hkw.run pos pins s σ H _ I h) fun ws s2 ⟨zs, H2, I2, rz, hl, q2⟩ => ⟨I2.kIn, ?_⟩
  rw [hks]
  have hlim := I2.nolimit
  have hws : ws.length = kks.length := rz.length.symm.trans hl
  obtain ⟨hp, gg, dr, tk, os⟩ := s2
  refine wpAny_call (M ws hws X.prog X.w _ _ _ I2.kIn hlim (by have := hr.dp; omega) (fun h' tk' e d MM => ?_))
  exact flown I2 MM (zip_rel (hg2 rz)) (raises_own T.exC T.tyC) (q2 d (I2.hok.fresh MM.big)) (I2.hok.fresh MM.big)
end
end Mq

namespace Mq
open PySem PySem.Spec PyProof.Rows L2
section
variable {X : Cx} {pins : List (Addr × Obj)} {σ : L2.St} {H : Hp} {s : Shared}
/-- repr where an error is held: only the room below counts -/
theorem call_repU' (hu : X.A.units + 200 < cLine) (gA : Still X.A) : CallR X (.builtin "repr") (rRep X.K) := by
  intro pins s σ H xs us Q I r h
  obtain ⟨v, d, rfl, hd, hs, hz, hl, q⟩ := h
  cases r with
  | cons rx rr =>
    cases rr
    obtain ⟨as, rd, hn⟩ := Dg.rd I hd rx
    have leaf : ∀ {d : PyData} {t : Tok}, Q (.str d.shown) H → EP X pins σ Q (.str d.shown t) { s with toks := s.toks + 1 } :=
      fun {d t} q => ⟨.str d.shown, H, I.tok _, ⟨_, rfl⟩, q⟩
    cases hd with
    | non =>
      cases rx
      exact PySem.P.repr_of_none (leaf (d := .none) q)
    | bl b =>
      cases rx
      exact PySem.P.repr_of_bool (leaf (d := .bool b) q)
    | int i =>
      obtain ⟨t, rfl⟩ := rx
      exact PySem.P.repr_of_int (by simpa [PyData.showable] using hs) (leaf (d := .int i) q)
    | str x =>
      obtain ⟨t, rfl⟩ := rx
      refine PySem.P.repr_of_str (leaf (d := .str x) q) ?_
      simpa only [PyData.shown] using hl
    | lst ne h1 h2 =>
      cases rx
      exact repr_of_reads' rd hs (fun _ => hn) gA (by omega) (fun _ _ e => e) (fun h' u tk k => ⟨.str _, H, I.kept k, ⟨_, rfl⟩, q⟩) hl
    | tup h1 h2 =>
      cases rx
      exact repr_of_reads' rd hs (fun _ => hn) gA (by omega) (fun _ _ e => e) (fun h' u tk k => ⟨.str _, H, I.kept k, ⟨_, rfl⟩, q⟩) hl
    | dct h1 h2 =>
      cases rx
      exact repr_of_reads' rd hs (fun _ => hn) gA (by omega) (fun _ _ e => e) (fun h' u tk k => ⟨.str _, H, I.kept k, ⟨_, rfl⟩, q⟩) hl
/-- the same, the written part named -/
theorem call_repU {K0 : PySem.W.Frag} (hK : X.K = K0) (hu : X.A.units + 200 < cLine) (gA : Still X.A) : CallR X (.builtin "repr") (rRep K0) := hK ▸ call_repU' hu gA
theorem pe_bmK {K0 : PySem.W.Frag} {e : Expr} {T : String} {r : V → List V → Hp → VK → Prop} {to : TE} {t : TA} (hK : X.K = K0) (h : PE X e (tBM X.K T r to t)) : PE X e (tBM K0 T r to t) := hK ▸ h
end
end Mq

namespace Mq
open PySem PySem.Spec PyProof.Rows L2
/-! ### own objects: a field as a target among others; len and == by methods of their own -/
def gFld (K : PySem.W.Frag) (ta : TE) (f : Str) : TG := fun v σ H Q => ta σ H fun x H1 => ∃ a C dx fs, x = .ref a ∧ H1 a = some (.ins C dx fs) ∧ Cls K C ∧ NoAttr K C f ∧ fs.length < 1000 ∧ Q σ (upd H1 a (.ins C dx (putF f v fs)))
theorem pg_fld {X : Cx} {o : Expr} {f : Str} {pos : Pos} {ta : TE} (ho : PE X o ta) : PG X (.Attribute o f pos) (gFld X.K ta f) := by
  refine ⟨fun pins s σ H v u Q I r h => PySem.W.kas_attr (thn (ho.run pins s σ H _ I h) ?_)⟩
  rintro ov s1 ⟨x, H1, I1, rx, a, C, dx, fs, rfl, ea, c, n, hl, q⟩
  cases rx
  exact setattr_ok I1 ea c n hl r fun s' I2 => ⟨σ, _, I2, q⟩
section
variable {X : Cx} {pins : List (Addr × Obj)} {σ : L2.St} {H : Hp} {s : Shared} {a C dx : Addr} {fs : List (Str × V)}
theorem inst_of (I : L2.Inv X pins σ H s) (ea : H a = some (.ins C dx fs)) : ∃ o, PySem.W.InstAt s.heap a (PySem.W.instObj C dx) C (some o) := by
  have o := I.hok a _ ea
  unfold ObjOk at o
  obtain ⟨_, _, _, hget, mA, ⟨od, es, ep, ho, _⟩, _⟩ := o
  exact ⟨od, hget, rfl, rfl, ho⟩
end
/-- len(o) by the class's own def -/
def rLenO (C : Addr) (sp : Sp) (E : XK) : List V → Hp → VK → Prop := fun xs H Q => ∃ a dx fs, xs = [.ref a] ∧ H a = some (.ins C dx fs) ∧ sp [.ref a] H (fun v H' => ∃ n : Nat, v = .int (n : Nat) ∧ n ≤ 1000000 ∧ Q (.int (n : Nat)) H') E
theorem call_lenO {X : Cx} {CX : CXT} {k : Nat} {f C : Addr} {fd : FuncData} {ps : List Str} {sp : Sp} {E : XK} (hm : Meth X.K C "__len__" f)
    (F : FnOk X.prog X.w X.K X.mg X.base CX k f fd ps sp) (hr : Room (k + 1) X.A) (hb : Binds X.K fd ps []) (hx : Passes CX X E) : CallR X (.builtin "len") (rLenO C sp E) := by
  intro pins s σ H xs us Q I r h
  obtain ⟨a, dx, fs, rfl, ea, q⟩ := h
  cases r with
  | cons rx rr =>
    cases rr
    cases rx
    obtain ⟨o, J⟩ := inst_of I ea
    obtain ⟨m, fr⟩ := I.fr
    refine PySem.W.len_K fr I.ok.mod.kin J hm.at_ hm.fn ?_
    have rv : Vals [V.ref a] [Value.ref a] := .cons rfl .nil
    have hl : [Value.ref a].length = ps.length := F.len _ _ _ _ q
    have b := hb s [.ref a] I.kIn (by rw [List.append_nil]; exact hl)
    rw [List.append_nil] at b
    refine wpAny_call (codeAny_mono (F.run X.A.in1 X.stack s H ⟨[.ref a], []⟩ [.ref a] [.ref a] _ E hr.in1 I.env0.in1 b rv q) (fun r s' hq => ?_))
    match r, hq with
    | .error er, hq => exact hx pins σ H s er s' I hq
    | .ok (.ret u), hq =>
      obtain ⟨v, H', I', rv', n, rfl, hn, q'⟩ := I.after hq
      obtain ⟨t, rfl⟩ := rv'
      refine ⟨⟨by omega, by omega⟩, .int (n : Nat), H', ?_, ⟨_, rfl⟩, q'⟩
      exact I'.kept (h' := s'.heap) (t' := s'.toks + 1) (fun _ _ z => z)
    | .ok .next, hq => exact hq.elim
    | .ok .brk, hq => exact hq.elim
    | .ok .cont, hq => exact hq.elim
/-- o == p, both of one class, by the class's own def -/
def rEqO (K : PySem.W.Frag) (C : Addr) (sp : Sp) (E : XK) : R2 := fun x y H Q => ∃ a b dx dy fs gs, x = .ref a ∧ y = .ref b ∧ H a = some (.ins C dx fs) ∧ H b = some (.ins C dy gs) ∧ sp [.ref a, .ref b] H (fun v H' => ∃ r : Bool, v = .bl r ∧ Q (.bl r) H') E
theorem op_eqO {X : Cx} {CX : CXT} {k : Nat} {f C : Addr} {fd : FuncData} {ps : List Str} {sp : Sp} {E : XK} (hm : Meth X.K C "__eq__" f)
    (F : FnOk X.prog X.w X.K X.mg X.base CX k f fd ps sp) (hr : Room k X.A) (hb : Binds X.K fd ps []) (hx : Passes CX X E) : OpR X (compareOp .Eq) (rEqO X.K C sp E) := by
  intro pins s σ H x y v u Q I rx ry h
  obtain ⟨a, b, dx, dy, fs, gs, rfl, rfl, ea, eb, q⟩ := h
  cases rx
  cases ry
  obtain ⟨o, J⟩ := inst_of I ea
  obtain ⟨o2, J2⟩ := inst_of I eb
  obtain ⟨m, fr⟩ := I.fr
  refine PySem.W.cmp_ofEq (PySem.W.cmp_K (tb := .ref C) (by have := hr.un; omega) fr I.ok.mod.kin J ?_ ?_ hm.at_ hm.fn ?_)
  · exact J2.type
  · show (_ || _) = true
    rw [show ((Value.ref C == Value.ref C) = true) by simp]
    rfl
  · have rv : Vals [V.ref a, V.ref b] [Value.ref a, Value.ref b] := .cons rfl (.cons rfl .nil)
    have hl : [Value.ref a, Value.ref b].length = ps.length := F.len _ _ _ _ q
    have bd := hb s [.ref a, .ref b] I.kIn (by rw [List.append_nil]; exact hl)
    rw [List.append_nil] at bd
    refine wpAny_call (codeAny_mono (F.run X.A X.stack s H ⟨[.ref a, .ref b], []⟩ [.ref a, .ref b] [.ref a, .ref b] _ E hr I.env0 bd rv q) (fun r s' hq => ?_))
    match r, hq with
    | .error er, hq => exact hx pins σ H s er s' I hq
    | .ok (.ret u), hq =>
      obtain ⟨v, H', I', rv', r, rfl, q'⟩ := I.after hq
      cases rv'
      exact ⟨.bl r, H', I', rfl, q'⟩
    | .ok .next, hq => exact hq.elim
    | .ok .brk, hq => exact hq.elim
    | .ok .cont, hq => exact hq.elim
end Mq

namespace Mq
open PySem PySem.Spec PyProof.Rows L2
/-! ### str(o) by the class's own def -/
def rStrO (C : Addr) (sp : Sp) (E : XK) : List V → Hp → VK → Prop := fun xs H Q => ∃ a dx fs, xs = [.ref a] ∧ H a = some (.ins C dx fs) ∧ sp [.ref a] H (fun v H' => ∃ y : Str, v = .str y ∧ Q (.str y) H') E
theorem call_strO {X : Cx} {CX : CXT} {k : Nat} {f C : Addr} {fd : FuncData} {ps : List Str} {sp : Sp} {E : XK} (hm : Meth X.K C "__str__" f)
    (F : FnOk X.prog X.w X.K X.mg X.base CX k f fd ps sp) (hr : Room (k + 2) X.A) (hb : Binds X.K fd ps []) (hx : Passes CX X E) : CallR X (.type "str") (rStrO C sp E) := by
  intro pins s σ H xs us Q I r h
  obtain ⟨a, dx, fs, rfl, ea, q⟩ := h
  cases r with
  | cons rx rr =>
    cases rr
    cases rx
    obtain ⟨o, J⟩ := inst_of I ea
    have hu : X.A.in1.in1.units < cLine := by
      have := hr.in1.in1.units
      omega
    refine PySem.W.kso_call hu I.kIn J hm.at_ hm.fn ?_
    have rv : Vals [V.ref a] [Value.ref a] := .cons rfl .nil
    have hl : [Value.ref a].length = ps.length := F.len _ _ _ _ q
    have b := hb s [.ref a] I.kIn (by rw [List.append_nil]; exact hl)
    rw [List.append_nil] at b
    refine wpAny_call (codeAny_mono (F.run X.A.in1.in1 X.stack s H ⟨[.ref a], []⟩ [.ref a] [.ref a] _ E hr.in1.in1 I.env0.in1.in1 b rv q) (fun r s' hq => ?_))
    match r, hq with
    | .error er, hq => exact hx pins σ H s er s' I hq
    | .ok (.ret u), hq =>
      obtain ⟨v, H', I', rv', y, rfl, q'⟩ := I.after hq
      obtain ⟨t, rfl⟩ := rv'
      exact ⟨.str y, H', I', ⟨_, rfl⟩, q'⟩
    | .ok .next, hq => exact hq.elim
    | .ok .brk, hq => exact hq.elim
    | .ok .cont, hq => exact hq.elim
end Mq

namespace Mq
open PySem PySem.Spec PyProof.Rows L2
/-! ### an own object made within a try -/
section
variable {X : Cx} {CX : CXT} {k n : Nat} {f C : Addr} {fd : FuncData} {ps ks : List Str} {sp : Sp} {E : XK} {ES : L2.St → XK}
  {g : List Value → List Value → List Value} {gV : List V → List V → List V} {pins : List (Addr × Obj)} {σ : L2.St} {H : Hp} {s : Shared} {Q : VK} {us ws : List Value} {vs zs : List V}
  {x : Str} {p pos : Pos} {kws : List Keyword} {tk t : TA} {e : Expr} {es : List Expr}
theorem run_makeS (M : Mk X.K C f) (F : FnOk X.prog X.w X.K X.mg X.base CX k f fd ps sp) (hr : Room (k + 1) X.A) (hb : KBn X.K fd ps (n + 1) ks g gV) (hx : PassesAt CX X σ E)
    (I : Inv X pins σ H s) (ru : Vals vs us) (rz : Vals zs ws) (hn : vs.length = n) (hm : zs.length = ks.length)
    (h : ∀ x dx, H x = none → H dx = none → dx ≠ x → sp (gV (.ref x :: vs) zs) (upd (upd H dx (.own x)) x (.ins C dx [])) (fun v H2 => v = .non ∧ Q (.ref x) H2) E) :
    wpAny (model X.prog X.w) X.A (call (.ref C) us (ks.zip ws)) (EP X pins σ Q) X.xe s := by
  have I1 := I.made (C := C)
  have lt : ∀ {b : Addr} {o : HO}, H b = some o → b < s.heap.objs.size := fun {b o} e => I.hok.lt e
  have n0 : H s.heap.objs.size = none := by
    cases e : H s.heap.objs.size with
    | none => rfl
    | some o => exact absurd (lt e) (Nat.lt_irrefl _)
  have n1 : H (s.heap.objs.size + 1) = none := by
    cases e : H (s.heap.objs.size + 1) with
    | none => rfl
    | some o => exact absurd (Nat.lt_trans (Nat.lt_succ_self _) (lt e)) (Nat.lt_irrefl _)
  refine wpAny_call (Att.make_obj I.kIn M.makes M.init M.fn ?_)
  refine codeAny_mono (F.run _ X.stack _ _ ⟨.ref (s.heap.objs.size + 1) :: us, ks.zip ws⟩ (g (.ref (s.heap.objs.size + 1) :: us) ws) (gV (.ref (s.heap.objs.size + 1) :: vs) zs) _ E (hr.make _ _ _) (I1.env0.make _ _ _)
    (hb.to _ (.ref (s.heap.objs.size + 1) :: us) ws I1.kIn (by rw [List.length_cons, ← ru.length, hn]) (rz.length.symm.trans hm)) (hb.rel (.cons rfl ru) rz) (h _ _ n1 n0 (Nat.ne_of_lt (Nat.lt_succ_self _)))) (fun r s' hq => ?_)
  match r, hq with
  | .error er, hq => exact hx pins _ _ er s' I1 hq
  | .ok (.ret u), hq =>
    obtain ⟨v, H', I', rv', rfl, q'⟩ := I1.after hq
    cases rv'
    exact ⟨rfl, .ref _, H', I', rfl, q'⟩
  | .ok .next, hq => exact hq.elim
  | .ok .brk, hq => exact hq.elim
  | .ok .cont, hq => exact hq.elim
def tMakeS (C : Addr) (m : Nat) (sp : Sp) (gV : List V → List V → List V) (ES : L2.St → XK) (tk : TA) : TE := fun σ H Q => tk σ H fun zs H2 => zs.length = m ∧ ∀ x dx, H2 x = none → H2 dx = none → dx ≠ x → sp (gV [.ref x] zs) (upd (upd H2 dx (.own x)) x (.ins C dx [])) (fun v H3 => v = .non ∧ Q (.ref x) H3) (ES σ)
/-- x(k = v, ..), what is raised being wished for at the slots as they stand -/
theorem pe_makeKS (M : Mk X.K C f) (F : FnOk X.prog X.w X.K X.mg X.base CX k f fd ps sp) (hr : Room (k + 1) X.A) (hg : Gl X x) (hm : X.mg x = some (.ref C)) (hb : KBn X.K fd ps 1 ks g gV)
    (hx : ∀ σ, PassesAt CX X σ (ES σ)) (hkw : PK X kws tk)
    (hall : (backToKw pos (keywordEach kws X.env)).all (·.1.isSome) = true := by rfl)
    (hks : (backToKw pos (keywordEach kws X.env)).filterMap (·.1) = ks := by rfl)
    (hdb : (x == ("__debug__" : Str)) = false := by decide)
    (hpl : ((backTo pos (starEach [] X.env)).any (·.1) || (backToKw pos (keywordEach kws X.env)).any (·.1.isNone)) = false := by rfl) :
    PE X (.Call (.Name x p) [] kws pos) (tMakeS C ks.length sp gV ES tk) := by
  refine ⟨fun pins s σ H Q I h => ?_⟩
  refine wpAny_Call_Name_kw (ld_glob I hg hm ?_ hdb)
  refine PySem.W.callWith_KW0 (h₀ := X.base) I.ok.mod.kin M.kp hall ?_ hpl
  refine thn (hkw.run pos pins s σ H _ I h) fun ws s2 ⟨zs, H2, I2, rz, hl, q2⟩ => ⟨I2.kIn, ?_⟩
  rw [hks]
  exact run_makeS (n := 0) (vs := []) (us := []) M F hr hb (hx σ) I2 .nil rz rfl hl q2
def tMakeP (C : Addr) (m : Nat) (sp : Sp) (ES : L2.St → XK) (t : TA) : TE := fun σ H Q => t σ H fun vs H2 => vs.length = m ∧ ∀ x dx, H2 x = none → H2 dx = none → dx ≠ x → sp (.ref x :: vs) (upd (upd H2 dx (.own x)) x (.ins C dx [])) (fun v H3 => v = .non ∧ Q (.ref x) H3) (ES σ)
/-- x(e, ..), so too -/
theorem pe_makeS {m : Nat} (M : Mk X.K C f) (F : FnOk X.prog X.w X.K X.mg X.base CX k f fd ps sp) (hr : Room (k + 1) X.A) (hg : Gl X x) (hm : X.mg x = some (.ref C)) (hb : Binds X.K fd ps []) (hps : ps.length = m + 1)
    (hx : ∀ σ, PassesAt CX X σ (ES σ)) (ha : PA X (e :: es) t) (hdb : (x == ("__debug__" : Str)) = false := by decide)
    (he : starEach (e :: es) X.env = (false, eval e X.env) :: starEach es X.env := by rfl) (hpl : (backTo pos (starEach es X.env)).any (·.1) = false := by rfl) :
    PE X (.Call (.Name x p) (e :: es) [] pos) (tMakeP C m sp ES t) := by
  refine ⟨fun pins s σ H Q I h => ?_⟩
  refine wpAny_Call_Name_kw (ld_glob I hg hm ?_ hdb)
  refine PySem.W.callWith_K (h₀ := X.base) I.ok.mod.kin M.kp (thn (ha.run pos pins s σ H _ I h) fun us s1 ⟨vs, H1, I1, r, hl, q⟩ => ⟨I1.kIn, ?_⟩) he hpl
  have kb : KBn X.K fd ps (m + 1) [] (fun us _ => us) (fun vs _ => vs) := by
    refine ⟨fun s us ws kin h1 h2 => ?_, fun a _ => a⟩
    have b := hb s us kin (by rw [List.append_nil, hps, h1])
    rw [List.append_nil] at b
    exact b
  exact run_makeS (n := m) (zs := []) (ws := []) (ks := []) M F hr kb (hx σ) I1 r .nil hl rfl q
end
end Mq

namespace Mq
open PySem PySem.Spec PyProof.Rows L2
open SX (S)
/-! ### data of tuples, texts and numbers: where tuples stay, it stays -/
mutual
inductive Td (K : PySem.W.Frag) (H : Hp) : V → PyData → Prop
  | int (i : Int) : Td K H (.int i) (.int i)
  | str (x : Str) : Td K H (.str x) (.str x)
  | tup {a : Addr} {xs : List V} {ds : List PyData} : SqT K H a xs → TdAll K H xs ds → Td K H (.ref a) (.tuple ds)
inductive TdAll (K : PySem.W.Frag) (H : Hp) : List V → List PyData → Prop
  | nil : TdAll K H [] []
  | cons {v : V} {vs : List V} {d : PyData} {ds : List PyData} : Td K H v d → TdAll K H vs ds → TdAll K H (v :: vs) (d :: ds)
end
section
variable {K : PySem.W.Frag} {H H' : Hp}
mutual
theorem Td.kp (e : ∀ a xs, SqT K H a xs → SqT K H' a xs) : ∀ {v : V} {d : PyData}, Td K H v d → Td K H' v d
  | _, _, .int i => .int i
  | _, _, .str x => .str x
  | _, _, .tup h a => .tup (e _ _ h) (TdAll.kp e a)
theorem TdAll.kp (e : ∀ a xs, SqT K H a xs → SqT K H' a xs) : ∀ {v : List V} {d : List PyData}, TdAll K H v d → TdAll K H' v d
  | _, _, .nil => .nil
  | _, _, .cons a b => .cons (Td.kp e a) (TdAll.kp e b)
end
theorem Td.same (e : Same H H') {v : V} {d : PyData} (h : Td K H v d) : Td K H' v d := h.kp fun _ _ z => Same.tup e z
theorem TdAll.same (e : Same H H') {v : List V} {d : List PyData} (h : TdAll K H v d) : TdAll K H' v d := h.kp fun _ _ z => Same.tup e z
mutual
theorem Td.dg : ∀ {v : V} {d : PyData}, Td K H v d → Dg K H v d
  | _, _, .int i => .int i
  | _, _, .str x => .str x
  | _, _, .tup h a => .tup h (TdAll.dg a)
theorem TdAll.dg : ∀ {v : List V} {d : List PyData}, TdAll K H v d → DgAll K H v d
  | _, _, .nil => .nil
  | _, _, .cons a b => .cons (Td.dg a) (TdAll.dg b)
end
mutual
theorem Td.dp : ∀ {v : V} {d : PyData}, Td K H v d → Dp K H v d
  | _, _, .int i => .int i
  | _, _, .str x => .str x
  | _, _, .tup h a => .tup h (TdAll.dp a)
theorem TdAll.dp : ∀ {v : List V} {d : List PyData}, TdAll K H v d → DpAll K H v d
  | _, _, .nil => .nil
  | _, _, .cons a b => .cons (Td.dp a) (TdAll.dp b)
end
theorem TdAll.len : ∀ {vs : List V} {ds : List PyData}, TdAll K H vs ds → vs.length = ds.length
  | _, _, .nil => rfl
  | _, _, .cons a b => congrArg (· + 1) b.len
theorem TdAll.snoc : ∀ {vs : List V} {ds : List PyData} {v : V} {d : PyData}, TdAll K H vs ds → Td K H v d → TdAll K H (vs ++ [v]) (ds ++ [d])
  | _, _, _, _, .nil, h => .cons h .nil
  | _, _, _, _, .cons a b, h => .cons a (b.snoc h)
theorem TdAll.unsnoc : ∀ {vs : List V} {ds : List PyData} {d : PyData}, TdAll K H vs (ds ++ [d]) → ∃ us v, vs = us ++ [v] ∧ TdAll K H us ds ∧ Td K H v d
  | _, [], _, .cons a .nil => ⟨[], _, rfl, .nil, a⟩
  | _, e :: ds, _, .cons a b => by
    obtain ⟨us, v, rfl, h1, h2⟩ := b.unsnoc
    exact ⟨_ :: us, v, rfl, .cons a h1, h2⟩
theorem TdAll.at : ∀ {vs : List V} {ds : List PyData} {i : Nat} {v : V}, TdAll K H vs ds → vs[i]? = some v → ∃ d, ds[i]? = some d ∧ Td K H v d
  | _, _, 0, _, .cons a b, h => ⟨_, rfl, by cases h; exact a⟩
  | _, _, i + 1, _, .cons a b, h => TdAll.at (i := i) b h
theorem TdAll.of_strs {xs : List Str} : TdAll K H (xs.map V.str) (xs.map PyData.str) := by
  induction xs with
  | nil => exact .nil
  | cons x xs ih => exact .cons (.str x) ih
/-- a tuple of two -/
theorem Td.two {v : V} {d e : PyData} (h : Td K H v (.tuple [d, e])) : ∃ a x y, v = .ref a ∧ SqT K H a [x, y] ∧ Td K H x d ∧ Td K H y e := by
  cases h with
  | tup h a =>
    cases a with
    | cons a b =>
      cases b with
      | cons b c =>
        cases c
        exact ⟨_, _, _, rfl, h, a, b⟩
theorem Td.two' {a : Addr} {x y : V} {d e : PyData} (h : SqT K H a [x, y]) (h1 : Td K H x d) (h2 : Td K H y e) : Td K H (.ref a) (.tuple [d, e]) := .tup h (.cons h1 (.cons h2 .nil))
theorem Td.isStr {v : V} {x : Str} (h : Td K H v (.str x)) : v = .str x := by
  cases h
  rfl
end
/-! ### what can be shown, and how long it is -/
structure ShowOk (d : PyData) : Prop where
  sh : d.showable = true
  de : d.depth ≤ 40
  le : d.shown.length ≤ sizeLine
structure Gd (w n : Nat) (d : PyData) : Prop where
  cl : d.canLay0 = true
  sh : d.showable = true
  de : d.depth ≤ n
  we : d.weight ≤ w
  it : d.intsShort 13 = true
theorem gd_str {l : List Nat} {w : Nat} (h : ∀ c ∈ l, c < 1114112) (hl : l.length ≤ w) : Gd w 0 (.str (S l)) := by
  refine ⟨?_, rfl, Nat.le_refl 0, ?_, rfl⟩
  · show (l.toArray : Array Nat).all (fun d => decide (d < 1114112)) = true
    rw [List.all_toArray]
    exact List.all_eq_true.mpr fun c hc => decide_eq_true (h c hc)
  · show (S l).length ≤ w
    rw [SX.S_len]
    exact hl
theorem gd_int {k : Nat} (h : k ≤ 1000) : Gd 20 0 (.int (k : Nat)) := by
  obtain ⟨a, b, c⟩ := small_short k h
  exact ⟨rfl, b, Nat.le_refl 0, c, by show decide _ = true; exact decide_eq_true a⟩
theorem Gd.mono {w n w' n' : Nat} {d : PyData} (h : Gd w n d) (hw : w ≤ w') (hn : n ≤ n') : Gd w' n' d := ⟨h.cl, h.sh, Nat.le_trans h.de hn, Nat.le_trans h.we hw, h.it⟩
theorem gd_all {w n : Nat} : ∀ {ds : List PyData}, (∀ d ∈ ds, Gd w n d) → PyData.canLayAll0 ds = true ∧ PyData.showableAll ds = true ∧ PyData.depthAll ds ≤ n ∧ PyData.weightAll ds ≤ ds.length * (w + 1) ∧ PyData.intsShortAll 13 ds = true
  | [], _ => ⟨rfl, rfl, Nat.zero_le _, Nat.zero_le _, rfl⟩
  | d :: ds, h => by
    obtain ⟨a, b, c, e, f⟩ := gd_all fun x hx => h x (List.mem_cons_of_mem _ hx)
    have g := h d List.mem_cons_self
    refine ⟨?_, ?_, ?_, ?_, ?_⟩
    · show (d.canLay0 && PyData.canLayAll0 ds) = true
      rw [g.cl, a]
      rfl
    · show (d.showable && PyData.showableAll ds) = true
      rw [g.sh, b]
      rfl
    · exact Nat.max_le.mpr ⟨g.de, c⟩
    · show d.weight + 1 + PyData.weightAll ds ≤ (ds.length + 1) * (w + 1)
      have := g.we
      rw [Nat.add_mul, Nat.one_mul]
      omega
    · show (d.intsShort 13 && PyData.intsShortAll 13 ds) = true
      rw [g.it, f]
      rfl
theorem gd_tup {w n m : Nat} {ds : List PyData} (h : ∀ d ∈ ds, Gd w n d) (hl : ds.length ≤ m) : Gd (m * (w + 1)) (n + 1) (.tuple ds) := by
  obtain ⟨a, b, c, e, f⟩ := gd_all h
  exact ⟨a, b, Nat.succ_le_succ c, Nat.le_trans e (Nat.mul_le_mul_right _ hl), f⟩
theorem gd_lst {w n m : Nat} {ds : List PyData} (h : ∀ d ∈ ds, Gd w n d) (hl : ds.length ≤ m) : Gd (m * (w + 1)) (n + 1) (.list ds) := by
  obtain ⟨a, b, c, e, f⟩ := gd_all h
  exact ⟨a, b, Nat.succ_le_succ c, Nat.le_trans e (Nat.mul_le_mul_right _ hl), f⟩
theorem Gd.ok {w n : Nat} {d : PyData} (h : Gd w n d) (hw : w ≤ 1000000) (hn : n ≤ 40) : ShowOk d :=
  ⟨h.sh, Nat.le_trans h.de hn, shown_fits h.cl (Nat.le_trans h.de (Nat.le_trans hn (by decide))) (Nat.le_trans h.we hw) h.it⟩
end Mq

namespace Mq
open PySem PySem.Spec PyProof.Rows L2
/-! ### data that stays is what it is -/
mutual
theorem eqv_td {K : PySem.W.Frag} {H : Hp} : ∀ {v : V} {d : PyData}, Td K H v d → PyData.eqv d d = true
  | _, _, .int i => by simp [PyData.eqv]
  | _, _, .str x => by simp [PyData.eqv]
  | _, _, .tup _ a => by
    simp only [PyData.eqv]
    exact eqv_tds a
theorem eqv_tds {K : PySem.W.Frag} {H : Hp} : ∀ {vs : List V} {ds : List PyData}, TdAll K H vs ds → PyData.eqvAll ds ds = true
  | _, _, .nil => by simp [PyData.eqvAll]
  | _, _, .cons a b => by
    simp only [PyData.eqvAll]
    rw [eqv_td a, eqv_tds b]
    rfl
end
theorem shaped_gd {w n : Nat} {d : PyData} (h : Gd w n d) (hn : n ≤ 64) : SeqAt.shaped d = true := by
  unfold SeqAt.shaped
  rw [h.cl, decide_eq_true (Nat.le_trans h.de hn)]
  rfl
end Mq

namespace Mq
open PySem PySem.Spec PyProof.Rows L2
/-! ### a dict beside a whole number -/
theorem dsa_eq (a : Addr) (b : Int) (u : Tok) : Builtin.Dict.dictSlotArgs "__eq__" ⟨[.ref a, .int b u], []⟩ = pure (.ref a, .int b u) := by rfl
theorem isa_eq (a : Addr) (b : Int) (u : Tok) : slotArgs "__eq__" 1 ⟨[.int b u, .ref a], []⟩ = pure (.int b u, [.ref a]) := by rfl
theorem sub_id : isSubtype (Value.type "int") (Value.type "dict") = pure false := by rfl
theorem dict_not_int (a : Addr) (b : Int) (u : Tok) : Meets (Builtin.«dict.__eq__» ⟨[.ref a, .int b u], []⟩) (fun _ R s => R (.ok (.ret .notImplemented)) s) := by
  intro prog w A R s hr
  unfold Builtin.«dict.__eq__»
  refine wpAny_bind ?_
  rw [dsa_eq]
  refine wpAny_pure ?_
  refine wpAny_bind ?_
  show wpAny _ _ (isSubtype (Value.type "int") (Value.type "dict")) _ _ _
  rw [sub_id]
  refine wpAny_pure ?_
  refine wpAny_bind (wpAny_rule ?_)
  exact wpAny_pure hr
theorem int_not_dict (a : Addr) (b : Int) (u : Tok) : Meets (Builtin.«int.__eq__» ⟨[.int b u, .ref a], []⟩) (fun _ R s => (∃ o es ep, s.heap.get? a = some o ∧ o.data = .dict es ep) ∧ R (.ok (.ret .notImplemented)) s) := by
  rintro prog w A R s ⟨⟨o, es, ep, ho, hd⟩, hr⟩
  unfold Builtin.«int.__eq__»
  refine wpAny_bind ?_
  rw [isa_eq]
  refine wpAny_pure ?_
  refine wpAny_bind (Q := _) ?_
  show wpAny _ _ (Builtin.Int.intOfSelf (.int b u)) _ _ _
  unfold Builtin.Int.intOfSelf
  refine wpAny_bind (wpAny_pure (wpAny_pure ?_))
  refine wpAny_bind ?_
  show wpAny _ _ (asInt? (.ref a)) _ _ _
  unfold asInt?
  refine wpAny_bind (wpAny_load ho ?_)
  rw [hd]
  refine wpAny_pure ?_
  refine wpAny_bind (wpAny_rule ?_)
  exact wpAny_pure hr
theorem op_eqDI {X : Cx} (hu : X.A.units < cLine) : OpR X (compareOp .Eq) (fun x y H Q => ∃ a kvs i, x = .ref a ∧ y = .int i ∧ H a = some (.dK kvs) ∧ Q (.bl false) H) := by
  intro pins s σ H x y v u Q I rx ry h
  obtain ⟨a, kvs, i, rfl, rfl, ha, q⟩ := h
  cases rx
  obtain ⟨t, rfl⟩ := ry
  have ok := I.hok a _ ha
  unfold ObjOk at ok
  obtain ⟨_, _, vs, _, dk⟩ := ok
  obtain ⟨o, es, ep, ho, hd, hcl⟩ : ∃ o es ep, s.heap.get? a = some o ∧ o.data = .dict es ep ∧ o.cls = .type "dict" := by
    obtain ⟨o, es, ep, h1, h2, h3, _⟩ := dk
    exact ⟨o, es, ep, h1, h3, h2.1⟩
  refine PySem.W.cmp_ofEq (SeqAt.rc_eq_decline_or (k := false) (Ta := "dict") (Tb := "int") ⟨o, ho, hcl⟩ (rfl : typeOf (.int i t) = _) (by decide) sub_id PySem.F.slot_dict_eq PySem.F.slot_int_eq_refl (fun Q' hq => ?_) (fun Q' hq => ?_) (fun Q' hq => ?_) (Or.inr hu) ⟨.bl false, H, I, rfl, q⟩)
  · exact call_meets PySem.F.slot_dict_eq ⟨o, ho, hcl⟩ PySem.F.entry_dict_eq (PySem.F.args_dict_eq_2 _ _) (dict_not_int a i t) hq
  · exact call_meets PySem.F.slot_int_eq_refl (rfl : typeOf (.int i t) = _) PySem.F.entry_int_eq (PySem.F.args_int_eq_2 _ _) (int_not_dict a i t) ⟨⟨o, es, ep, ho, hd⟩, hq⟩
  · exact wpAny_pure hq
theorem op_or {X : Cx} {f : Value → Value → Sem Value} {r1 r2 : R2} (h1 : OpR X f r1) (h2 : OpR X f r2) : OpR X f (fun x y H Q => r1 x y H Q ∨ r2 x y H Q) := by
  intro pins s σ H x y v u Q I rx ry h
  rcases h with h | h
  · exact h1 pins s σ H x y v u Q I rx ry h
  · exact h2 pins s σ H x y v u Q I rx ry h
end Mq

namespace Mq
open PySem PySem.Spec PyProof.Rows L2
/-! ### own objects with an `__eq__` of their own beside values of other kinds -/
section
variable {prog : Program} {w : World} {A : Around} {E : Value → Shared → Prop} {s : Shared} {K : PySem.W.Frag} {x C f : Addr} {ox : Obj} {od : Option Obj} {b tb : Value}
theorem try_own {op : Str} {Q : Value → Shared → Prop} (X : K.In s.heap) (I : PySem.W.InstAt s.heap x ox C od) (hs : PySem.W.findIn K (.ref C) op = some (some (.ref f))) (hf : PySem.W.isFn K (.ref f) = true)
    (h : wpAny (model prog w) A (call (.ref f) [.ref x, b]) (PySem.W.CmpBack Q) E s) : wpAny (model prog w) A (tryCompare (.ref x) op b) (fun r s' => ∃ v, r = some v ∧ Q v s') E s := by
  unfold tryCompare
  refine wpAny_bind (PySem.W.ifBound_K X I hs hf (wpAny_mono h (fun v s' hv => ?_) fun _ _ e => e))
  cases v <;> first | exact hv.elim | exact wpAny_pure ⟨_, rfl, hv⟩
/-- o == v, v of another kind -/
theorem rc_eqOV {T : String} {Q : Value → Shared → Prop} (hu : A.units < cLine) (X : K.In s.heap) (I : PySem.W.InstAt s.heap x ox C od) (hT : s.TypeIs b T) (hsub : PySem.W.subIn K (.type T) (.ref C) = some false)
    (hs : PySem.W.findIn K (.ref C) "__eq__" = some (some (.ref f))) (hf : PySem.W.isFn K (.ref f) = true)
    (h : wpAny (model prog w) A (call (.ref f) [.ref x, b]) (PySem.W.CmpBack Q) E s) : wpAny (model prog w) A (richCompare .Eq (.ref x) b) Q E s := by
  have one := try_own X I hs hf h
  simp only [richCompare, cmpInfo_Eq, oneThing_ref]
  refine wpAny_holding (wpAny_bind (wpAny_cRoomFor hu ?_))
  refine wpAny_bind (I.type.here ?_)
  refine wpAny_bind (wpAny_typeOf hT ?_)
  split
  · refine wpAny_bind ((PySem.W.looks_subIn X hsub).here ?_)
    simp only [Bool.false_eq_true, if_false, Bool.not_false, if_true]
    refine wpAny_bind (wpAny_mono one (fun r s' z => ?_) fun _ _ e => e)
    obtain ⟨v, rfl, hq⟩ := z
    exact wpAny_pure hq
  · rename_i q
    exact absurd (by simp) q
/-- v == o, v of another kind, whose own == declines -/
theorem rc_eqVO {T id : String} {Q : Value → Shared → Prop} (hu : A.units < cLine) (X : K.In s.heap) (I : PySem.W.InstAt s.heap x ox C od) (hT : s.TypeIs b T) (hsub : PySem.W.subIn K (.ref C) (.type T) = some false)
    (sl : Slot T "__eq__" id) (hc : ∀ Q' : Value → Shared → Prop, Q' .notImplemented s → wpAny (model prog w) A (call (.builtin id) [b, .ref x]) Q' E s)
    (hs : PySem.W.findIn K (.ref C) "__eq__" = some (some (.ref f))) (hf : PySem.W.isFn K (.ref f) = true)
    (h : wpAny (model prog w) A (call (.ref f) [.ref x, b]) (PySem.W.CmpBack Q) E s) : wpAny (model prog w) A (richCompare .Eq b (.ref x)) Q E s := by
  have one := try_own X I hs hf h
  have two : wpAny (model prog w) A (tryCompare b "__eq__" (.ref x)) (fun r s' => r = none ∧ s' = s) E s := wpAny_tryCompare_declines hT sl (hc _ ⟨rfl, rfl, rfl⟩)
  simp only [richCompare, cmpInfo_Eq, hT.oneThing_none]
  refine wpAny_holding (wpAny_bind (wpAny_cRoomFor hu ?_))
  refine wpAny_bind (wpAny_typeOf hT ?_)
  refine wpAny_bind (I.type.here ?_)
  split
  · refine wpAny_bind ((PySem.W.looks_subIn X hsub).here ?_)
    simp only [Bool.false_eq_true, if_false, Bool.not_false, if_true]
    refine wpAny_bind (m := tryCompare b _ (.ref x)) (wpAny_mono two (fun r s1 z => ?_) fun _ _ e => e)
    obtain ⟨z1, z2⟩ := z
    subst z1
    subst z2
    refine wpAny_bind (m := tryCompare (.ref x) _ b) (wpAny_mono one (fun r s' z => ?_) fun _ _ e => e)
    obtain ⟨v, rfl, hq⟩ := z
    exact wpAny_pure hq
  · rename_i q
    exact absurd (by simp) q
/-! != by the class's own == -/
theorem entry_neO {Q : Fin → Shared → Prop} (hu : A.units < cLine) (X : K.In s.heap) (I : PySem.W.InstAt s.heap x ox C od) (hs : PySem.W.findIn K (.ref C) "__eq__" = some (some (.ref f))) (hf : PySem.W.isFn K (.ref f) = true)
    (h : wpAny (model prog w) A (call (.ref f) [.ref x, b]) (fun v s' => ∃ r : Bool, v = .bool r ∧ Q (.done (.ret (.bool (!r)))) s') E s) :
    wpAny (model prog w) A (Builtin.«object.__ne__» ⟨[.ref x, b], []⟩) Q E s := by
  unfold Builtin.«object.__ne__»
  refine wpAny_bind ?_
  rw [show slotArgs "__ne__" 1 ⟨[.ref x, b], []⟩ = pure (.ref x, [b]) by rfl]
  refine wpAny_pure ?_
  refine wpAny_bind (wpAny_cRoomFor hu ?_)
  refine wpAny_bind (PySem.W.ifBound_K X I hs hf (wpAny_mono h (fun v s' hv => ?_) fun _ _ e => e))
  obtain ⟨r, rfl, q⟩ := hv
  exact wpAny_bind (wpAny_truthy_bool (wpAny_pure q))
theorem ifBound_objNe {M : Model} {args : List Value} {Q : Option Value → Shared → Prop} (X : K.In s.heap) (I : PySem.W.InstAt s.heap x ox C od) (hs : PySem.W.findIn K (.ref C) "__ne__" = some (some (.builtin "object.__ne__")))
    (h : wpAny M A (call (.builtin "object.__ne__") (.ref x :: args)) (fun v => Q (some v)) E s) : wpAny M A (callSpecialIfBound? (.ref x) "__ne__" args) Q E s := by
  simp only [callSpecialIfBound?, bindSpecialIfBound?]
  refine wpAny_holding (wpAny_bind (wpAny_bind (wpAny_bind (I.type.here ((PySem.W.looks_findIn X hs).here ?_)))))
  refine wpAny_bind (wpAny_askSetting (wpAny_ite ?_))
  have fin : wpAny M A (call (.builtin "object.__ne__") ([.ref x] ++ args) >>= fun v => pure (some v)) Q E s := wpAny_bind (wpAny_mono h (fun v s' h' => wpAny_pure h') fun _ _ h' => h')
  split
  · exact wpAny_bind (wpAny_of_eq (F.cmp_object.ne.bind _) (wpAny_pure (by exact fin)))
  · exact wpAny_tryCatch (wpAny_bind (wpAny_of_eq (F.cmp_object.ne.bind _) (wpAny_pure (by exact fin))))
/-- o != v -/
theorem rc_neO {Q : Value → Shared → Prop} (hu : A.units + 1 < cLine) (X : K.In s.heap) (I : PySem.W.InstAt s.heap x ox C od) (ht : ∀ Q : Value → Shared → Prop, Q tb s → wpAny (model prog w) A (typeOf b) Q E s)
    (hn : tb = .ref C ∨ PySem.W.subIn K tb (.ref C) = some false) (hm : PySem.W.mroIn K C (.type "object") = some true) (hne : PySem.W.findIn K (.ref C) "__ne__" = some (some (.builtin "object.__ne__")))
    (hs : PySem.W.findIn K (.ref C) "__eq__" = some (some (.ref f))) (hf : PySem.W.isFn K (.ref f) = true)
    (h : wpAny (model prog w) A.in1 (call (.ref f) [.ref x, b]) (fun v s' => ∃ r : Bool, v = .bool r ∧ Q (.bool (!r)) s') E s) : wpAny (model prog w) A (richCompare .NotEq (.ref x) b) Q E s := by
  have hu0 : A.units < cLine := Nat.lt_of_succ_lt hu
  have one : wpAny (model prog w) A (tryCompare (.ref x) "__ne__" b) (fun r s' => ∃ v, r = some v ∧ Q v s') E s := by
    unfold tryCompare
    refine wpAny_bind (ifBound_objNe X I hne (wpAny_call (codeAny_call_builtin F.cmp_object.ne.plain F.cmpEntry_ne (PySem.W.check_slot F.cmpKind_ne F.cmpSplit_ne (I.type.andThen (PySem.W.looks_mroIn X hm)) (F.cmpArgs_ne _ _)
      (entry_neO (A := A.in1) hu X I hs hf (wpAny_mono h (fun v s' hv => ?_) fun _ _ e => e))))))
    obtain ⟨r, rfl, q⟩ := hv
    exact ⟨r, rfl, wpAny_pure ⟨_, rfl, q⟩⟩
  simp only [richCompare, cmpInfo_NotEq, oneThing_ref]
  refine wpAny_holding (wpAny_bind (wpAny_cRoomFor hu0 ?_))
  refine wpAny_bind (I.type.here (wpAny_bind (ht _ ?_)))
  split
  · rename_i q
    have e : PySem.W.subIn K tb (.ref C) = some false := by
      rcases hn with e | e
      · rw [e] at q
        simp at q
      · exact e
    refine wpAny_bind ((PySem.W.looks_subIn X e).here ?_)
    simp only [Bool.false_eq_true, if_false]
    refine wpAny_bind (wpAny_mono one (fun r s' z => ?_) fun _ _ e => e)
    obtain ⟨v, rfl, hq⟩ := z
    exact wpAny_pure hq
  · refine wpAny_bind (wpAny_pure ?_)
    simp only [Bool.false_eq_true, if_false]
    refine wpAny_bind (wpAny_mono one (fun r s' z => ?_) fun _ _ e => e)
    obtain ⟨v, rfl, hq⟩ := z
    exact wpAny_pure hq
/-! the other kinds decline -/
theorem sub_of (X : K.In s.heap) (I : PySem.W.InstAt s.heap x ox C od) {T : String} (hsub : PySem.W.subIn K (.ref C) (.type T) = some false) {Q : Bool → Shared → Prop} (q : Q false s) : wpAny (model prog w) A (isInstance (.ref x) (.type T)) Q E s := by
  unfold isInstance
  exact wpAny_bind (I.type.here ((PySem.W.looks_subIn X hsub).here q))
theorem int_no (i : Int) (u : Tok) (I : PySem.W.InstAt s.heap x ox C od) (hd : ∀ p, ox.data ≠ .prim p) {R : Fin → Shared → Prop} (q : R (.done (.ret .notImplemented)) s) :
    wpAny (model prog w) A (Builtin.«int.__eq__» ⟨[.int i u, .ref x], []⟩) R E s := by
  unfold Builtin.«int.__eq__»
  refine wpAny_bind ?_
  rw [show slotArgs "__eq__" 1 ⟨[.int i u, .ref x], []⟩ = pure (.int i u, [.ref x]) by rfl]
  refine wpAny_pure ?_
  refine wpAny_bind (Q := _) ?_
  show wpAny _ _ (Builtin.Int.intOfSelf (.int i u)) _ _ _
  unfold Builtin.Int.intOfSelf
  refine wpAny_bind (wpAny_pure (wpAny_pure ?_))
  refine wpAny_bind ?_
  show wpAny _ _ (asInt? (.ref x)) _ _ _
  unfold asInt?
  refine wpAny_bind (wpAny_load I.at_ ?_)
  split
  · rename_i h
    exact (hd _ h).elim
  · refine wpAny_pure ?_
    refine wpAny_bind (wpAny_rule ?_)
    exact wpAny_pure q
theorem str_no (y : Str) (u : Tok) (I : PySem.W.InstAt s.heap x ox C od) (hd : ∀ p, ox.data ≠ .prim p) {R : Fin → Shared → Prop} (q : R (.done (.ret .notImplemented)) s) :
    wpAny (model prog w) A (Builtin.«str.__eq__» ⟨[.str y u, .ref x], []⟩) R E s := by
  unfold Builtin.«str.__eq__» Builtin.Str.strCompare
  refine wpAny_bind ?_
  rw [show Builtin.Str.strSlot "__eq__" 1 ⟨[.str y u, .ref x], []⟩ = pure (.str y u, y, [.ref x]) by rfl]
  refine wpAny_pure ?_
  refine wpAny_bind ?_
  show wpAny _ _ (asStr? (.ref x)) _ _ _
  unfold asStr?
  refine wpAny_bind (wpAny_load I.at_ ?_)
  split
  · rename_i h
    exact (hd _ h).elim
  · refine wpAny_pure ?_
    refine wpAny_bind (wpAny_rule ?_)
    exact wpAny_pure q
theorem tup_no (a : Addr) (X : K.In s.heap) (I : PySem.W.InstAt s.heap x ox C od) (hsub : PySem.W.subIn K (.ref C) (.type "tuple") = some false) {R : Fin → Shared → Prop} (q : R (.done (.ret .notImplemented)) s) :
    wpAny (model prog w) A (Builtin.«tuple.__eq__» ⟨[.ref a, .ref x], []⟩) R E s := by
  unfold Builtin.«tuple.__eq__»
  refine wpAny_bind ?_
  rw [show slotArgs "__eq__" 1 ⟨[.ref a, .ref x], []⟩ = pure (.ref a, [.ref x]) by rfl]
  refine wpAny_pure ?_
  refine wpAny_bind (sub_of X I hsub ?_)
  exact wpAny_pure q
theorem lst_no (a : Addr) (X : K.In s.heap) (I : PySem.W.InstAt s.heap x ox C od) (hsub : PySem.W.subIn K (.ref C) (.type "list") = some false) {R : Fin → Shared → Prop} (q : R (.done (.ret .notImplemented)) s) :
    wpAny (model prog w) A (Builtin.«list.__eq__» ⟨[.ref a, .ref x], []⟩) R E s := by
  unfold Builtin.«list.__eq__»
  refine wpAny_bind ?_
  rw [show slotArgs "__eq__" 1 ⟨[.ref a, .ref x], []⟩ = pure (.ref a, [.ref x]) by rfl]
  refine wpAny_pure ?_
  refine wpAny_bind (sub_of X I hsub ?_)
  exact wpAny_pure q
theorem dct_no (a : Addr) (X : K.In s.heap) (I : PySem.W.InstAt s.heap x ox C od) (hsub : PySem.W.subIn K (.ref C) (.type "dict") = some false) {R : Fin → Shared → Prop} (q : R (.done (.ret .notImplemented)) s) :
    wpAny (model prog w) A (Builtin.«dict.__eq__» ⟨[.ref a, .ref x], []⟩) R E s := by
  unfold Builtin.«dict.__eq__»
  refine wpAny_bind ?_
  rw [show Builtin.Dict.dictSlotArgs "__eq__" ⟨[.ref a, .ref x], []⟩ = pure (.ref a, .ref x) by rfl]
  refine wpAny_pure ?_
  refine wpAny_bind (sub_of X I hsub ?_)
  refine wpAny_bind (wpAny_rule ?_)
  exact wpAny_pure q
end
/-- a builtin's body, called by its slot -/
theorem call_slot {prog : Program} {w : World} {A : Around} {E : Value → Shared → Prop} {s : Shared} {T : String} {name : Str} {id : String} {B : Builtin} {self : Value} {rest : List Value} {Q : Value → Shared → Prop} (slot : Slot T name id) (hT : s.TypeIs self T)
    (entry : entryFor table id = some B) (args : argsOk id ⟨self :: rest, []⟩)
    (h : wpAny (model prog w) A.in1 (B ⟨self :: rest, []⟩) (GQ.FinOf prog w A (wants Q E)) (fun e s' => wants Q E (.error e) s') s) :
    wpAny (model prog w) A (call (.builtin id) (self :: rest)) Q E s := GQ.call_here slot hT entry args h
/-! ### the rules -/
/-- kinds that own objects are held beside -/
inductive KindV (K : PySem.W.Frag) (H : Hp) : V → String → Prop
  | non : KindV K H .non "NoneType"
  | int (i : Int) : KindV K H (.int i) "int"
  | str (y : Str) : KindV K H (.str y) "str"
  | lst {a : Addr} {xs : List V} : SqL K H a xs → KindV K H (.ref a) "list"
  | tup {a : Addr} {xs : List V} : SqT K H a xs → KindV K H (.ref a) "tuple"
  | dct {a : Addr} {kvs : List (Key × V)} : H a = some (.dK kvs) → KindV K H (.ref a) "dict"
def kinds6 : List String := ["NoneType", "int", "str", "list", "tuple", "dict"]
def isTy : Value → Bool
  | .type _ => true
  | _ => false
def tysOnly (T : String) : Bool := (fastBuiltinMro T).any fun l => l.all isTy
theorem sub_kind {K : PySem.W.Frag} {C : Addr} : ∀ T ∈ kinds6, PySem.W.subIn K (.type T) (.ref C) = some false := by
  intro T hT
  have h : kinds6.all tysOnly = true := by decide +kernel
  have h2 := List.all_eq_true.mp h T hT
  unfold tysOnly at h2
  show (fastBuiltinMro T).map (·.contains (.ref C)) = some false
  cases e : fastBuiltinMro T with
  | none =>
    rw [e] at h2
    cases h2
  | some l =>
    rw [e] at h2
    have h3 : l.all isTy = true := h2
    show some (l.contains (.ref C)) = some false
    congr 1
    rw [Bool.eq_false_iff]
    intro hc
    have hm : Value.ref C ∈ l := by simpa using hc
    have := List.all_eq_true.mp h3 _ hm
    cases this
theorem KindV.mem {K : PySem.W.Frag} {H : Hp} {y : V} {T : String} (h : KindV K H y T) : T ∈ kinds6 := by
  unfold kinds6
  cases h <;> simp
section
variable {X : Cx} {pins : List (Addr × Obj)} {σ : L2.St} {H : Hp} {s : Shared}
theorem KindV.ty (I : L2.Inv X pins σ H s) {y : V} {u : Value} {T : String} (h : KindV X.K H y T) (r : RelV y u) : s.TypeIs u T := by
  cases h with
  | non => cases r; exact (rfl : typeOf Value.none = pure (.type "NoneType"))
  | int i => obtain ⟨t, rfl⟩ := r; exact typeIs_int s i t
  | str z => obtain ⟨t, rfl⟩ := r; exact typeIs_str s z t
  | lst hs =>
    cases r
    obtain ⟨its, rv, ⟨o, n, ho, hc, _, hd⟩, _⟩ := I.list hs
    exact ⟨o, ho, hc⟩
  | tup hs =>
    cases r
    obtain ⟨its, rv, ⟨o, ho, hc, n, hd⟩, _⟩ := I.tuple hs
    exact ⟨o, ho, hc⟩
  | dct hs =>
    cases r
    obtain ⟨_, _, vs, _, o, es, ep, h1, h2, _⟩ := (show ObjOk X.prog X.w H s.heap _ (.dK _) from I.hok _ _ hs)
    exact ⟨o, h1, h2.1⟩
end
/-- what the class says -/
structure OwnEq (K : PySem.W.Frag) (C : Addr) : Prop where
  sub : ∀ T ∈ kinds6, PySem.W.subIn K (.ref C) (.type T) = some false
  ne : PySem.W.findIn K (.ref C) "__ne__" = some (some (.builtin "object.__ne__"))
  mo : PySem.W.mroIn K C (.type "object") = some true
def rOV (K : PySem.W.Frag) (C : Addr) (sp : Sp) (E : XK) : R2 := fun x y H Q => ∃ a dx fs T, x = .ref a ∧ H a = some (.ins C dx fs) ∧ KindV K H y T ∧ sp [.ref a, y] H (fun v H' => ∃ r : Bool, v = .bl r ∧ Q (.bl r) H') E
def rOO (C : Addr) (sp : Sp) (E : XK) : R2 := fun x y H Q => ∃ a b dx dy fs gs, x = .ref a ∧ y = .ref b ∧ H a = some (.ins C dx fs) ∧ H b = some (.ins C dy gs) ∧ sp [.ref a, .ref b] H (fun v H' => ∃ r : Bool, v = .bl r ∧ Q (.bl (!r)) H') E
section
variable {X : Cx} {CX : CXT} {k : Nat} {f C : Addr} {fd : FuncData} {ps : List Str} {sp : Sp} {E : XK}
theorem run_eq {A : Around} {pins : List (Addr × Obj)} {σ : L2.St} {H : Hp} {s : Shared} {v u : Value} {x y : V} {Q : Value → Shared → Prop} {P : Bool → Hp → Prop}
    (F : FnOk X.prog X.w X.K X.mg X.base CX k f fd ps sp) (hr : Room k A) (e0 : Env0 X.prog X.w X.K X.mg X.base A X.stack s H) (hb : Binds X.K fd ps []) (hx : Passes CX X E) (I : L2.Inv X pins σ H s) (rx : RelV x v) (ry : RelV y u)
    (q : sp [x, y] H (fun v H' => ∃ r : Bool, v = .bl r ∧ P r H') E) (hq : ∀ (r : Bool) s' H', L2.Inv X pins σ H' s' → P r H' → Q (.bool r) s') :
    wpAny (model X.prog X.w) A (call (.ref f) [v, u]) Q X.xe s := by
  have rv : Vals [x, y] [v, u] := .cons rx (.cons ry .nil)
  have hl : [v, u].length = ps.length := F.len _ _ _ _ q
  have bd := hb s [v, u] I.kIn (by rw [List.append_nil]; exact hl)
  rw [List.append_nil] at bd
  refine wpAny_call (codeAny_mono (F.run A X.stack s H ⟨[v, u], []⟩ [v, u] [x, y] _ E hr e0 bd rv q) (fun r s' hr' => ?_))
  match r, hr' with
  | .error er, hr' => exact hx pins σ H s er s' I hr'
  | .ok (.ret z), hr' =>
    obtain ⟨v', H', I', rv', r, rfl, q'⟩ := I.after hr'
    cases rv'
    exact hq r s' H' I' q'
  | .ok .next, hr' => exact hr'.elim
  | .ok .brk, hr' => exact hr'.elim
  | .ok .cont, hr' => exact hr'.elim
/-- o == v -/
theorem op_eqOV (hm : Meth X.K C "__eq__" f) (F : FnOk X.prog X.w X.K X.mg X.base CX k f fd ps sp) (hr : Room k X.A) (hb : Binds X.K fd ps []) (hx : Passes CX X E) : OpR X (compareOp .Eq) (rOV X.K C sp E) := by
  intro pins s σ H x y v u Q I rx ry h
  obtain ⟨a, dx, fs, T, rfl, ea, kd, q⟩ := h
  cases rx
  obtain ⟨o, J⟩ := inst_of I ea
  refine PySem.W.cmp_ofEq (rc_eqOV (by have := hr.un; omega) I.kIn J (kd.ty I ry) (sub_kind _ kd.mem) hm.at_ hm.fn ?_)
  exact run_eq (x := .ref a) (v := .ref a) F hr I.env0 hb hx I rfl ry q fun r s' H' I' q' => ⟨.bl r, H', I', rfl, q'⟩
/-- v == o -/
theorem op_eqVO (W : OwnEq X.K C) (hm : Meth X.K C "__eq__" f) (F : FnOk X.prog X.w X.K X.mg X.base CX k f fd ps sp) (hr : Room k X.A) (hb : Binds X.K fd ps []) (hx : Passes CX X E) : OpR X (compareOp .Eq) (fun y x H Q => rOV X.K C sp E x y H Q) := by
  intro pins s σ H y x u v Q I ry rx h
  obtain ⟨a, dx, fs, T, rfl, ea, kd, q⟩ := h
  cases rx
  obtain ⟨o, J⟩ := inst_of I ea
  have hd : ∀ p, (PySem.W.instObj C dx).data ≠ .prim p := fun p z => by cases z
  have fin := run_eq (x := .ref a) (v := .ref a) (Q := PySem.W.CmpBack (EP X pins σ Q)) F hr I.env0 hb hx I rfl ry q fun r s' H' I' q' => ⟨.bl r, H', I', rfl, q'⟩
  have hu : X.A.units < cLine := by have := hr.un; omega
  have hT := kd.ty I ry
  have hsub := W.sub _ kd.mem
  refine PySem.W.cmp_ofEq ?_
  cases kd with
  | non =>
    cases ry
    exact rc_eqVO hu I.kIn J hT hsub PySem.F.slot_NoneType_eq (fun Q' q => call_gives PySem.F.slot_NoneType_eq rfl PySem.F.entry_NoneType_eq (PySem.F.args_NoneType_eq_2 _ _) (SeqAt.NoneType___eq___none_ref_0 a) q) hm.at_ hm.fn fin
  | int i =>
    obtain ⟨t, rfl⟩ := ry
    exact rc_eqVO hu I.kIn J hT hsub PySem.F.slot_int_eq (fun Q' q => call_slot PySem.F.slot_int_eq hT PySem.F.entry_int_eq (PySem.F.args_int_eq_2 _ _) (int_no i t J hd q)) hm.at_ hm.fn fin
  | str z =>
    obtain ⟨t, rfl⟩ := ry
    exact rc_eqVO hu I.kIn J hT hsub PySem.F.slot_str_eq (fun Q' q => call_slot PySem.F.slot_str_eq hT PySem.F.entry_str_eq (PySem.F.args_str_eq_2 _ _) (str_no z t J hd q)) hm.at_ hm.fn fin
  | lst hs =>
    cases ry
    exact rc_eqVO hu I.kIn J hT hsub PySem.F.slot_list_eq (fun Q' q => call_slot PySem.F.slot_list_eq hT PySem.F.entry_list_eq (PySem.F.args_list_eq_2 _ _) (lst_no _ I.kIn J hsub q)) hm.at_ hm.fn fin
  | tup hs =>
    cases ry
    exact rc_eqVO hu I.kIn J hT hsub PySem.F.slot_tuple_eq (fun Q' q => call_slot PySem.F.slot_tuple_eq hT PySem.F.entry_tuple_eq (PySem.F.args_tuple_eq_2 _ _) (tup_no _ I.kIn J hsub q)) hm.at_ hm.fn fin
  | dct hs =>
    cases ry
    exact rc_eqVO hu I.kIn J hT hsub PySem.F.slot_dict_eq (fun Q' q => call_slot PySem.F.slot_dict_eq hT PySem.F.entry_dict_eq (PySem.F.args_dict_eq_2 _ _) (dct_no _ I.kIn J hsub q)) hm.at_ hm.fn fin
/-- o != v -/
def rOVn (K : PySem.W.Frag) (C : Addr) (sp : Sp) (E : XK) : R2 := fun x y H Q => ∃ a dx fs T, x = .ref a ∧ H a = some (.ins C dx fs) ∧ KindV K H y T ∧ sp [.ref a, y] H (fun v H' => ∃ r : Bool, v = .bl r ∧ Q (.bl (!r)) H') E
theorem op_neOV (W : OwnEq X.K C) (hm : Meth X.K C "__eq__" f) (F : FnOk X.prog X.w X.K X.mg X.base CX k f fd ps sp) (hr : Room (k + 1) X.A) (hb : Binds X.K fd ps []) (hx : Passes CX X E) : OpR X (compareOp .NotEq) (rOVn X.K C sp E) := by
  intro pins s σ H x y v u Q I rx ry h
  obtain ⟨a, dx, fs, T, rfl, ea, kd, q⟩ := h
  cases rx
  obtain ⟨o, J⟩ := inst_of I ea
  have hT := kd.ty I ry
  refine PySem.W.cmp_ofNotEq (rc_neO (by have := hr.un; omega) I.kIn J (fun Q q => wpAny_typeOf hT q) (Or.inr (sub_kind _ kd.mem)) W.mo W.ne hm.at_ hm.fn ?_)
  exact run_eq (x := .ref a) (v := .ref a) F hr.in1 I.env0.in1 hb hx I rfl ry q fun r s' H' I' q' => ⟨r, rfl, .bl (!r), H', I', rfl, q'⟩
/-- o != p, both of one class -/
theorem op_neOO (W : OwnEq X.K C) (hm : Meth X.K C "__eq__" f) (F : FnOk X.prog X.w X.K X.mg X.base CX k f fd ps sp) (hr : Room (k + 1) X.A) (hb : Binds X.K fd ps []) (hx : Passes CX X E) : OpR X (compareOp .NotEq) (rOO C sp E) := by
  intro pins s σ H x y v u Q I rx ry h
  obtain ⟨a, b, dx, dy, fs, gs, rfl, rfl, ea, eb, q⟩ := h
  cases rx
  cases ry
  obtain ⟨o, J⟩ := inst_of I ea
  obtain ⟨o2, J2⟩ := inst_of I eb
  refine PySem.W.cmp_ofNotEq (rc_neO (tb := .ref C) (by have := hr.un; omega) I.kIn J (fun Q q => J2.type.here q) (Or.inl rfl) W.mo W.ne hm.at_ hm.fn ?_)
  exact run_eq (x := .ref a) (v := .ref a) (y := .ref b) F hr.in1 I.env0.in1 hb hx I rfl rfl q fun r s' H' I' q' => ⟨r, rfl, .bl (!r), H', I', rfl, q'⟩
end
end Mq

namespace Mq
open PySem PySem.Spec PyProof.Rows L2
/-! ### a list of any things beside a list without things; two lists of unlike lengths -/
section
variable {X : Cx}
theorem op_neNil (hu : X.A.units < cLine) : OpR X (compareOp .NotEq) (fun x y H Q => ∃ a b xs, x = .ref a ∧ y = .ref b ∧ SqL X.K H a xs ∧ SqL X.K H b [] ∧ Q (.bl (!xs.isEmpty)) H) := by
  intro pins s σ H x y v u Q I rx ry h
  obtain ⟨a, b, xs, rfl, rfl, ha, hb, q⟩ := h
  cases rx
  cases ry
  obtain ⟨us, r1, p1, _⟩ := I.list ha
  obtain ⟨ws, r2, p2, _⟩ := I.list hb
  have hl := r1.length
  cases r2
  refine PySem.W.cmp_ofNotEq ?_
  cases xs with
  | nil =>
    cases r1
    refine SeqAt.RcNeAt.lists (e := fun _ => true) p1.isList p2.isList rfl hu (fun j h1 _ => absurd h1 (by simp)) X.prog X.w _ _ ?_
    exact ⟨.bl false, H, I, rfl, q⟩
  | cons x xs =>
    refine SeqAt.RcNeAt.lists_lengths p1.isList p2.isList ?_ hu X.prog X.w _ _ ⟨.bl true, H, I, rfl, q⟩
    rw [List.size_toArray, ← hl]
    simp
theorem op_eqNil (hu : X.A.units < cLine) : OpR X (compareOp .Eq) (fun x y H Q => ∃ a b xs, x = .ref a ∧ y = .ref b ∧ SqL X.K H a xs ∧ SqL X.K H b [] ∧ Q (.bl xs.isEmpty) H) := by
  intro pins s σ H x y v u Q I rx ry h
  obtain ⟨a, b, xs, rfl, rfl, ha, hb, q⟩ := h
  cases rx
  cases ry
  obtain ⟨us, r1, p1, _⟩ := I.list ha
  obtain ⟨ws, r2, p2, _⟩ := I.list hb
  have hl := r1.length
  cases r2
  refine PySem.W.cmp_ofEq ?_
  cases xs with
  | nil =>
    cases r1
    refine SeqAt.RcAt.lists (e := fun _ => true) p1.isList p2.isList rfl hu (fun j h1 _ => absurd h1 (by simp)) X.prog X.w _ _ ?_
    exact ⟨.bl true, H, I, rfl, q⟩
  | cons x xs =>
    refine SeqAt.RcAt.lists_lengths p1.isList p2.isList ?_ hu X.prog X.w _ _ ⟨.bl false, H, I, rfl, q⟩
    rw [List.size_toArray, ← hl]
    simp
end
end Mq

namespace Mq
open PySem PySem.Spec PyProof.Rows L2
open SX (S)
/-! ### signs of what is shown -/
def Low (x : Str) : Prop := ∀ c ∈ x.cps.toList, c < 16 ^ 8
theorem low_of (s : String) : Low (Str.ofString s) := by
  intro c hc
  rw [Str.ofString_eq_toList] at hc
  obtain ⟨d, _, rfl⟩ := List.mem_map.mp (by simpa using hc : c ∈ s.toList.map Char.toNat)
  have h : d.toNat < 4294967296 := d.val.toBitVec.isLt
  exact Nat.lt_of_lt_of_le h (by decide)
theorem low_app {x y : Str} (hx : Low x) (hy : Low y) : Low (x ++ y) := by
  intro c hc
  have e : (x ++ y).cps.toList = x.cps.toList ++ y.cps.toList := Array.toList_append ..
  rw [e] at hc
  exact (List.mem_append.mp hc).elim (hx c) (hy c)
theorem low_join {sep : Str} (hs : Low sep) : ∀ ts : List Str, (∀ t ∈ ts, Low t) → Low (Str.join sep ts)
  | [], _ => fun c hc => by cases (by simpa [Str.join, Str.empty] using hc : False)
  | [x], h => h x List.mem_cons_self
  | x :: y :: r, h => low_app (low_app (h x List.mem_cons_self) hs) (low_join hs (y :: r) fun t ht => h t (List.mem_cons_of_mem _ ht))
theorem low_from : ∀ (ts : List Str) (k : Nat) (acc : Str), Low acc → (∀ t ∈ ts, Low t) → Low (textFrom k acc ts)
  | [], _, _, h, _ => h
  | t :: r, k, acc, h, ht => by
    refine low_from r (k + 1) _ (low_app (low_app h ?_) (ht t List.mem_cons_self)) fun u hu => ht u (List.mem_cons_of_mem _ hu)
    exact low_of _
theorem low_digits {c : Nat} : ∀ d ∈ (Nat.toDigits 16 c).map Char.toNat, d < 16 ^ 8 := by
  intro d hd
  obtain ⟨e, _, rfl⟩ := List.mem_map.mp hd
  have h : e.toNat < 4294967296 := e.val.toBitVec.isLt
  exact Nat.lt_of_lt_of_le h (by decide)
theorem low_char {q c : Nat} (hc : c < 16 ^ 8) : ∀ d ∈ Builtin.Str.reprChar q c, d < 16 ^ 8 := by
  have hx : ∀ w : Nat, ∀ d ∈ List.replicate (w - ((Nat.toDigits 16 c).map Char.toNat).length) 48 ++ (Nat.toDigits 16 c).map Char.toNat, d < 16 ^ 8 := by
    intro w d hd
    rcases List.mem_append.mp hd with h | h
    · rw [(List.mem_replicate.mp h).2]
      decide
    · exact low_digits d h
  have two : ∀ a b : Nat, a < 16 ^ 8 → b < 16 ^ 8 → ∀ d ∈ [a, b], d < 16 ^ 8 := by
    intro a b ha hb d hd
    simp only [List.mem_cons, List.not_mem_nil, or_false] at hd
    rcases hd with rfl | rfl
    · exact ha
    · exact hb
  have both : ∀ (a b : List Nat), (∀ d ∈ a, d < 16 ^ 8) → (∀ d ∈ b, d < 16 ^ 8) → ∀ d ∈ a ++ b, d < 16 ^ 8 := fun a b ha hb d hd => (List.mem_append.mp hd).elim (ha d) (hb d)
  unfold Builtin.Str.reprChar
  dsimp only
  split
  · exact two _ _ (by decide) hc
  split
  · exact two _ _ (by decide) (by decide)
  split
  · exact two _ _ (by decide) (by decide)
  split
  · exact two _ _ (by decide) (by decide)
  split
  · intro d hd
    rw [List.mem_singleton.mp hd]
    exact hc
  split
  · exact both _ _ (two _ _ (by decide) (by decide)) (hx 2)
  split
  · exact both _ _ (two _ _ (by decide) (by decide)) (hx 4)
  · exact both _ _ (two _ _ (by decide) (by decide)) (hx 8)
theorem low_fold (q : Nat) : ∀ (l : List Nat) (acc : Array Nat), (∀ c ∈ l, c < 16 ^ 8) → (∀ c ∈ acc.toList, c < 16 ^ 8) → ∀ c ∈ (l.foldl (fun out c => out ++ (Builtin.Str.reprChar q c).toArray) acc).toList, c < 16 ^ 8
  | [], acc, _, h => h
  | c :: l, acc, hl, h => by
    refine low_fold q l _ (fun d hd => hl d (List.mem_cons_of_mem _ hd)) fun d hd => ?_
    rw [Array.toList_append] at hd
    rcases List.mem_append.mp hd with hd | hd
    · exact h d hd
    · exact low_char (hl c List.mem_cons_self) d hd
theorem low_quote (x : Str) : reprQuote x < 16 ^ 8 := by
  unfold reprQuote
  split <;> decide
theorem low_repr {x : Str} (h : Low x) : Low (reprText x) := by
  intro c hc
  unfold reprText at hc
  have hc : c ∈ ((x.cps.foldl (fun out c => out ++ (Builtin.Str.reprChar (reprQuote x) c).toArray) #[reprQuote x]).push (reprQuote x)).toList := hc
  rw [Array.toList_push, ← Array.foldl_toList] at hc
  rcases List.mem_append.mp hc with hc | hc
  · refine low_fold _ _ _ h (fun d hd => ?_) c hc
    have hd : d ∈ [reprQuote x] := hd
    rw [List.mem_singleton.mp hd]
    exact low_quote x
  · rw [List.mem_singleton.mp hc]
    exact low_quote x
mutual
theorem low_shown {B : Nat} : ∀ d : PyData, d.leavesShort B = true → Low d.shown
  | .none, _ => low_of "None"
  | .bool true, _ => low_of "True"
  | .bool false, _ => low_of "False"
  | .int i, _ => low_of _
  | .str x, h => by
    have hx : ∀ c ∈ x.cps.toList, c < 16 ^ 8 := by simpa only [PyData.leavesShort, List.all_eq_true, decide_eq_true_eq] using h
    exact low_repr hx
  | .list xs, h => by
    have h1 := low_all xs (by simpa only [PyData.leavesShort] using h)
    show Low (listText (PyData.shownAll xs))
    unfold listText
    exact low_app (low_from _ 0 _ (low_of "[") h1) (low_of "]")
  | .tuple xs, h => by
    have h1 := low_all xs (by simpa only [PyData.leavesShort] using h)
    show Low (tupleText (PyData.shownAll xs))
    unfold tupleText
    exact low_app (low_app (low_of "(") (low_join (low_of ", ") _ h1)) (low_of _)
  | .dict kvs, h => by
    have h1 := low_kv kvs (by simpa only [PyData.leavesShort] using h)
    show Low (dictText (PyData.shownKv kvs))
    unfold dictText
    exact low_app (low_app (low_of "{") (low_join (low_of ", ") _ h1)) (low_of "}")
theorem low_all {B : Nat} : ∀ xs : List PyData, PyData.leavesShortAll B xs = true → ∀ t ∈ PyData.shownAll xs, Low t
  | [], _ => fun t ht => by cases ht
  | x :: xs, h => by
    have h' : x.leavesShort B = true ∧ PyData.leavesShortAll B xs = true := by simpa only [PyData.leavesShortAll, Bool.and_eq_true] using h
    have h1 := low_shown x h'.1
    have h2 := low_all xs h'.2
    intro t ht
    rcases List.mem_cons.mp (show t ∈ x.shown :: PyData.shownAll xs from ht) with rfl | ht
    · exact h1
    · exact h2 t ht
theorem low_kv {B : Nat} : ∀ kvs : List (PyData × PyData), PyData.leavesShortKv B kvs = true → ∀ t ∈ PyData.shownKv kvs, Low t
  | [], _ => fun t ht => by cases ht
  | (k, v) :: r, h => by
    have h' : (k.leavesShort B = true ∧ v.leavesShort B = true) ∧ PyData.leavesShortKv B r = true := by simpa only [PyData.leavesShortKv, Bool.and_eq_true] using h
    have h1 := low_shown k h'.1.1
    have h2 := low_shown v h'.1.2
    have h3 := low_kv r h'.2
    intro t ht
    rcases List.mem_cons.mp (show t ∈ (k.shown ++ ": " ++ v.shown) :: PyData.shownKv r from ht) with rfl | ht
    · exact low_app (low_app h1 (low_of ": ")) h2
    · exact h3 t ht
end
/-! ### bounds, dicts and long numbers among them -/
structure Gs (w n : Nat) (d : PyData) : Prop where
  sh : d.showable = true
  de : d.depth ≤ n
  we : d.weight ≤ w
  le : d.leavesShort 60 = true
def gsB (w n : Nat) (d : PyData) : Bool := d.showable && (decide (d.depth ≤ n) && (decide (d.weight ≤ w) && d.leavesShort 60))
theorem gs_of {w n : Nat} {d : PyData} (h : gsB w n d = true) : Gs w n d := by
  obtain ⟨a, h⟩ := Bool.and_eq_true_iff.mp h
  obtain ⟨b, h⟩ := Bool.and_eq_true_iff.mp h
  obtain ⟨c, e⟩ := Bool.and_eq_true_iff.mp h
  exact ⟨a, of_decide_eq_true b, of_decide_eq_true c, e⟩
theorem Gs.mono {w n w' n' : Nat} {d : PyData} (h : Gs w n d) (hw : w ≤ w') (hn : n ≤ n') : Gs w' n' d := ⟨h.sh, Nat.le_trans h.de hn, Nat.le_trans h.we hw, h.le⟩
theorem Gs.len {w n : Nat} {d : PyData} (h : Gs w n d) : d.shown.length ≤ 62 * w + 60 := by
  have h1 := PyData.shown_le 60 (by decide) d h.le
  have h2 := h.we
  omega
theorem Gs.ok {w n : Nat} {d : PyData} (h : Gs w n d) (hw : w ≤ 200000) (hn : n ≤ 40) : ShowOk d :=
  ⟨h.sh, Nat.le_trans h.de hn, by have := h.len; rw [sizeLine_eq]; omega⟩
theorem gs_str {l : List Nat} {w : Nat} (h : ∀ c ∈ l, c < 1114112) (hl : l.length ≤ w) : Gs w 0 (.str (S l)) := by
  refine ⟨rfl, Nat.le_refl 0, ?_, ?_⟩
  · show (S l).length ≤ w
    rw [SX.S_len]
    exact hl
  · show (l.toArray.toList.all fun c => decide (c < 16 ^ 8)) = true
    refine List.all_eq_true.mpr fun c hc => decide_eq_true ?_
    exact Nat.lt_of_lt_of_le (h c (by simpa using hc)) (by decide)
theorem Gs.shown {w n : Nat} {d : PyData} (h : Gs w n d) : Gs (62 * w + 60) 0 (.str d.shown) := by
  refine ⟨rfl, Nat.le_refl 0, h.len, ?_⟩
  show (d.shown.cps.toList.all fun c => decide (c < 16 ^ 8)) = true
  exact List.all_eq_true.mpr fun c hc => decide_eq_true (low_shown d h.le c hc)
theorem gs_all {w n : Nat} : ∀ {ds : List PyData}, (∀ d ∈ ds, Gs w n d) → PyData.showableAll ds = true ∧ PyData.depthAll ds ≤ n ∧ PyData.weightAll ds ≤ ds.length * (w + 1) ∧ PyData.leavesShortAll 60 ds = true
  | [], _ => ⟨rfl, Nat.zero_le _, Nat.zero_le _, rfl⟩
  | d :: ds, h => by
    obtain ⟨b, c, e, f⟩ := gs_all fun x hx => h x (List.mem_cons_of_mem _ hx)
    have g := h d List.mem_cons_self
    refine ⟨?_, ?_, ?_, ?_⟩
    · show (d.showable && PyData.showableAll ds) = true
      rw [g.sh, b]
      rfl
    · exact Nat.max_le.mpr ⟨g.de, c⟩
    · show d.weight + 1 + PyData.weightAll ds ≤ (ds.length + 1) * (w + 1)
      have := g.we
      rw [Nat.add_mul, Nat.one_mul]
      omega
    · show (d.leavesShort 60 && PyData.leavesShortAll 60 ds) = true
      rw [g.le, f]
      rfl
theorem gs_tup {w n m : Nat} {ds : List PyData} (h : ∀ d ∈ ds, Gs w n d) (hl : ds.length ≤ m) : Gs (m * (w + 1)) (n + 1) (.tuple ds) := by
  obtain ⟨b, c, e, f⟩ := gs_all h
  exact ⟨b, Nat.succ_le_succ c, Nat.le_trans e (Nat.mul_le_mul_right _ hl), f⟩
theorem gs_lst {w n m : Nat} {ds : List PyData} (h : ∀ d ∈ ds, Gs w n d) (hl : ds.length ≤ m) : Gs (m * (w + 1)) (n + 1) (.list ds) := by
  obtain ⟨b, c, e, f⟩ := gs_all h
  exact ⟨b, Nat.succ_le_succ c, Nat.le_trans e (Nat.mul_le_mul_right _ hl), f⟩
theorem gs_bool {w n : Nat} (b : Bool) : Gs w n (.bool b) := ⟨rfl, Nat.zero_le _, Nat.zero_le _, rfl⟩
/-! ### data whose lists and dicts stand at told places: it stays where these stay -/
mutual
inductive Dv (K : PySem.W.Frag) (N : Addr → Prop) (H : Hp) : V → PyData → Prop
  | non : Dv K N H .non .none
  | bl (b : Bool) : Dv K N H (.bl b) (.bool b)
  | int (i : Int) : Dv K N H (.int i) (.int i)
  | str (x : Str) : Dv K N H (.str x) (.str x)
  | lst {a : Addr} {xs : List V} {ds : List PyData} : N a → a ≠ sysModules → H a = some (.lst xs) → DvAll K N H xs ds → Dv K N H (.ref a) (.list ds)
  | tup {a : Addr} {xs : List V} {ds : List PyData} : SqT K H a xs → DvAll K N H xs ds → Dv K N H (.ref a) (.tuple ds)
  | dct {a : Addr} : N a → H a = some (.dK []) → Dv K N H (.ref a) (.dict [])
inductive DvAll (K : PySem.W.Frag) (N : Addr → Prop) (H : Hp) : List V → List PyData → Prop
  | nil : DvAll K N H [] []
  | cons {v : V} {vs : List V} {d : PyData} {ds : List PyData} : Dv K N H v d → DvAll K N H vs ds → DvAll K N H (v :: vs) (d :: ds)
end
section
variable {K : PySem.W.Frag} {N N' : Addr → Prop} {H H' : Hp}
mutual
theorem Dv.kp (e1 : ∀ a o, N a → H a = some o → H' a = some o) (e2 : ∀ a xs, SqT K H a xs → SqT K H' a xs) : ∀ {v : V} {d : PyData}, Dv K N H v d → Dv K N H' v d
  | _, _, .non => .non
  | _, _, .bl b => .bl b
  | _, _, .int i => .int i
  | _, _, .str x => .str x
  | _, _, .lst n m h a => .lst n m (e1 _ _ n h) (DvAll.kp e1 e2 a)
  | _, _, .tup h a => .tup (e2 _ _ h) (DvAll.kp e1 e2 a)
  | _, _, .dct n h => .dct n (e1 _ _ n h)
theorem DvAll.kp (e1 : ∀ a o, N a → H a = some o → H' a = some o) (e2 : ∀ a xs, SqT K H a xs → SqT K H' a xs) : ∀ {v : List V} {d : List PyData}, DvAll K N H v d → DvAll K N H' v d
  | _, _, .nil => .nil
  | _, _, .cons a b => .cons (Dv.kp e1 e2 a) (DvAll.kp e1 e2 b)
end
mutual
theorem Dv.mono (e : ∀ a, N a → N' a) : ∀ {v : V} {d : PyData}, Dv K N H v d → Dv K N' H v d
  | _, _, .non => .non
  | _, _, .bl b => .bl b
  | _, _, .int i => .int i
  | _, _, .str x => .str x
  | _, _, .lst n m h a => .lst (e _ n) m h (DvAll.mono e a)
  | _, _, .tup h a => .tup h (DvAll.mono e a)
  | _, _, .dct n h => .dct (e _ n) h
theorem DvAll.mono (e : ∀ a, N a → N' a) : ∀ {v : List V} {d : List PyData}, DvAll K N H v d → DvAll K N' H v d
  | _, _, .nil => .nil
  | _, _, .cons a b => .cons (Dv.mono e a) (DvAll.mono e b)
end
mutual
theorem Dv.dg : ∀ {v : V} {d : PyData}, Dv K N H v d → Dg K H v d
  | _, _, .non => .non
  | _, _, .bl b => .bl b
  | _, _, .int i => .int i
  | _, _, .str x => .str x
  | _, _, .lst _ m h a => .lst m (SqL.of h) (DvAll.dg a)
  | _, _, .tup h a => .tup h (DvAll.dg a)
  | _, _, .dct n h => .dct h .nil
theorem DvAll.dg : ∀ {v : List V} {d : List PyData}, DvAll K N H v d → DgAll K H v d
  | _, _, .nil => .nil
  | _, _, .cons a b => .cons (Dv.dg a) (DvAll.dg b)
end
mutual
theorem Td.dv : ∀ {v : V} {d : PyData}, Td K H v d → Dv K N H v d
  | _, _, .int i => .int i
  | _, _, .str x => .str x
  | _, _, .tup h a => .tup h (TdAll.dv a)
theorem TdAll.dv : ∀ {v : List V} {d : List PyData}, TdAll K H v d → DvAll K N H v d
  | _, _, .nil => .nil
  | _, _, .cons a b => .cons (Td.dv a) (TdAll.dv b)
end
theorem Dv.same (e : Same H H') {v : V} {d : PyData} (h : Dv K N H v d) : Dv K N H' v d := h.kp (fun a o _ z => e a o z) fun _ _ z => Same.tup e z
theorem DvAll.same (e : Same H H') {v : List V} {d : List PyData} (h : DvAll K N H v d) : DvAll K N H' v d := h.kp (fun a o _ z => e a o z) fun _ _ z => Same.tup e z
theorem DvAll.len : ∀ {vs : List V} {ds : List PyData}, DvAll K N H vs ds → vs.length = ds.length
  | _, _, .nil => rfl
  | _, _, .cons a b => congrArg (· + 1) b.len
theorem DvAll.app : ∀ {vs us : List V} {ds es : List PyData}, DvAll K N H vs ds → DvAll K N H us es → DvAll K N H (vs ++ us) (ds ++ es)
  | _, _, _, _, .nil, h => h
  | _, _, _, _, .cons a b, h => .cons a (b.app h)
theorem DvAll.at : ∀ {vs : List V} {ds : List PyData} {i : Nat} {v : V}, DvAll K N H vs ds → vs[i]? = some v → ∃ d, ds[i]? = some d ∧ Dv K N H v d
  | _, _, 0, _, .cons a b, h => ⟨_, rfl, by cases h; exact a⟩
  | _, _, i + 1, _, .cons a b, h => DvAll.at (i := i) b h
theorem DvAll.mem {vs : List V} {ds : List PyData} {v : V} (h : DvAll K N H vs ds) (hv : v ∈ vs) : ∃ d ∈ ds, Dv K N H v d := by
  obtain ⟨i, hi, e⟩ := List.getElem_of_mem hv
  obtain ⟨d, h1, h2⟩ := h.at (i := i) (by rw [List.getElem?_eq_getElem hi, e])
  exact ⟨d, List.mem_of_getElem? h1, h2⟩
end
/-! ### capital letters -/
theorem upper_low (l : List Nat) (h : ∀ c ∈ l, c < 128) : ∃ u : List Nat, Txt.upper (S l) = S u ∧ u.length = l.length ∧ ∀ c ∈ u, c < 128 := by
  have h1 : ((List.range 128).all fun c => match Unicode.upperOf c with | [d] => decide (d < 128) | _ => false) = true := by decide +kernel
  have h2 : ∀ c, c < 128 → ∃ d, Unicode.upperOf c = [d] ∧ d < 128 := by
    intro c hc
    have h3 := List.all_eq_true.mp h1 c (List.mem_range.mpr hc)
    split at h3
    · rename_i d e
      exact ⟨d, e, of_decide_eq_true h3⟩
    · cases h3
  refine ⟨l.map fun c => (Unicode.upperOf c).headD 0, ?_, List.length_map .., ?_⟩
  · have e1 : (placed (S l) fun _ c => Unicode.upperOf c).toList = l.map fun c => (Unicode.upperOf c).headD 0 := by
      unfold placed
      rw [Array.toList_flatten, Array.toList_mapIdx]
      show ((List.mapIdx (fun (_ : Nat) (c : Nat) => (Unicode.upperOf c).toArray) l).map Array.toList).flatten = _
      rw [show ((List.mapIdx (fun (_ : Nat) (c : Nat) => (Unicode.upperOf c).toArray) l).map Array.toList) = l.map Unicode.upperOf from ?_]
      · clear h1
        induction l with
        | nil => rfl
        | cons c l ih =>
          obtain ⟨d, hd, _⟩ := h2 c (h c List.mem_cons_self)
          rw [List.map_cons, List.flatten_cons, List.map_cons, ih fun x hx => h x (List.mem_cons_of_mem _ hx), hd]
          rfl
      · refine List.ext_getElem? fun i => ?_
        rw [List.getElem?_map, List.getElem?_mapIdx, List.getElem?_map, Option.map_map]
        rfl
    show Str.mk _ = Str.mk _
    exact congrArg Str.mk (Array.toList_inj.mp e1)
  · intro c hc
    obtain ⟨d, hd, rfl⟩ := List.mem_map.mp hc
    obtain ⟨e, h3, h4⟩ := h2 d (h d hd)
    rw [h3]
    exact h4
end Mq

namespace Mq
open PySem PySem.Spec PyProof.Rows L2
open SX (S)
/-! ### data in bounds: what is cut, joined, put otherwise stays in bounds -/
mutual
def lowD : PyData → Bool
  | .str x => x.cps.toList.all fun c => decide (c < 128)
  | .list xs => lowAll xs
  | .tuple xs => lowAll xs
  | .dict kvs => kvs.isEmpty
  | _ => true
def lowAll : List PyData → Bool
  | [] => true
  | d :: ds => lowD d && lowAll ds
end
structure OkD (w n : Nat) (d : PyData) : Prop where
  gs : Gs w n d
  lo : lowD d = true
structure LsOk (w n : Nat) (ds : List PyData) : Prop where
  sh : PyData.showableAll ds = true
  de : PyData.depthAll ds ≤ n
  we : PyData.weightAll ds ≤ w
  le : PyData.leavesShortAll 60 ds = true
  lo : lowAll ds = true
theorem OkD.mono {w n w' n' : Nat} {d : PyData} (h : OkD w n d) (hw : w ≤ w') (hn : n ≤ n') : OkD w' n' d := ⟨h.gs.mono hw hn, h.lo⟩
theorem LsOk.mono {w n w' n' : Nat} {d : List PyData} (h : LsOk w n d) (hw : w ≤ w') (hn : n ≤ n') : LsOk w' n' d := ⟨h.sh, Nat.le_trans h.de hn, Nat.le_trans h.we hw, h.le, h.lo⟩
theorem LsOk.tup {w n : Nat} {ds : List PyData} (h : LsOk w n ds) : OkD w (n + 1) (.tuple ds) := ⟨⟨h.sh, Nat.succ_le_succ h.de, h.we, h.le⟩, h.lo⟩
theorem LsOk.lst {w n : Nat} {ds : List PyData} (h : LsOk w n ds) : OkD w (n + 1) (.list ds) := ⟨⟨h.sh, Nat.succ_le_succ h.de, h.we, h.le⟩, h.lo⟩
theorem OkD.tup {w n : Nat} {ds : List PyData} (h : OkD w n (.tuple ds)) : ∃ m, n = m + 1 ∧ LsOk w m ds := by
  have h1 : PyData.depthAll ds + 1 ≤ n := h.gs.de
  exact ⟨n - 1, by omega, ⟨h.gs.sh, by omega, h.gs.we, h.gs.le, h.lo⟩⟩
theorem LsOk.nil {w n : Nat} : LsOk w n [] := ⟨rfl, Nat.zero_le _, Nat.zero_le _, rfl, rfl⟩
theorem LsOk.cons {w v n : Nat} {d : PyData} {ds : List PyData} (h : OkD w n d) (k : LsOk v n ds) : LsOk (w + 1 + v) n (d :: ds) := by
  refine ⟨?_, Nat.max_le.mpr ⟨h.gs.de, k.de⟩, ?_, ?_, ?_⟩
  · show (d.showable && PyData.showableAll ds) = true
    rw [h.gs.sh, k.sh]
    rfl
  · show d.weight + 1 + PyData.weightAll ds ≤ _
    have := h.gs.we
    have := k.we
    omega
  · show (d.leavesShort 60 && PyData.leavesShortAll 60 ds) = true
    rw [h.gs.le, k.le]
    rfl
  · show (lowD d && lowAll ds) = true
    rw [h.lo, k.lo]
    rfl
theorem LsOk.uncons {w n : Nat} {d : PyData} {ds : List PyData} (h : LsOk w n (d :: ds)) : OkD d.weight n d ∧ LsOk (PyData.weightAll ds) n ds ∧ d.weight + 1 + PyData.weightAll ds ≤ w := by
  have h1 : (d.showable && PyData.showableAll ds) = true := h.sh
  have h2 : max d.depth (PyData.depthAll ds) ≤ n := h.de
  have h3 : (d.leavesShort 60 && PyData.leavesShortAll 60 ds) = true := h.le
  have h4 : (lowD d && lowAll ds) = true := h.lo
  have h5 : d.weight + 1 + PyData.weightAll ds ≤ w := h.we
  rw [Bool.and_eq_true] at h1 h3 h4
  exact ⟨⟨⟨h1.1, Nat.le_trans (Nat.le_max_left _ _) h2, Nat.le_refl _, h3.1⟩, h4.1⟩, ⟨h1.2, Nat.le_trans (Nat.le_max_right _ _) h2, Nat.le_refl _, h3.2, h4.2⟩, h5⟩
theorem LsOk.mem {w n : Nat} : ∀ {ds : List PyData} {d : PyData}, LsOk w n ds → d ∈ ds → OkD w n d
  | _ :: _, _, h, hm => by
    obtain ⟨a, b, c⟩ := h.uncons
    rcases List.mem_cons.mp hm with rfl | hm
    · exact a.mono (by omega) (Nat.le_refl _)
    · exact LsOk.mem (b.mono (by omega) (Nat.le_refl _)) hm
theorem LsOk.len {w n : Nat} : ∀ {ds : List PyData}, LsOk w n ds → ds.length ≤ w
  | [], _ => Nat.zero_le _
  | d :: ds, h => by
    obtain ⟨a, b, c⟩ := h.uncons
    have := b.len
    rw [List.length_cons]
    omega
theorem LsOk.app {w v n : Nat} : ∀ {ds es : List PyData}, LsOk w n ds → LsOk v n es → LsOk (w + v) n (ds ++ es)
  | [], es, _, k => k.mono (Nat.le_add_left _ _) (Nat.le_refl _)
  | d :: ds, es, h, k => by
    obtain ⟨a, b, c⟩ := h.uncons
    exact (LsOk.cons a (b.app k)).mono (by omega) (Nat.le_refl _)
theorem weight_app : ∀ ds es : List PyData, PyData.weightAll (ds ++ es) = PyData.weightAll ds + PyData.weightAll es
  | [], es => (Nat.zero_add _).symm
  | d :: ds, es => by
    show d.weight + 1 + PyData.weightAll (ds ++ es) = d.weight + 1 + PyData.weightAll ds + PyData.weightAll es
    rw [weight_app ds es]
    omega
theorem LsOk.sub {n : Nat} : ∀ {ds es : List PyData} {w : Nat}, es.Sublist ds → LsOk w n ds → LsOk w n es
  | _, _, _, .slnil, h => h
  | _, _, _, .cons a s, h => by
    obtain ⟨_, b, c⟩ := h.uncons
    exact LsOk.sub s (b.mono (by omega) (Nat.le_refl _))
  | _, _, _, .cons₂ a s, h => by
    obtain ⟨a, b, c⟩ := h.uncons
    exact (LsOk.cons a (LsOk.sub s b)).mono (by omega) (Nat.le_refl _)
theorem LsOk.rev {n : Nat} : ∀ {ds : List PyData} {w : Nat}, LsOk w n ds → LsOk w n ds.reverse
  | [], _, h => h
  | d :: ds, w, h => by
    obtain ⟨a, b, c⟩ := h.uncons
    rw [List.reverse_cons]
    exact (b.rev.app (LsOk.cons a (LsOk.nil (w := 0)))).mono (by omega) (Nat.le_refl _)
theorem LsOk.exact {w n : Nat} {ds : List PyData} (h : LsOk w n ds) : LsOk (PyData.weightAll ds) n ds := ⟨h.sh, h.de, Nat.le_refl _, h.le, h.lo⟩
theorem OkD.exact {w n : Nat} {d : PyData} (h : OkD w n d) : OkD d.weight n d := ⟨⟨h.gs.sh, h.gs.de, Nat.le_refl _, h.gs.le⟩, h.lo⟩
theorem OkD.text {w n : Nat} {x : Str} (h : OkD w n (.str x)) : x.cps.toList.length ≤ w ∧ ∀ c ∈ x.cps.toList, c < 128 := by
  refine ⟨?_, fun c hc => ?_⟩
  · have : x.cps.size ≤ w := h.gs.we
    simpa using this
  · have h1 : (x.cps.toList.all fun c => decide (c < 128)) = true := h.lo
    exact of_decide_eq_true (List.all_eq_true.mp h1 c hc)
theorem okD_str {l : List Nat} {w : Nat} (h : ∀ c ∈ l, c < 128) (hl : l.length ≤ w) : OkD w 0 (.str (S l)) := ⟨gs_str (fun c hc => Nat.lt_trans (h c hc) (by decide)) hl, List.all_eq_true.mpr fun c hc => decide_eq_true (h c (by simpa using hc))⟩
def okB (w n : Nat) (d : PyData) : Bool := gsB w n d && lowD d
theorem okD_of {w n : Nat} {d : PyData} (h : okB w n d = true) : OkD w n d := by
  obtain ⟨a, b⟩ := Bool.and_eq_true_iff.mp h
  exact ⟨gs_of a, b⟩
theorem S_of (x : Str) : S x.cps.toList = x := by
  cases x
  rfl
theorem OkD.lay {w n : Nat} {x : Str} (h : OkD w n (.str x)) : (PyData.str x).canLay0 = true := by
  show x.cps.all (fun d => decide (d < 1114112)) = true
  rw [← Array.all_toList]
  refine List.all_eq_true.mpr fun c hc => decide_eq_true ?_
  have := h.text.2 c hc
  omega
/-! what may be shown -/
theorem OkD.ok {w n : Nat} {d : PyData} (h : OkD w n d) (hw : w ≤ 200000) (hn : n ≤ 40) : ShowOk d := h.gs.ok hw hn
/-! ### parts of a list of values -/
section
variable {K : PySem.W.Frag} {N : Addr → Prop} {H : Hp}
theorem DvAll.take : ∀ {vs : List V} {ds : List PyData} (n : Nat), DvAll K N H vs ds → DvAll K N H (vs.take n) (ds.take n)
  | _, _, 0, _ => .nil
  | _, _, _ + 1, .nil => .nil
  | _, _, n + 1, .cons a b => .cons a (b.take n)
theorem DvAll.drop : ∀ {vs : List V} {ds : List PyData} (n : Nat), DvAll K N H vs ds → DvAll K N H (vs.drop n) (ds.drop n)
  | _, _, 0, h => h
  | _, _, _ + 1, .nil => .nil
  | _, _, n + 1, .cons a b => b.drop n
theorem DvAll.rev : ∀ {vs : List V} {ds : List PyData}, DvAll K N H vs ds → DvAll K N H vs.reverse ds.reverse
  | _, _, .nil => .nil
  | _, _, .cons a b => by
    rw [List.reverse_cons, List.reverse_cons]
    exact b.rev.app (.cons a .nil)
theorem DvAll.cut {vs : List V} {ds : List PyData} (h : DvAll K N H vs ds) (lo hi : Option Int) : ∃ es, es.Sublist ds ∧ DvAll K N H (cutV vs lo hi) es := by
  unfold cutV
  exact ⟨_, (List.take_sublist _ _).trans (List.drop_sublist _ _), (h.drop _).take _⟩
theorem cut_front (xs : List V) (k : Nat) : cutV xs none (some ((k : Nat) : Int)) = xs.take k := by
  unfold cutV
  rw [HT.sIx_nat, HT.sIx_none]
  by_cases h : k ≤ xs.length
  · rw [Nat.min_eq_left h, Nat.sub_zero, List.drop_zero]
  · rw [Nat.min_eq_right (by omega), Nat.sub_zero, List.drop_zero, List.take_length, List.take_of_length_le (by omega)]
theorem cut_back (xs : List V) (k : Nat) : cutV xs (some ((k : Nat) : Int)) none = xs.drop k := by
  unfold cutV
  rw [HT.sIx_nat, HT.sIx_none]
  by_cases h : k ≤ xs.length
  · rw [Nat.min_eq_left h, List.take_of_length_le (by rw [List.length_drop]; exact Nat.le_refl _)]
  · rw [Nat.min_eq_right (by omega), List.drop_of_length_le (Nat.le_refl _), List.drop_of_length_le (by omega), List.take_nil]
end
/-- a value and its data, in bounds; its lists and dicts stand at places of N -/
def OdD (K : PySem.W.Frag) (N : Addr → Prop) (w n : Nat) (H : Hp) (v : V) : Prop := ∃ d, Dv K N H v d ∧ OkD w n d
section
variable {K : PySem.W.Frag} {N N' : Addr → Prop} {H H' : Hp} {w n w' n' : Nat} {v : V}
theorem OdD.same (h : OdD K N w n H v) (e : Same H H') : OdD K N w n H' v := let ⟨d, a, b⟩ := h; ⟨d, a.same e, b⟩
theorem OdD.mono (h : OdD K N w n H v) (e : ∀ a, N a → N' a) (hw : w ≤ w') (hn : n ≤ n') : OdD K N' w' n' H v := let ⟨d, a, b⟩ := h; ⟨d, a.mono e, b.mono hw hn⟩
end
/-! ### kinds of data -/
def sevenT : List String := ["NoneType", "bool", "int", "str", "list", "tuple", "dict"]
section
variable {K : PySem.W.Frag} {H : Hp} {v : V} {d : PyData}
theorem dg_str (h : Dg K H v d) : (∃ l, v = .str (S l) ∧ d = .str (S l)) ∨ ((∃ a, TyX K H v (.type a) ∧ a ∈ sevenT ∧ a ≠ "str") ∧ ∀ x, d ≠ .str x) := by
  cases h with
  | non => exact Or.inr ⟨⟨_, .base .non, by decide, by decide⟩, fun _ z => nomatch z⟩
  | bl b => exact Or.inr ⟨⟨_, .base (.bl b), by decide, by decide⟩, fun _ z => nomatch z⟩
  | int i => exact Or.inr ⟨⟨_, .base (.int i), by decide, by decide⟩, fun _ z => nomatch z⟩
  | str x => exact Or.inl ⟨x.cps.toList, by rw [S_of], by rw [S_of]⟩
  | lst _ hs _ => exact Or.inr ⟨⟨_, ty_list hs, by decide, by decide⟩, fun _ z => nomatch z⟩
  | tup hs _ => exact Or.inr ⟨⟨_, ty_tup hs, by decide, by decide⟩, fun _ z => nomatch z⟩
  | dct hs _ => exact Or.inr ⟨⟨_, .base (.dK hs), by decide, by decide⟩, fun _ z => nomatch z⟩
theorem dg_tup (h : Dg K H v d) : (∃ a xs ds, v = .ref a ∧ d = .tuple ds ∧ SqT K H a xs ∧ DgAll K H xs ds) ∨ ((∃ a, TyX K H v (.type a) ∧ a ∈ sevenT ∧ a ≠ "tuple") ∧ ∀ ds, d ≠ .tuple ds) := by
  cases h with
  | non => exact Or.inr ⟨⟨_, .base .non, by decide, by decide⟩, fun _ z => nomatch z⟩
  | bl b => exact Or.inr ⟨⟨_, .base (.bl b), by decide, by decide⟩, fun _ z => nomatch z⟩
  | int i => exact Or.inr ⟨⟨_, .base (.int i), by decide, by decide⟩, fun _ z => nomatch z⟩
  | str x => exact Or.inr ⟨⟨_, .base (.str x), by decide, by decide⟩, fun _ z => nomatch z⟩
  | lst _ hs _ => exact Or.inr ⟨⟨_, ty_list hs, by decide, by decide⟩, fun _ z => nomatch z⟩
  | tup hs ha => exact Or.inl ⟨_, _, _, rfl, rfl, hs, ha⟩
  | dct hs _ => exact Or.inr ⟨⟨_, .base (.dK hs), by decide, by decide⟩, fun _ z => nomatch z⟩
theorem DgAll.at : ∀ {vs : List V} {ds : List PyData} {i : Nat} {v : V}, DgAll K H vs ds → vs[i]? = some v → ∃ d, ds[i]? = some d ∧ Dg K H v d
  | _, _, 0, _, .cons a b, h => ⟨_, rfl, by cases h; exact a⟩
  | _, _, i + 1, _, .cons a b, h => DgAll.at (i := i) b h
theorem DgAll.len : ∀ {vs : List V} {ds : List PyData}, DgAll K H vs ds → vs.length = ds.length
  | _, _, .nil => rfl
  | _, _, .cons a b => congrArg (· + 1) b.len
end
end Mq

namespace Lw
open PySem PySem.Spec PyProof.Rows L2 Mq
open SX (S)
/-! ### data that are, or are not, the parts of a book -/
def letD (sg : List Nat) : PyData → Bool
  | .str x => letB sg x.cps.toList
  | _ => false
def nilD : PyData → Bool
  | .str x => decide (x.cps.toList = [])
  | _ => false
def foldD (sg : List Nat) : PyData → Bool
  | .tuple [a, b, c] => letD sg a && (letD sg b && (letD sg c || nilD c))
  | _ => false
def fdD (f : Fd) : PyData := .tuple [.str (S [f.x]), .str (S [f.y]), .str (S f.z)]
theorem letD_one {sg : List Nat} {d : PyData} (h : letD sg d = true) : ∃ c ∈ sg, d = .str (S [c]) := by
  cases d with
  | str x =>
    obtain ⟨c, e, hc⟩ := letB_one (show letB sg x.cps.toList = true from h)
    exact ⟨c, hc, by rw [← e, S_of]⟩
  | _ => cases h
theorem letD_no {sg : List Nat} {d : PyData} (h : ∀ x, d ≠ .str x) : letD sg d = false := by
  cases d with
  | str x => exact (h x rfl).elim
  | _ => rfl
theorem nilD_no {d : PyData} (h : ∀ x, d ≠ .str x) : nilD d = false := by
  cases d with
  | str x => exact (h x rfl).elim
  | _ => rfl
theorem foldD_no {sg : List Nat} {d : PyData} (h : ∀ x, d ≠ .tuple x) : foldD sg d = false := by
  cases d with
  | tuple x => exact (h x rfl).elim
  | _ => rfl
theorem foldD_len {sg : List Nat} {ds : List PyData} (h : ds.length ≠ 3) : foldD sg (.tuple ds) = false := by
  match ds, h with
  | [], _ => rfl
  | [_], _ => rfl
  | [_, _], _ => rfl
  | [_, _, _], h => exact (h rfl).elim
  | _ :: _ :: _ :: _ :: _, _ => rfl
theorem foldD_fd {sg : List Nat} {d : PyData} (h : foldD sg d = true) : ∃ f, fdOk sg f ∧ d = fdD f := by
  unfold foldD at h
  split at h
  · rename_i a b c
    obtain ⟨h1, h⟩ := Bool.and_eq_true_iff.mp h
    obtain ⟨h2, h3⟩ := Bool.and_eq_true_iff.mp h
    obtain ⟨x, hx, rfl⟩ := letD_one h1
    obtain ⟨y, hy, rfl⟩ := letD_one h2
    rcases Bool.or_eq_true_iff.mp h3 with h3 | h3
    · obtain ⟨z, hz, rfl⟩ := letD_one h3
      exact ⟨⟨x, y, [z]⟩, ⟨hx, hy, Or.inr ⟨z, hz, rfl⟩⟩, rfl⟩
    · cases c with
      | str w =>
        have e : w.cps.toList = [] := of_decide_eq_true h3
        refine ⟨⟨x, y, []⟩, ⟨hx, hy, Or.inl rfl⟩, ?_⟩
        unfold fdD
        rw [← e, S_of]
      | _ => cases h3
  · cases h
theorem fd_at {K : PySem.W.Frag} {H : Hp} {v : V} {f : Fd} (h : Dg K H v (fdD f)) : FdAt K H v f := by
  unfold fdD at h
  cases h with
  | tup hs ha =>
    cases ha with
    | cons h1 ha =>
      cases ha with
      | cons h2 ha =>
        cases ha with
        | cons h3 ha =>
          cases ha
          cases h1
          cases h2
          cases h3
          exact ⟨_, rfl, hs⟩
theorem fd_td {K : PySem.W.Frag} {H : Hp} : ∀ {xs : List V} {fs : List Fd}, FdAll K H xs fs → TdAll K H xs (fs.map fdD)
  | _, _, .nil => .nil
  | _, _, .cons ⟨_, e, h⟩ b => by
    subst e
    exact .cons (.tup h (.cons (.str _) (.cons (.str _) (.cons (.str _) .nil)))) (fd_td b)
theorem kit_noT {K : PySem.W.Frag} {a : String} (m : a ∈ sevenT) (n : a ≠ "tuple") : PySem.W.kitOne K (.type a) (.type "tuple") = some false :=
  kit_ty (by rw [kit_known a "tuple" m (by simp), decide_eq_false n])
theorem three_of {α : Type} {l : List α} (h : l.length = 3) : ∃ a b c, l = [a, b, c] := by
  match l, h with
  | [a, b, c], _ => exact ⟨a, b, c, rfl⟩
def spLetterA (K : PySem.W.Frag) : Sp := fun vs H Q _ => ∃ (sg : List Nat) (v : V) (d : PyData), vs = [.str (S sg), v] ∧ Dg K H v d ∧ d.weight ≤ 100000 ∧ Q (.bl (letD sg d)) H
def spFoldA (K : PySem.W.Frag) : Sp := fun vs H Q _ => ∃ (sg : List Nat) (v : V) (d : PyData), vs = [.str (S sg), v] ∧ Dg K H v d ∧ d.weight ≤ 100000 ∧ Q (.bl (foldD sg d)) H
section
variable {P : Program} {w : World} {K : PySem.W.Frag} {mg : Str → Option Value} {base : Heap}
theorem ok_letterA {f : Addr} {fd : FuncData} (F : Fun K "is_letter" "is_letter" s_is_letter f fd) (B : Blt mg) : FnOk P w K mg base CX0 1 f fd ["letters", "thing"] (spLetterA K) := by
  refine F.ok sc_is_letter (fun vs H Q E h => ?_) (fun cdv A outer s H vs Q E hr h => ?_)
  · obtain ⟨_, _, _, rfl, _⟩ := h
    rfl
  · obtain ⟨sg, v, d, rfl, hd, hw, q⟩ := h
    refine ⟨_, pss_one (ps_ret (pe_and (pe_callB call_isi (by rfl) B.isi (by decide +kernel) (pa_cons (pv 1) (pa_cons (pe_bltn (v := .ty "str") (by rfl) B.str (by decide +kernel) rfl) pa_nil))) (pe_and (pe_cmpR op_eq (pe_callB call_len (by rfl) B.len (by decide +kernel) (pa_cons (pv 1) pa_nil)) pe_int (nomark _)) (pe_one (pe_cmpR op_in_sign (pv 1) (pv 0) rfl))))), ?_⟩
    rcases dg_str hd with ⟨z, rfl, rfl⟩ | ⟨⟨a, t, m, n⟩, nx⟩
    · have hz : z.length ≤ 100000 := hw
      have q : Q (.bl (letB sg z)) H := q
      refine ⟨_, rfl, _, .ty "str", _, _, true, rfl, .ty _, .base (.str _), kit_self, true, rfl, iteT ⟨_, rfl, _, _, rfl, len_S hz, rfl, _, rfl, ?_⟩⟩
      clear hd hw
      match z, q with
      | [], q => exact ifF rfl q
      | [c], q =>
        refine ifT rfl ⟨_, rfl, _, rfl, c, S sg, rfl, rfl, ?_⟩
        exact q
      | a :: b :: r, q =>
        refine ifF (decide_eq_false fun e => ?_) q
        have e1 := V.int.inj e
        have e2 : ((a :: b :: r).length : Int) = 1 := e1
        rw [List.length_cons, List.length_cons] at e2
        omega
    · rw [letD_no nx] at q
      exact ⟨_, rfl, _, .ty "str", _, _, false, rfl, .ty _, t, kit_no m n, false, rfl, iteF q⟩
theorem ok_foldA {f fL : Addr} {fd fdL : FuncData} (F : Fun K "is_fold" "is_fold" s_is_fold f fd) (B : Blt mg)
    (FL : Fun K "is_letter" "is_letter" s_is_letter fL fdL) (gL : mg "is_letter" = some (.ref fL)) (bL : Binds K fdL ["letters", "thing"] []) : FnOk P w K mg base CX0 2 f fd ["letters", "thing"] (spFoldA K) := by
  have GL : FnOk P w K mg base CX0 1 fL fdL ["letters", "thing"] (spLetterA K) := ok_letterA FL B
  refine F.ok sc_is_fold (fun vs H Q E h => ?_) (fun cdv A outer s H vs Q E hr h => ?_)
  · obtain ⟨_, _, _, rfl, _⟩ := h
    rfl
  · obtain ⟨sg, v, d, rfl, hd, hw, q⟩ := h
    refine ⟨_, (pss_cons (ps_if (PW.pt (pw_or (pt_not (pt_val (pe_callB call_isi (by rfl) B.isi (by decide +kernel) (pa_cons (pv 1) (pa_cons (pe_bltn (v := .ty "tuple") (by rfl) B.tuple (by decide +kernel) rfl) pa_nil))))) (pw_or1 (pt_cmpR op_ne (pe_callB call_len_seq (by rfl) B.len (by decide +kernel) (pa_cons (pv 1) pa_nil)) pe_int (nomark _))))) (pss_one (ps_ret pe_bl)) pss_nil)
      (pss_cons (ps_if (PW.pt (pw_or (pt_not (pt_val (pe_call GL (hr.mono (by decide)) (by rfl) gL FL.kp bL .nil pass0 (pa_cons (pv 0) (pa_cons (pe_ix ix_tup (pv 1) pe_int (fun _ _ => rfl)) pa_nil))))) (pw_or1 (pt_not (pt_val (pe_call GL (hr.mono (by decide)) (by rfl) gL FL.kp bL .nil pass0 (pa_cons (pv 0) (pa_cons (pe_ix ix_tup (pv 1) pe_int (fun _ _ => rfl)) pa_nil)))))))) (pss_one (ps_ret pe_bl)) pss_nil)
      (pss_one (ps_ret (pe_or (pe_call GL (hr.mono (by decide)) (by rfl) gL FL.kp bL .nil pass0 (pa_cons (pv 0) (pa_cons (pe_ix ix_tup (pv 1) pe_int (fun _ _ => rfl)) pa_nil))) (pe_one (pe_and (pe_callB call_isi (by rfl) B.isi (by decide +kernel) (pa_cons (pe_ix ix_tup (pv 1) pe_int (fun _ _ => rfl)) (pa_cons (pe_bltn (v := .ty "str") (by rfl) B.str (by decide +kernel) rfl) pa_nil))) (pe_one (pe_cmpR op_eq (pe_ix ix_tup (pv 1) pe_int (fun _ _ => rfl)) pe_str (nomark _)))))))))), ?_⟩
    rcases dg_tup hd with ⟨p, xs, ds, rfl, rfl, hp, ha⟩ | ⟨⟨a, t, m, n⟩, nx⟩
    · refine ⟨_, rfl, _, .ty "tuple", _, _, true, rfl, .ty _, ty_tup hp, kit_ty (by decide +kernel), true, rfl, ?_⟩
      refine ifF rfl ⟨_, rfl, _, _, rfl, Or.inr hp, rfl, _, rfl, ?_⟩
      by_cases h3 : xs.length = 3
      · obtain ⟨x, y, z, rfl⟩ := three_of h3
        cases ha with
        | cons h1 ha =>
          cases ha with
          | cons h2 ha =>
            cases ha with
            | cons h3 ha =>
              cases ha
              rename_i d1 d2 d3
              have hw' : d1.weight + 1 + (d2.weight + 1 + (d3.weight + 1 + 0)) ≤ 100000 := hw
              have q : Q (.bl (letD sg d1 && (letD sg d2 && (letD sg d3 || nilD d3)))) H := q
              have a0 : atI [x, y, z] 0 = some x := atI_nat (j := 0) rfl
              have a1 : atI [x, y, z] 1 = some y := atI_nat (j := 1) rfl
              have a2 : atI [x, y, z] 2 = some z := atI_nat (j := 2) rfl
              refine ifF rfl ?_
              refine ⟨_, rfl, _, rfl, p, _, 0, _, rfl, rfl, hp, a0, sg, x, d1, rfl, h1, by omega, _, rfl, ?_⟩
              cases e1 : letD sg d1 with
              | false =>
                rw [e1] at q
                exact ifT rfl (ifT rfl q)
              | true =>
                refine ifF rfl ⟨_, rfl, _, rfl, p, _, 1, _, rfl, rfl, hp, a1, sg, y, d2, rfl, h2, by omega, _, rfl, ?_⟩
                cases e2 : letD sg d2 with
                | false =>
                  rw [e1, e2] at q
                  exact ifT rfl q
                | true =>
                  refine ifF rfl ⟨_, rfl, _, rfl, p, _, 2, _, rfl, rfl, hp, a2, sg, z, d3, rfl, h3, by omega, _, rfl, ?_⟩
                  cases e3 : letD sg d3 with
                  | true =>
                    rw [e1, e2, e3] at q
                    exact ifT rfl q
                  | false =>
                    rw [e1, e2, e3] at q
                    refine ifF rfl ?_
                    rcases dg_str h3 with ⟨l, rfl, rfl⟩ | ⟨⟨a, t, m, n⟩, nx⟩
                    · refine ⟨_, rfl, p, _, 2, _, rfl, rfl, hp, a2, _, .ty "str", _, _, true, rfl, .ty _, .base (.str _), kit_self, true, rfl, ifT rfl ⟨_, rfl, p, _, 2, _, rfl, rfl, hp, a2, rfl, ?_⟩⟩
                      rw [str_is_nil]
                      exact q
                    · rw [nilD_no nx] at q
                      exact ⟨_, rfl, p, _, 2, _, rfl, rfl, hp, a2, _, .ty "str", _, _, false, rfl, .ty _, t, kit_no m n, false, rfl, iteF q⟩
      · rw [foldD_len (by rw [← ha.len]; exact h3)] at q
        exact ifT (int_ne (m := 3) h3) q
    · rw [foldD_no nx] at q
      exact ⟨_, rfl, _, .ty "tuple", _, _, false, rfl, .ty _, t, kit_noT m n, false, rfl, ifT rfl (ifT rfl q)⟩
end
end Lw

namespace Lw
open PySem PySem.Spec PyProof.Rows L2 Mq
open SX (S)
/-! ### a book is made of right parts, or the part is told -/
inductive Wr
  | letters
  | folds
  | num (k : Nat)
def Wr.v : Wr → V
  | .letters => .str "letters"
  | .folds => .str "folds"
  | .num k => .int (k : Nat)
def Wr.d : Wr → PyData
  | .letters => .str "letters"
  | .folds => .str "folds"
  | .num k => .int (k : Nat)
def pairD : PyData → Str × Str
  | .tuple (.str a :: .str b :: _) => (a, b)
  | _ => ("", "")
def ltO : Option (Str × Str) → Str × Str → Bool
  | none, _ => true
  | some p, q => ltSS p q
def bodyD (sg : List Nat) : List PyData → Nat → Option (Str × Str) → Option Wr
  | [], _, _ => none
  | d :: ds, k, o => if (foldD sg d && ltO o (pairD d)) = true then bodyD sg ds (k + 1) (some (pairD d)) else some (.num k)
def bodyF (sg : List Nat) : PyData → Option Wr
  | .tuple ds => bodyD sg ds 0 none
  | _ => some .folds
def dueM (l f : PyData) : Option Wr :=
  match l with
  | .str x => if lettersB x.cps.toList = true then bodyF x.cps.toList f else some .letters
  | _ => some .letters
theorem due_str (sg : List Nat) (f : PyData) : dueM (.str (S sg)) f = if lettersB sg = true then bodyF sg f else some .letters := rfl
theorem due_no {l f : PyData} (h : ∀ x, l ≠ .str x) : dueM l f = some .letters := by
  cases l with
  | str x => exact (h x rfl).elim
  | _ => rfl
theorem bodyF_no {sg : List Nat} {f : PyData} (h : ∀ x, f ≠ .tuple x) : bodyF sg f = some .folds := by
  cases f with
  | tuple x => exact (h x rfl).elim
  | _ => rfl
def lastK (gs : List Fd) : Option (Str × Str) := gs.getLast?.map keyF
theorem okNext_eq (gs : List Fd) (f : Fd) : okNext gs f = ltO (lastK gs) (keyF f) := by
  unfold okNext lastK
  cases gs.getLast? <;> rfl
theorem lastK_snoc (gs : List Fd) (f : Fd) : lastK (gs ++ [f]) = some (keyF f) := by
  unfold lastK
  rw [List.getLast?_append, List.getLast?_singleton]
  rfl
/-- what stands ahead, as the program keeps it -/
def aheadG (gs : List Fd) : Str × Str := (lastK gs).getD ("", "")
theorem ahead_le (gs : List Fd) (f : Fd) : leSS (keyF f) (aheadG gs) = !ltO (lastK gs) (keyF f) := by
  unfold aheadG
  rw [le_not]
  cases lastK gs with
  | some p => rfl
  | none =>
    show (!ltSS ("", "") (keyF f)) = !true
    have e : ltSS ("", "") (keyF f) = (decide (([] : List Nat) < [f.x]) || (!decide ([f.x] < ([] : List Nat)) && (decide (([] : List Nat) < [f.y]) || (!decide ([f.y] < ([] : List Nat)) && false)))) := rfl
    rw [e, decide_eq_true (show ([] : List Nat) < [f.x] from List.nil_lt_cons _ _)]
    rfl
theorem body_step {sg : List Nat} {ds : List PyData} {i : Nat} {d : PyData} {o : Option (Str × Str)} (h : ds[i]? = some d) : bodyD sg (ds.drop i) i o = if (foldD sg d && ltO o (pairD d)) = true then bodyD sg (ds.drop (i + 1)) (i + 1) (some (pairD d)) else some (.num i) := by
  have hi : i < ds.length := by
    rcases Nat.lt_or_ge i ds.length with h2 | h2
    · exact h2
    · rw [List.getElem?_eq_none h2] at h
      cases h
  have e : ds[i] = d := by
    rw [List.getElem?_eq_getElem hi] at h
    exact Option.some.inj h
  rw [List.drop_eq_getElem_cons hi, e]
  rfl
def spBookA (K : PySem.W.Frag) (C CT : Addr) : Sp := fun vs H Q E => ∃ (r dx : Addr) (v1 v2 : V) (d1 d2 : PyData), vs = [.ref r, v1, v2] ∧ H r = some (.ins C dx []) ∧ Dg K H v1 d1 ∧ Dg K H v2 d2 ∧ d1.weight ≤ 90000 ∧ d2.weight ≤ 90000 ∧
  match dueM d1 d2 with
  | some p => ∀ H' d, Same H H' → H' d = none → E (.ref CT) (some d) (upd H' d (.xd [("part", p.v)]))
  | none => ∀ H' sg fs xs fa ta, v1 = .str (S sg) → d1 = .str (S sg) → v2 = .ref fa → d2 = .tuple (fs.map fdD) → SqT K H' fa xs → FdAll K H' xs fs → FsOk sg fs → SgOk sg → BkAt H' C r sg fs fa ta → (∀ b o, H b = some o → b ≠ r → H' b = some o) → Q .non H'
theorem weight_mem : ∀ {ds : List PyData} {d : PyData}, d ∈ ds → d.weight ≤ PyData.weightAll ds
  | e :: ds, d, h => by
    show d.weight ≤ e.weight + 1 + PyData.weightAll ds
    rcases List.mem_cons.mp h with rfl | h
    · omega
    · have := weight_mem h
      omega
theorem weight_len : ∀ ds : List PyData, ds.length ≤ PyData.weightAll ds
  | [] => Nat.zero_le _
  | e :: ds => by
    show ds.length + 1 ≤ e.weight + 1 + PyData.weightAll ds
    have := weight_len ds
    omega
section
variable {P : Program} {w : World} {K : PySem.W.Frag} {mg : Str → Option Value} {base : Heap} {C CT : Addr}
theorem ok_bookA {f fL fF fE : Addr} {fd fdL fdF : FuncData} (F : Fun K "__init__" "Book.__init__" s_Book___init__ f fd) (B : Blt mg) (R : BkC K C)
    (FL : Fun K "is_letters" "is_letters" s_is_letters fL fdL) (gL : mg "is_letters" = some (.ref fL)) (bL : Binds K fdL ["thing"] []) (GL : FnOk P w K mg base CX0 2 fL fdL ["thing"] (spLetters K))
    (FF : Fun K "is_fold" "is_fold" s_is_fold fF fdF) (gF : mg "is_fold" = some (.ref fF)) (bF : Binds K fdF ["letters", "thing"] []) (GF : FnOk P w K mg base CX0 2 fF fdF ["letters", "thing"] (spFoldA K))
    (T : MqE_part.Txt K mg "BadBook" "BadBook.__init__" CT fE) :
    FnOk P w K mg base (L2.CX P w) 3 f fd ["self", "letters", "folds"] (spBookA K C CT) := by
  refine F.okX sc_Book___init__ (fun vs H Q E h => ?_) (fun cdv A outer s H vs Q E hr h => ?_)
  · obtain ⟨_, _, _, _, _, _, rfl, _⟩ := h
    rfl
  · obtain ⟨r, dx, v1, v2, d1, d2, rfl, hr0, g1, g2, hw1, hw2, q⟩ := h
    have hu : (A.deeper (envOfC "Book.__init__" (defScope s_Book___init__) s.heap.objs.size f cdv)).units + 64 < cLine := by
      have := hr.units
      omega
    have hu0 : (A.deeper (envOfC "Book.__init__" (defScope s_Book___init__) s.heap.objs.size f cdv)).units < cLine := by omega
    have hu1 : (A.deeper (envOfC "Book.__init__" (defScope s_Book___init__) s.heap.objs.size f cdv)).units + 1 < cLine := by omega
    refine ⟨_, (pss_cons (ps_if (pt_not (pt_val (pe_call GL (hr.mono (by decide)) (by rfl) gL FL.kp bL .nil pass0 (pa_cons (pv 1) pa_nil)))) (pss_one (MqE_part.ps_raise rfl T hr (takes_of rfl rfl rfl rfl) (pa_cons pe_str pa_nil))) pss_nil)
      (pss_cons (ps_if (pt_not (pt_val (pe_callB call_isi (by rfl) B.isi (by decide +kernel) (pa_cons (pv 2) (pa_cons (pe_bltn (v := .ty "tuple") (by rfl) B.tuple (by decide +kernel) rfl) pa_nil))))) (pss_one (MqE_part.ps_raise rfl T hr (takes_of rfl rfl rfl rfl) (pa_cons pe_str pa_nil))) pss_nil)
      (pss_cons (ps_set (i := 3) sc_Book___init__.nd rfl (Or.inl rfl) pe_dnewT)
      (pss_cons (ps_set (i := 4) sc_Book___init__.nd rfl (Or.inl rfl) (pe_tup (pa_cons pe_str (pa_cons pe_str pa_nil))))
      (pss_cons (ps_for (passes_of rfl) rfl (pi_enumT (by rfl) B.enumerate (pa_cons (pv 2) pa_nil)) (pg_tup rfl (pgs_cons (pg_name (i := 5) sc_Book___init__.nd rfl (Or.inl rfl)) (pgs_cons (pg_name (i := 6) sc_Book___init__.nd rfl (Or.inl rfl)) pgs_nil)))
        (pss_cons (ps_if (PW.pt (pw_or (pt_not (pt_val (pe_call GF (hr.mono (by decide)) (by rfl) gF FF.kp bF .nil pass0 (pa_cons (pv 1) (pa_cons (pv 6) pa_nil))))) (pw_or1 (pt_cmpR (op_leSS hu0) (pe_slice sl_tup (pv 6) po_none (po_some pe_int)) (pv 4) (nomark _))))) (pss_one (MqE_part.ps_raise rfl T hr (takes_of rfl rfl rfl rfl) (pa_cons (pv 5) pa_nil))) pss_nil)
        (pss_cons (ps_set (i := 4) sc_Book___init__.nd rfl (Or.inl rfl) (pe_slice sl_tup (pv 6) po_none (po_some pe_int)))
        (pss_one (ps_dput hu1 (pv 3) (pv 4) (pe_ix ix_tup (pv 6) pe_int (fun _ _ => rfl)) rfl)))))
      (pss_cons (ps_fld (pv 0) (pv 1) rfl)
      (pss_cons (ps_fld (pv 0) (pv 2) rfl)
      (pss_one (ps_fld (pv 0) (pv 3) rfl))))))))), ?_⟩
    refine ⟨_, rfl, _, rfl, ?_⟩
    rcases dg_str g1 with ⟨sg, rfl, rfl⟩ | ⟨⟨a, t, m, n⟩, nx⟩
    rotate_left
    · rw [due_no nx] at q
      exact Or.inr ⟨⟨a, t, m, n⟩, fun H1 s1 => ⟨_, rfl, ifT rfl ⟨_, rfl, fun d hd => q H1 d s1 hd⟩⟩⟩
    have hw1 : sg.length ≤ 90000 := hw1
    rw [due_str] at q
    refine Or.inl ⟨sg, rfl, by omega, fun H1 s1 => ⟨_, rfl, ?_⟩⟩
    cases hlet : lettersB sg with
    | false =>
      rw [hlet] at q
      exact ifT rfl ⟨_, rfl, fun d hd => q H1 d s1 hd⟩
    | true =>
      rw [hlet] at q
      refine ifF rfl ?_
      rcases dg_tup g2 with ⟨fa, xs, ds, rfl, rfl, hfa, ha⟩ | ⟨⟨a, t, m, n⟩, nx⟩
      rotate_left
      · rw [if_pos rfl, bodyF_no nx] at q
        have t1 : TyX K H1 v2 (.type (kindOf d2)) := (g2.same s1).ty
        have n1 : kindOf d2 ≠ "tuple" := by
          cases d2 with
          | tuple x => exact (nx x rfl).elim
          | _ => simp [Mq.kindOf]
        exact ⟨_, rfl, _, .ty "tuple", _, _, false, rfl, .ty _, t1, kit_noT (kind_in d2) n1, false, rfl, iteT ⟨_, rfl, fun d hd => q H1 d s1 hd⟩⟩
      rw [if_pos rfl, show bodyF sg (.tuple ds) = bodyD sg ds 0 none from rfl] at q
      have hs := sg_ok hlet (by omega : sg.length ≤ 100000)
      refine ⟨_, rfl, _, .ty "tuple", _, _, true, rfl, .ty _, ty_tup (Same.tup s1 hfa), kit_ty (by decide +kernel), true, rfl, iteF ?_⟩
      refine fun ta hta => ?_
      have s2 : Same H (upd H1 ta (.dT [])) := s1.trans (same_new hta)
      have ht2 : upd H1 ta (.dT []) ta = some (.dT (tabF [])) := upd_same
      have hnta : H ta = none := s1.free hta
      generalize upd H1 ta (.dT []) = H2 at s2 ht2 ⊢
      refine ⟨sz_le (n := 2) (by decide), fun p0 hp0 => ?_⟩
      have s3 : Same H (upd H2 p0 (.tup [V.str "", V.str ""])) := s2.trans (same_new hp0)
      have ht3 := (same_new (o := HO.tup [V.str "", V.str ""]) hp0) _ _ ht2
      have hp3 : upd H2 p0 (.tup [V.str "", V.str ""]) p0 = some (.tup [V.str "", V.str ""]) := upd_same
      generalize upd H2 p0 (.tup [V.str "", V.str ""]) = H3 at s3 ht3 hp3 ⊢
      refine ⟨_, rfl, fa, xs, rfl, Same.tup s3 hfa, ?_⟩
      have hlen : xs.length = ds.length := ha.len
      have hdl : ds.length ≤ 90000 := Nat.le_trans (weight_len ds) hw2
      have gone : ∀ H', (∀ b o, H b = some o → H' b = some o ∨ False) → Same H H' := fun H' h b o e => (h b o e).elim id False.elim
      refine for_it (walk_enumT (K := K) (a := fa) (xs := xs)) (fun i σ H' => (∀ b o, H b = some o → H' b = some o) ∧ ∃ gs, gs.length = i ∧ FdAll K H' (xs.take i) gs ∧ ds.take i = gs.map fdD ∧ FsOk sg gs ∧ bodyD sg (ds.drop i) i (lastK gs) = bodyD sg ds 0 none ∧ H' ta = some (.dT (tabF gs)) ∧
          ∃ pa o5 o6, H' pa = some (.tup [.str (aheadG gs).1, .str (aheadG gs).2]) ∧ σ = [some (.ref r), some (.str (S sg)), some (.ref fa), some (.ref ta), some (.ref pa), o5, o6])
        ⟨s3, [], rfl, .nil, rfl, FsOk.nil sg, rfl, ht3, p0, _, _, hp3, rfl⟩ (fun i σ H' hi p => Same.tup p.1 hfa) ?_ ?_
      · rintro i x σ H4 H5 hi ⟨s4, gs, hgl, hga, hgd, hok, hb, ht4, pa, o5, o6, hpa, rfl⟩ ⟨T1, y1, y2, rfl, hT, rfl, hy1, hy2⟩
        cases hy1
        obtain ⟨d, hd, hdg⟩ := ha.at hy2
        have hdw : d.weight ≤ 100000 := Nat.le_trans (weight_mem (List.mem_of_getElem? hd)) (Nat.le_trans hw2 (by decide))
        rw [body_step hd] at hb
        have s5 := same_new (o := HO.tup [V.int (i : Nat), y2]) hT
        have t5 := Same.trans s4 s5
        have ht5 := s5 _ _ ht4
        have hpa5 := s5 _ _ hpa
        have hga5 := hga.kp (KpT.same s5)
        refine ⟨T1, _, rfl, Or.inl (Or.inl upd_same), rfl, _, _, rfl, _, _, rfl, rfl, ?_⟩
        generalize upd H4 T1 (.tup [V.int (i : Nat), y2]) = H5 at t5 ht5 hpa5 hga5 ⊢
        have hdg5 := hdg.same t5
        have raise : bodyD sg ds 0 none = some (.num i) → ∀ H6, Same H H6 → ∀ d, H6 d = none → E (.ref CT) (some d) (upd H6 d (.xd [("part", .int ((i : Nat) : Int))])) := by
          intro e H6 s6 d hd
          rw [e] at q
          exact q H6 d s6 hd
        refine ⟨_, rfl, _, rfl, sg, y2, d, rfl, hdg5, hdw, _, rfl, ?_⟩
        cases hf : foldD sg d with
        | false =>
          rw [hf, Bool.false_and, if_neg (by decide)] at hb
          exact ifT rfl (ifT rfl ⟨_, rfl, _, rfl, raise hb.symm H5 t5⟩)
        | true =>
          rw [hf, Bool.true_and] at hb
          refine ifF rfl ?_
          obtain ⟨g, hg, rfl⟩ := foldD_fd hf
          obtain ⟨b, rfl, hbt⟩ := fd_at hdg5
          have ek : pairD (fdD g) = keyF g := rfl
          rw [ek] at hb
          have ecut : cutV (fdV g) none (some 2) = [V.str (S [g.x]), V.str (S [g.y])] := rfl
          refine ⟨_, rfl, 2, rfl, b, _, rfl, hbt, (fun z => absurd z.2 (by show ¬ 2 = 3; decide)), fun p1 hp1 => ?_⟩
          rw [ecut]
          have s6 := same_new (o := HO.tup [V.str (S [g.x]), V.str (S [g.y])]) hp1
          refine ⟨_, rfl, p1, pa, keyF g, aheadG gs, rfl, rfl, Or.inl (Or.inl upd_same), Or.inl (Or.inl (s6 _ _ hpa5)), _, rfl, ?_⟩
          rw [ahead_le]
          have t6 := t5.trans s6
          have ht6 := s6 _ _ ht5
          have hb6 := Same.tup s6 hbt
          have hga6 := hga5.kp (KpT.same s6)
          generalize upd H5 p1 (.tup [V.str (S [g.x]), V.str (S [g.y])]) = H6 at t6 ht6 hb6 hga6 ⊢
          cases hn : ltO (lastK gs) (keyF g) with
          | false =>
            rw [hn, if_neg (by decide)] at hb
            exact ifT rfl ⟨_, rfl, _, rfl, raise hb.symm H6 t6⟩
          | true =>
            rw [hn, if_pos rfl] at hb
            refine ifF rfl ?_
            refine ⟨_, rfl, 2, rfl, b, _, rfl, hb6, (fun z => absurd z.2 (by show ¬ 2 = 3; decide)), fun p2 hp2 => ?_⟩
            rw [ecut]
            have s7 := same_new (o := HO.tup [V.str (S [g.x]), V.str (S [g.y])]) hp2
            have t7 := t6.trans s7
            have ht7 := s7 _ _ ht6
            have hb7 := Same.tup s7 hb6
            have hga7 := hga6.kp (KpT.same s7)
            have hp7 : upd H6 p2 (.tup [V.str (S [g.x]), V.str (S [g.y])]) p2 = some (.tup [V.str (S [g.x]), V.str (S [g.y])]) := upd_same
            generalize upd H6 p2 (.tup [V.str (S [g.x]), V.str (S [g.y])]) = H7 at t7 ht7 hb7 hp7 hga7 ⊢
            have hok' : FsOk sg (gs ++ [g]) := hok.snoc hg (by rw [okNext_eq]; exact hn) (by omega)
            have hlen7 : (tabF gs).length < sizeLine := by
              unfold tabF
              rw [List.length_map]
              exact sz_lt (by omega)
            have hput : putK (tabF gs) [Sum.inr (S [g.x]), Sum.inr (S [g.y])] (V.str (S g.z)) = tabF (gs ++ [g]) := by
              have hk := key_ne hok' (i := gs.length) (f := g) (by rw [List.getElem?_append_right (Nat.le_refl _), Nat.sub_self]; rfl)
              rw [List.take_left] at hk
              rw [putK_new hk]
              exact (tab_snoc _ g).symm
            refine ⟨_, rfl, b, _, 2, .str (S g.z), rfl, rfl, hb7, atI_nat (j := 2) rfl, _, rfl, _, rfl, ta, upd H7 ta (.dT (tabF (gs ++ [g]))), rfl, Or.inr ⟨tabF gs, [Sum.inr (S [g.x]), Sum.inr (S [g.y])], p2, ht7, rfl, hp7, hlen7, by rw [hput]⟩, ?_⟩
            have hne : p2 ≠ ta := by
              rintro rfl
              rw [hp7] at ht7
              cases ht7
            have kT : KpT K H7 (upd H7 ta (.dT (tabF (gs ++ [g])))) := by
              intro a zs hz
              have ne : ∀ {o : HO}, H7 a = some o → (∀ xs, o ≠ .dT xs) → upd H7 ta (.dT (tabF (gs ++ [g]))) a = some o := by
                intro o e n
                by_cases qq : a = ta
                · subst qq
                  rw [ht7] at e
                  cases e
                  exact (n _ rfl).elim
                · exact (upd_ne qq).trans e
              rcases hz with (hz | ⟨o, hz⟩) | hz
              · exact Or.inl (Or.inl (ne hz fun _ z => nomatch z))
              · exact Or.inl (Or.inr ⟨o, ne hz fun _ z => nomatch z⟩)
              · exact Or.inr hz
            refine ⟨fun b2 o2 e2 => ?_, gs ++ [g], ?_, ?_, ?_, hok', ?_, upd_same, p2, _, _, (upd_ne hne).trans ?_, rfl⟩
            · rw [upd_ne (ne_of_none e2 hnta)]
              exact t7 b2 o2 e2
            · rw [List.length_append, hgl]
              rfl
            · rw [List.take_add_one, show xs[i]? = some (V.ref b) from hy2]
              exact (hga7.snoc ⟨b, rfl, hb7⟩).kp kT
            · rw [List.take_add_one, hd, List.map_append, hgd]
              rfl
            · rw [lastK_snoc]
              exact hb
            · unfold aheadG
              rw [lastK_snoc]
              exact hp7
      · rintro σ H4 ⟨s4, gs, hgl, hga, hgd, hok, hb, ht4, pa, o5, o6, hpa, rfl⟩
        rw [List.take_length] at hga
        rw [hlen, List.take_length] at hgd
        rw [hlen, List.drop_of_length_le (Nat.le_refl _)] at hb
        have hb' : bodyD sg ds 0 none = none := hb.symm
        rw [hb'] at q
        have h4 := s4 _ _ hr0
        refine ⟨_, rfl, _, rfl, r, C, dx, [], rfl, h4, R.cls, R.nL, (by show 0 < 1000; decide), ?_⟩
        refine ⟨_, rfl, _, rfl, r, C, dx, _, rfl, upd_same, R.cls, R.nF, (by show 1 < 1000; decide), ?_⟩
        refine ⟨_, rfl, _, rfl, r, C, dx, _, rfl, upd_same, R.cls, R.nT, (by show 2 < 1000; decide), ?_⟩
        have hrt : ta ≠ r := by
          rintro rfl
          rw [hr0] at hnta
          cases hnta
        have kT : KpT K H4 (upd (upd (upd H4 r (.ins C dx (putF "letters" (.str (S sg)) []))) r (.ins C dx (putF "folds" (.ref fa) (putF "letters" (.str (S sg)) [])))) r (.ins C dx (putF "table" (.ref ta) (putF "folds" (.ref fa) (putF "letters" (.str (S sg)) []))))) := by
          intro a zs hz
          have ne : ∀ {o : HO}, H4 a = some o → (∀ c e l, o ≠ .ins c e l) → (upd (upd (upd H4 r (.ins C dx (putF "letters" (.str (S sg)) []))) r (.ins C dx (putF "folds" (.ref fa) (putF "letters" (.str (S sg)) [])))) r (.ins C dx (putF "table" (.ref ta) (putF "folds" (.ref fa) (putF "letters" (.str (S sg)) []))))) a = some o := by
            intro o e n
            by_cases qq : a = r
            · subst qq
              rw [h4] at e
              cases e
              exact (n _ _ _ rfl).elim
            · rw [upd_ne qq, upd_ne qq, upd_ne qq]
              exact e
          rcases hz with (hz | ⟨o, hz⟩) | hz
          · exact Or.inl (Or.inl (ne hz fun _ _ _ z => nomatch z))
          · exact Or.inl (Or.inr ⟨o, ne hz fun _ _ _ z => nomatch z⟩)
          · exact Or.inr hz
        refine q _ sg gs xs fa ta rfl rfl rfl (by rw [hgd]) (kT _ _ (Same.tup s4 hfa)) (hga.kp kT) hok hs ⟨⟨dx, upd_same.trans ?_⟩, (upd_ne hrt).trans ((upd_ne hrt).trans ((upd_ne hrt).trans ht4))⟩ (fun b o e hb => ?_)
        · exact congrArg (fun z => some (HO.ins C dx z)) rfl
        · rw [upd_ne hb, upd_ne hb, upd_ne hb]
          exact s4 b o e
end
end Lw

namespace Lw
open PySem PySem.Spec PyProof.Rows L2 Mq
open SX (S)
/-! ### the law's own look at letters -/
def LowL (l : List Nat) : Prop := ∀ c ∈ l, c < 128
theorem in_alpha (c : Nat) : inB c alpha = (!decide (c < 97) && !decide (122 < c)) := by
  unfold inB
  rw [Bool.eq_iff_iff]
  simp only [decide_eq_true_eq, Bool.and_eq_true, Bool.not_eq_true', decide_eq_false_iff_not]
  unfold alpha
  rw [List.mem_range'_1]
  omega
def tOut : TT := fun σ H Q => ∃ c, σ[1]? = some (some (.str (S [c]))) ∧ Q (!inB c alpha) H
def lettersD : PyData → Bool
  | .str x => lettersB x.cps.toList
  | _ => false
theorem lettersD_no {d : PyData} (h : ∀ x, d ≠ .str x) : lettersD d = false := by
  cases d with
  | str x => exact (h x rfl).elim
  | _ => rfl
def spAre (K : PySem.W.Frag) : Sp := fun vs H Q _ => ∃ (v : V) (d : PyData) (w n : Nat), vs = [v] ∧ Dg K H v d ∧ OkD w n d ∧ w ≤ 4000 ∧ ∀ H', Same H H' → Q (.bl (lettersD d)) H'
theorem few_of {α : Type} [DecidableEq α] : ∀ {l m : List α}, l.Nodup → (∀ x ∈ l, x ∈ m) → l.length ≤ m.length
  | [], _, _, _ => Nat.zero_le _
  | a :: l, m, hn, hs => by
    have h1 := hs a List.mem_cons_self
    have h2 := few_of (l := l) (m := m.erase a) (List.nodup_cons.mp hn).2 fun x hx => by
      refine (List.mem_erase_of_ne ?_).mpr (hs x (List.mem_cons_of_mem _ hx))
      rintro rfl
      exact (List.nodup_cons.mp hn).1 hx
    rw [List.length_erase_of_mem h1] at h2
    have h3 := List.length_pos_of_mem h1
    rw [List.length_cons]
    omega
section
variable {P : Program} {w : World} {K : PySem.W.Frag} {mg : Str → Option Value} {base : Heap}
theorem ok_are {f : Addr} {fd : FuncData} (F : Fun K "_law_are_letters" "_law_are_letters" s__law_are_letters f fd) (B : Blt mg) (bS : mg "sorted" = none) (bT : mg "set" = none) :
    FnOk P w K mg base CX0 1 f fd ["_law_it"] (spAre K) := by
  refine F.ok sc__law_are_letters (fun vs H Q E h => ?_) (fun cdv A outer s H vs Q E hr h => ?_)
  · obtain ⟨_, _, _, _, rfl, _⟩ := h
    rfl
  · obtain ⟨v, d, wd, nd, rfl, hd, hok, hwd, q⟩ := h
    have hu : (A.deeper (envOfC "_law_are_letters" (defScope s__law_are_letters) s.heap.objs.size f cdv)).units + 64 < cLine := by
      have := hr.units
      omega
    refine ⟨_, (pss_cons (ps_if (PW.pt (pw_or (pt_not (pt_val (pe_callB call_isi (by rfl) B.isi (by decide +kernel) (pa_cons (pv 0) (pa_cons (pe_bltn (v := .ty "str") (by rfl) B.str (by decide +kernel) rfl) pa_nil))))) (pw_or1 (pt_cmpR op_eq (pv 0) pe_str (nomark _))))) (pss_one (ps_ret pe_bl)) pss_nil)
      (pss_one (ps_ret (pe_and (pe_cmpR (op_eqD hu) (pe_lc (own := [("_law_x", 1)]) (g := gName 1) rfl sc__law_are_letters.nd (pi_str (pv 0)) (blkOk_by (own := [("_law_x", 1)]) (N := ["_law_it", "_law_x"]) (sc := defScope s__law_are_letters) (by decide +kernel)) (fun _ _ _ _ _ => pg_name (i := 1) sc__law_are_letters.nd rfl (Or.inl rfl))
        (fun _ _ _ _ _ => pts_one (PT_imp (t' := tOut) (pt_not (pt_chain op_le_str op_le_str pe_str (pv 1) pe_str)) (fun σ H Q h => by
          obtain ⟨c, h1, q⟩ := h
          rw [in_alpha] at q
          refine ⟨_, h1, S [97], S [c], rfl, rfl, _, rfl, ?_⟩
          rw [lt_sign]
          cases e : decide (c < 97) with
          | true =>
            rw [e] at q
            exact ifF rfl ⟨_, rfl, q⟩
          | false =>
            rw [e] at q
            refine ifT rfl ⟨S [c], S [122], rfl, rfl, ?_⟩
            rw [lt_sign]
            exact ⟨_, rfl, q⟩))) (fun _ _ _ _ _ => (pv 1))) (Mq.pe_ls pa_nil) (nomark _))
        (pe_one (pe_cmpR (op_eqD hu) (pe_callTy (call_listTx rfl) (by rfl) B.list (by decide +kernel) (pa_cons (pv 0) pa_nil)) (pe_callB (cr_sortTx rfl) (by rfl) bS (by decide +kernel) (pa_cons (pe_callTy (cr_setTx rfl) (by rfl) bT (by decide +kernel) (pa_cons (pv 0) pa_nil)) pa_nil)) (nomark _))))))), ?_⟩
    rcases dg_str hd with ⟨l, rfl, rfl⟩ | ⟨⟨a, t, m, n⟩, nx⟩
    rotate_left
    · rw [lettersD_no nx] at q
      exact ⟨_, rfl, _, .ty "str", _, _, false, rfl, .ty _, t, kit_no m n, false, rfl, ifT rfl (ifT rfl (q H (Same.refl H)))⟩
    have hl : l.length ≤ 4000 := Nat.le_trans hok.text.1 hwd
    have hlow : LowL l := hok.text.2
    have q : ∀ H', Same H H' → Q (.bl (lettersB l)) H' := q
    have hlz : (S l).length ≤ sizeLine := sz_le (by rw [SX.S_len]; omega)
    refine ⟨_, rfl, _, .ty "str", _, _, true, rfl, .ty _, .base (.str _), kit_self, true, rfl, ifF rfl ⟨_, rfl, rfl, _, rfl, ?_⟩⟩
    rw [str_is_nil]
    unfold lettersB at q
    cases e0 : decide (l = []) with
    | true =>
      rw [e0] at q
      exact ifT rfl (q H (Same.refl H))
    | false =>
      rw [e0] at q
      refine ifF rfl ⟨_, rfl, S l, rfl, fun L hL => ?_⟩
      refine lc_it (walk_S l) (fun i H' => Same H H' ∧ H' L = some (.lst ((((List.range i).filter fun k => !inB (l.getD k 0) alpha)).map fun k => .str (S [l.getD k 0])))) ⟨same_new hL, upd_same⟩ (fun _ _ _ _ => trivial) ?_ ?_
      · rintro i x H2 H3 hi ⟨s2, hL2⟩ ⟨rfl, rfl⟩
        refine ⟨rfl, l.getD i 0, rfl, ?_⟩
        have er : ((List.range (i + 1)).filter fun k => !inB (l.getD k 0) alpha) = ((List.range i).filter fun k => !inB (l.getD k 0) alpha) ++ (if (!inB (l.getD i 0) alpha) = true then [i] else []) := by
          rw [List.range_succ, List.filter_append]
          congr 1
          by_cases hb : (!inB (l.getD i 0) alpha) = true
          · rw [if_pos hb]
            show List.filter _ [i] = [i]
            rw [List.filter_cons, if_pos hb]
            rfl
          · rw [if_neg hb, List.filter_cons, if_neg hb]
            rfl
        have hlen : ((List.range i).filter fun k => !inB (l.getD k 0) alpha).length ≤ i := by
          have := List.length_filter_le (fun k => !inB (l.getD k 0) alpha) (List.range i)
          rw [List.length_range] at this
          exact this
        by_cases hb : (!inB (l.getD i 0) alpha) = true
        · rw [if_pos hb] at er
          refine ifT hb ?_
          refine ⟨_, rfl, _, hL2, sz_lt (by rw [List.length_map]; omega), push_same hL s2, ?_⟩
          rw [upd_same, er, List.map_append]
          rfl
        · rw [if_neg hb, List.append_nil] at er
          refine ifF (Bool.eq_false_iff.mpr hb) ?_
          refine ⟨s2, ?_⟩
          rw [er]
          exact hL2
      · rintro H2 ⟨s2, hL2⟩
        refine ⟨sz_le (n := 0) (by decide), fun p hp _ => ?_⟩
        have sp := same_new (o := HO.lst []) hp
        refine ⟨_, _, .lst (SqL.of (sp _ _ hL2)) (dp_signs (fun k => S [l.getD k 0]) _), .lst (SqL.of upd_same) .nil, shaped_signs _ _ ?_, by decide +kernel, ?_⟩
        · intro k hk
          have hk' := List.mem_range.mp (List.mem_filter.mp hk).1
          exact sign_ok (Nat.lt_trans (hlow _ (getD_mem hk')) (by decide))
        rw [eqv_nil]
        have eAll : (((List.range l.length).filter fun k => !inB (l.getD k 0) alpha)).isEmpty = allB l alpha := (all_filter l.length fun k => inB (l.getD k 0) alpha).symm
        rw [eAll]
        have s3 : Same H (upd H2 p (.lst [])) := s2.trans sp
        generalize upd H2 p (.lst []) = H3 at s3 ⊢
        cases e1 : allB l alpha with
        | false =>
          rw [e1, Bool.and_false, Bool.and_false] at q
          exact ⟨_, rfl, ifF rfl (q H3 s3)⟩
        | true =>
          rw [e1, Bool.and_true] at q
          have hal : ∀ c ∈ l, c ∈ alpha := fun c hc => by
            obtain ⟨i, hi, rfl⟩ := List.mem_iff_getElem.mp hc
            unfold allB at e1
            rw [List.all_map, List.all_eq_true] at e1
            have h4 := e1 i (List.mem_range.mpr hi)
            have h5 : l.getD i 0 ∈ alpha := of_decide_eq_true h4
            rw [List.getD_eq_getElem?_getD, List.getElem?_eq_getElem hi] at h5
            exact h5
          refine ⟨_, rfl, ifT rfl ⟨_, rfl, S l, rfl, hlz, fun pl hpl _ => ?_⟩⟩
          have sl := same_new (o := HO.lst ((S l).cps.toList.map fun c => V.str ⟨#[c]⟩)) hpl
          have s4 := s3.trans sl
          have hpl4 : upd H3 pl (.lst ((S l).cps.toList.map fun c => V.str ⟨#[c]⟩)) pl = some (.lst ((l.map fun c => S [c]).map V.str)) := by
            rw [upd_same, List.map_map]
            rfl
          generalize upd H3 pl (.lst ((S l).cps.toList.map fun c => V.str ⟨#[c]⟩)) = H4 at s4 hpl4 ⊢
          refine ⟨_, rfl, S l, rfl, ?_, fun ps l' hps hnd hls hms => ?_⟩
          · show (S l).length + 1 < 4096
            rw [SX.S_len]
            omega
          have s5 := s4.trans (same_new (o := TxO P w ps l') hps)
          have hpl5 := same_new (o := TxO P w ps l') hps _ _ hpl4
          have hms2 : ∀ k, k ∈ l' ↔ k ∈ l.map fun c => S [c] := hms
          have hls2 : l'.length ≤ 26 := by
            have := few_of (m := alpha.map fun c => S [c]) hnd fun k hk => by
              obtain ⟨c, hc, rfl⟩ := List.mem_map.mp ((hms2 k).mp hk)
              exact List.mem_map.mpr ⟨c, hal c hc, rfl⟩
            rw [List.length_map] at this
            exact this
          refine ⟨ps, l', rfl, upd_same, by omega, fun ys p6 hys hso hp6 => ?_⟩
          have s6 := s5.trans (same_new (o := HO.lst (ys.map V.str)) hp6)
          have hpl6 := same_new (o := HO.lst (ys.map V.str)) hp6 _ _ hpl5
          have hysm : ∀ k ∈ ys, k ∈ l.map fun c => S [c] := fun k hk => (hms2 k).mp (hys.mem_iff.mp hk)
          have lay : ∀ y ∈ l.map (fun c => S [c]), (PyData.str y).canLay0 = true := by
            intro y hy
            obtain ⟨c, hc, rfl⟩ := List.mem_map.mp hy
            exact sign_ok (Nat.lt_trans (hlow c hc) (by decide))
          refine ⟨_, _, .lst (SqL.of hpl6) (dp_strs _), .lst (SqL.of upd_same) (dp_strs ys), shaped_strs lay, shaped_strs (fun y hy => lay y (hysm y hy)), ?_⟩
          rw [eqv_strs, asc_set hnd hms hys hso]
          exact q _ s6
end
end Lw

namespace Lw
open PySem PySem.Spec PyProof.Rows L2 Mq
open SX (S)
/-! ### the law's own look at a fold -/
theorem one_let (sg w : List Nat) : (sg.any fun c => decide (S [c] = S w)) = letB sg w := by
  rw [Bool.eq_iff_iff, List.any_eq_true]
  constructor
  · rintro ⟨c, hc, e⟩
    have e2 := SX.S_inj (of_decide_eq_true e)
    subst e2
    exact decide_eq_true hc
  · intro h
    obtain ⟨c, rfl, hc⟩ := letB_one h
    exact ⟨c, hc, decide_eq_true rfl⟩
theorem inV_let (sg w : List Nat) : inV (.str (S w)) ((S sg).cps.toList.map fun c => V.str ⟨#[c]⟩) = letB sg w := by
  rw [← one_let]
  unfold inV
  show ((sg.toArray.toList.map fun c => V.str ⟨#[c]⟩).any fun y => eqV y (.str (S w))) = _
  rw [List.any_map, List.toList_toArray]
  congr 1
theorem flat_signs (x : Str) : (x.cps.toList.map fun c => V.str ⟨#[c]⟩).all flatV = true := by
  rw [List.all_map, List.all_eq_true]
  intro c _
  rfl
def noStrV : V → Bool
  | .str _ => false
  | _ => true
def strD : PyData → Bool
  | .str _ => true
  | _ => false
theorem dg_noStr {K : PySem.W.Frag} {H : Hp} {v : V} {d : PyData} (h : Dg K H v d) : noStrV v = !strD d := by
  cases h <;> rfl
def tNoS (K : PySem.W.Frag) : TT := fun σ H Q => ∃ v, σ[2]? = some (some v) ∧ ((∃ x, v = .str x ∧ Q false H) ∨ (NoStr K H v ∧ Q true H))
def tBadL : TT := fun σ H Q => ∃ w sg, σ[2]? = some (some (.str (S w))) ∧ σ[0]? = some (some (.str (S sg))) ∧ w.length ≤ 4000 ∧ Q (!letB sg w) H
def badW (sg : List Nat) (ws : List (List Nat)) : List (List Nat) := ws.filter fun w => !letB sg w
theorem filt_snoc {α : Type} {p : α → Bool} {ws : List α} {i : Nat} {w : α} (h : ws[i]? = some w) : (ws.take (i + 1)).filter p = (ws.take i).filter p ++ (if p w = true then [w] else []) := by
  rw [List.take_add_one, h, List.filter_append]
  congr 1
  show List.filter _ [w] = _
  rw [List.filter_cons]
  rfl
def spIsFold (K : PySem.W.Frag) : Sp := fun vs H Q _ => ∃ (sg : List Nat) (v : V) (d : PyData) (w n : Nat), vs = [.str (S sg), v] ∧ sg.length ≤ 4000 ∧ Dg K H v d ∧ OkD w n d ∧ w ≤ 4000 ∧ ∀ H', Same H H' → Q (.bl (foldD sg d)) H'
section
variable {P : Program} {w : World} {K : PySem.W.Frag} {mg : Str → Option Value} {base : Heap}
theorem ok_is_foldL {f : Addr} {fd : FuncData} (F : Fun K "_law_is_fold" "_law_is_fold" s__law_is_fold f fd) (B : Blt mg) :
    FnOk P w K mg base CX0 1 f fd ["_law_letters", "_law_it"] (spIsFold K) := by
  refine F.ok sc__law_is_fold (fun vs H Q E h => ?_) (fun cdv A outer s H vs Q E hr h => ?_)
  · obtain ⟨_, _, _, _, _, rfl, _⟩ := h
    rfl
  · obtain ⟨sg, v, d, wd, nd, rfl, hsg, hd, hok, hwd, q⟩ := h
    have hu0 : (A.deeper (envOfC "_law_is_fold" (defScope s__law_is_fold) s.heap.objs.size f cdv)).units < cLine := by
      have := hr.units
      omega
    refine ⟨_, (pss_cons (ps_if (PW.pt (pw_or (pt_not (pt_val (pe_callB call_isi (by rfl) B.isi (by decide +kernel) (pa_cons (pv 1) (pa_cons (pe_bltn (v := .ty "tuple") (by rfl) B.tuple (by decide +kernel) rfl) pa_nil))))) (pw_or (pt_cmpR op_ne (pe_callB call_len_seq (by rfl) B.len (by decide +kernel) (pa_cons (pv 1) pa_nil)) pe_int (nomark _)) (pw_or1 (pt_cmpR (op_neNil hu0) (pe_lc (own := [("_law_x", 2)]) (g := gName 2) rfl sc__law_is_fold.nd (pi_tup (pv 1)) (blkOk_by (own := [("_law_x", 2)]) (N := ["_law_letters", "_law_it", "_law_x"]) (sc := defScope s__law_is_fold) (by decide +kernel)) (fun _ _ _ _ _ => pg_name (i := 2) sc__law_is_fold.nd rfl (Or.inl rfl))
        (fun _ _ _ _ _ => pts_one (PT_imp (t' := tNoS K) (pt_not (pt_val (pe_callB call_isi (by rfl) B.isi (by decide +kernel) (pa_cons (pv 2) (pa_cons (pe_bltn (v := .ty "str") (by rfl) B.str (by decide +kernel) rfl) pa_nil))))) (fun σ H Q h => by
          obtain ⟨v, h2, h⟩ := h
          rcases h with ⟨x, rfl, q⟩ | ⟨⟨a, t, m, n⟩, q⟩
          · exact ⟨_, h2, _, .ty "str", _, _, true, rfl, .ty _, .base (.str _), kit_self, true, rfl, q⟩
          · exact ⟨_, h2, _, .ty "str", _, _, false, rfl, .ty _, t, kit_no m n, false, rfl, q⟩))) (fun _ _ _ _ _ => (pv 2))) (Mq.pe_ls pa_nil) (nomark _)))))) (pss_one (ps_ret pe_bl)) pss_nil)
      (pss_one (ps_ret (pe_and (pe_cmpR (op_eqNil hu0) (pe_lc (own := [("_law_x", 2)]) (g := gName 2) rfl sc__law_is_fold.nd (pi_tup (pe_slice sl_tup (pv 1) po_none (po_some pe_int))) (blkOk_by (own := [("_law_x", 2)]) (N := ["_law_letters", "_law_it", "_law_x"]) (sc := defScope s__law_is_fold) (by decide +kernel)) (fun _ _ _ _ _ => pg_name (i := 2) sc__law_is_fold.nd rfl (Or.inl rfl))
        (fun _ _ _ _ _ => pts_one (PT_imp (t' := tBadL) (PW.pt (pw_or (pt_cmpR op_ne (pe_callB call_len (by rfl) B.len (by decide +kernel) (pa_cons (pv 2) pa_nil)) pe_int (nomark _)) (pw_or1 (pt_cmpR op_notIn_sign (pv 2) (pv 0) rfl)))) (fun σ H Q h => by
          obtain ⟨w, sg, h2, h0, hl, q⟩ := h
          refine ⟨_, h2, _, _, rfl, len_S (by omega), rfl, _, rfl, ?_⟩
          match w, q with
          | [], q => exact ifT rfl q
          | [c], q => exact ifF rfl ⟨_, h2, _, h0, c, S sg, rfl, rfl, _, rfl, q⟩
          | a :: b :: r, q => exact ifT (int_ne (m := 1) (by rw [List.length_cons, List.length_cons]; omega)) q))) (fun _ _ _ _ _ => (pv 2))) (Mq.pe_ls pa_nil) (nomark _))
        (pe_one (pe_or (pe_cmpR op_eq (pe_ix ix_tup (pv 1) pe_int (fun _ _ => rfl)) pe_str (nomark _)) (pe_one (pe_cmpR op_in_seq (pe_ix ix_tup (pv 1) pe_int (fun _ _ => rfl)) (pe_callTy (call_listTx rfl) (by rfl) B.list (by decide +kernel) (pa_cons (pv 0) pa_nil)) rfl)))))))), ?_⟩
    rcases dg_tup hd with ⟨p, xs, ds, rfl, rfl, hp, ha⟩ | ⟨⟨a, t, m, n⟩, nx⟩
    rotate_left
    · rw [foldD_no nx] at q
      exact ⟨_, rfl, _, .ty "tuple", _, _, false, rfl, .ty _, t, kit_noT m n, false, rfl, ifT rfl (ifT rfl (q H (Same.refl H)))⟩
    refine ⟨_, rfl, _, .ty "tuple", _, _, true, rfl, .ty _, ty_tup hp, kit_ty (by decide +kernel), true, rfl, ?_⟩
    refine ifF rfl ⟨_, rfl, _, _, rfl, Or.inr hp, rfl, _, rfl, ?_⟩
    by_cases h3 : xs.length = 3
    rotate_left
    · rw [foldD_len (by rw [← ha.len]; exact h3)] at q
      exact ifT (int_ne (m := 3) h3) (ifT rfl (q H (Same.refl H)))
    refine ifF (by rw [h3]; rfl) ?_
    refine ⟨_, rfl, p, rfl, ⟨_, hp⟩, fun L hL => ?_⟩
    refine lc_it (walk_tup (a := p) (xs := xs)) (fun i H' => Same H H' ∧ H' L = some (.lst ((xs.take i).filter noStrV))) ⟨same_new hL, upd_same⟩ (fun i H' _ p => Same.tup p.1 hp) ?_ ?_
    · rintro i x H2 H2' hi ⟨s2, zL⟩ ⟨rfl, hx⟩
      obtain ⟨e, he, hde⟩ := ha.at hx
      have hde2 := hde.same s2
      refine ⟨rfl, x, rfl, ?_⟩
      have er := filt_snoc (p := noStrV) hx
      rw [dg_noStr hde] at er
      rcases dg_str hde2 with ⟨l, rfl, rfl⟩ | ⟨hn, nx⟩
      · refine Or.inl ⟨_, rfl, ifF rfl ⟨s2, ?_⟩⟩
        rw [er]
        show H2' L = some (.lst (_ ++ []))
        rw [List.append_nil]
        exact zL
      · have es : strD e = false := by
          cases e with
          | str x => exact (nx x rfl).elim
          | _ => rfl
        rw [es] at er
        refine Or.inr ⟨hn, ifT rfl ⟨_, rfl, _, zL, sz_lt ?_, push_same hL s2, ?_⟩⟩
        · have := List.length_filter_le noStrV (xs.take i)
          rw [List.length_take] at this
          omega
        · rw [upd_same, er]
          rfl
    · rintro H2 ⟨s2, zL⟩
      rw [List.take_length] at zL
      refine ⟨sz_le (n := 0) (by decide), fun p2 hp2 _ => ?_⟩
      have s3 := same_new (o := HO.lst []) hp2
      refine ⟨L, p2, _, rfl, rfl, SqL.of (s3 _ _ zL), SqL.of upd_same, _, rfl, ?_⟩
      have s23 := s2.trans s3
      generalize upd H2 p2 (.lst []) = H3 at s23 ⊢
      clear zL s2 s3 hp2 hL
      obtain ⟨x, y, z, rfl⟩ := three_of h3
      cases ha with
      | cons h1 ha =>
      cases ha with
      | cons h2 ha =>
      cases ha with
      | cons g3 ha =>
      cases ha
      rename_i d1 d2 d3
      have bad : (strD d1 && (strD d2 && strD d3)) = false → foldD sg (.tuple [d1, d2, d3]) = false := by
        intro h
        show (letD sg d1 && (letD sg d2 && (letD sg d3 || nilD d3))) = false
        cases d1 with
        | str a =>
          cases d2 with
          | str b =>
            cases d3 with
            | str c => cases h
            | _ => show (_ && (_ && (false || false))) = false; simp
          | _ => show (_ && (false && _)) = false; simp
        | _ => rfl
      have ef : ([x, y, z].filter noStrV).isEmpty = (strD d1 && (strD d2 && strD d3)) := by
        rw [List.filter_cons, List.filter_cons, List.filter_cons, dg_noStr h1, dg_noStr h2, dg_noStr g3]
        cases strD d1 <;> cases strD d2 <;> cases strD d3 <;> rfl
      rw [ef]
      cases eb : (strD d1 && (strD d2 && strD d3)) with
      | false =>
        rw [bad eb] at q
        exact ifT rfl (q H3 s23)
      | true =>
        refine ifF rfl ?_
        rcases dg_str h1 with ⟨a, rfl, rfl⟩ | ⟨_, nx⟩
        rotate_left
        · cases d1 with
          | str x => exact (nx x rfl).elim
          | _ => cases eb
        rcases dg_str h2 with ⟨b, rfl, rfl⟩ | ⟨_, nx⟩
        rotate_left
        · cases d2 with
          | str x => exact (nx x rfl).elim
          | _ => cases eb
        rcases dg_str g3 with ⟨c, rfl, rfl⟩ | ⟨_, nx⟩
        rotate_left
        · cases d3 with
          | str x => exact (nx x rfl).elim
          | _ => cases eb
        have hww : a.length + 1 + (b.length + 1 + (c.length + 1 + 0)) ≤ wd := hok.gs.we
        have q : ∀ H', Same H H' → Q (.bl (letB sg a && (letB sg b && (letB sg c || decide (c = []))))) H' := q
        have hp3 := Same.tup s23 hp
        refine ⟨_, rfl, 2, rfl, p, _, rfl, hp3, (fun z => absurd z.2 (by show ¬ 2 = 3; decide)), fun p4 hp4 => ?_⟩
        have ecut : cutV [V.str (S a), V.str (S b), V.str (S c)] none (some 2) = [a, b].map fun l => V.str (S l) := rfl
        rw [ecut]
        have s4 := same_new (o := HO.tup ([a, b].map fun l => V.str (S l))) hp4
        have z4 : SqT K (upd H3 p4 (.tup ([a, b].map fun l => V.str (S l)))) p4 ([a, b].map fun l => V.str (S l)) := Or.inl (Or.inl upd_same)
        have s24 := s23.trans s4
        generalize upd H3 p4 (.tup ([a, b].map fun l => V.str (S l))) = H4 at s24 z4 ⊢
        refine ⟨p4, rfl, ⟨_, z4⟩, fun M hM => ?_⟩
        refine lc_it (walk_tup (a := p4) (xs := [a, b].map fun l => V.str (S l))) (fun i H' => Same H4 H' ∧ H' M = some (.lst ((badW sg ([a, b].take i)).map fun l => V.str (S l)))) ⟨same_new hM, upd_same⟩ (fun i H' _ p => Same.tup p.1 z4) ?_ ?_
        · rintro i x H5 H5' hi ⟨s5, zM⟩ ⟨rfl, hx⟩
          obtain ⟨u, hu, rfl⟩ : ∃ u, [a, b][i]? = some u ∧ x = .str (S u) := by
            rw [List.getElem?_map] at hx
            cases e : [a, b][i]? with
            | none => rw [e] at hx; cases hx
            | some l => rw [e] at hx; cases hx; exact ⟨l, rfl, rfl⟩
          have hul : u.length ≤ 4000 := by
            have := List.mem_of_getElem? hu
            simp only [List.mem_cons, List.not_mem_nil, or_false] at this
            rcases this with rfl | rfl <;> omega
          refine ⟨rfl, u, sg, rfl, rfl, hul, ?_⟩
          have er : badW sg ([a, b].take (i + 1)) = badW sg ([a, b].take i) ++ (if (!letB sg u) = true then [u] else []) := filt_snoc hu
          cases hb : (!letB sg u) with
          | true =>
            rw [hb, if_pos rfl] at er
            refine ifT rfl ⟨_, rfl, _, zM, sz_lt ?_, push_same hM s5, ?_⟩
            · have := List.length_filter_le (fun w => !letB sg w) ([a, b].take i)
              rw [List.length_take] at this
              rw [List.length_map]
              unfold badW
              have : [a, b].length = 2 := rfl
              omega
            · rw [upd_same, er, List.map_append]
              rfl
          | false =>
            rw [hb, if_neg (by decide), List.append_nil] at er
            refine ifF rfl ⟨s5, ?_⟩
            rw [er]
            exact zM
        · rintro H5 ⟨s5, zM⟩
          refine ⟨sz_le (n := 0) (by decide), fun p6 hp6 _ => ?_⟩
          have s6 := same_new (o := HO.lst []) hp6
          rw [show ([a, b].take ([a, b].map fun l => V.str (S l)).length) = [a, b] from rfl] at zM
          refine ⟨M, p6, _, rfl, rfl, SqL.of (s6 _ _ zM), SqL.of upd_same, ?_⟩
          have s26 := (s24.trans s5).trans s6
          generalize upd H5 p6 (.lst []) = H6 at s26 ⊢
          have em : ((badW sg [a, b]).map fun l => V.str (S l)).isEmpty = (letB sg a && letB sg b) := by
            unfold badW
            rw [List.filter_cons, List.filter_cons]
            cases letB sg a <;> cases letB sg b <;> rfl
          rw [em]
          refine ⟨_, rfl, ?_⟩
          cases e1 : (letB sg a && letB sg b) with
          | false =>
            refine ifF rfl ?_
            have q' := q H6 s26
            rw [← Bool.and_assoc, e1] at q'
            exact q'
          | true =>
            refine ifT rfl ?_
            have q' : ∀ H', Same H H' → Q (.bl (letB sg c || decide (c = []))) H' := fun H' s' => by
              have := q H' s'
              rw [← Bool.and_assoc, e1] at this
              exact this
            have a2 : atI [V.str (S a), V.str (S b), V.str (S c)] 2 = some (.str (S c)) := atI_nat (j := 2) rfl
            have hp6' := Same.tup s26 hp
            refine ⟨_, rfl, p, _, 2, _, rfl, rfl, hp6', a2, rfl, _, rfl, ?_⟩
            rw [str_is_nil]
            cases e2 : decide (c = []) with
            | true =>
              refine ifT rfl ?_
              have := q' H6 s26
              rw [e2, Bool.or_true] at this
              exact this
            | false =>
              refine ifF rfl ⟨_, rfl, p, _, 2, _, rfl, rfl, hp6', a2, _, rfl, S sg, rfl, sz_le (by have := SX.S_len sg; have e : (S sg).cps.size = sg.length := this; omega), fun p7 hp7 _ => ?_⟩
              refine ⟨p7, _, rfl, Or.inl (SqL.of upd_same), rfl, flat_signs _, ?_⟩
              have s7 := same_new (o := HO.lst ((S sg).cps.toList.map fun c => V.str ⟨#[c]⟩)) hp7
              have := q' _ (s26.trans s7)
              rw [e2, Bool.or_false, ← inV_let] at this
              exact this
end
end Lw

namespace Lw
open PySem PySem.Spec PyProof.Rows L2 Mq
open SX (S)
/-! ### what is wrong of two values, by the law -/
def optW : Option Wr → V
  | none => .non
  | some p => p.v
def optWD : Option Wr → PyData
  | none => .none
  | some p => p.d
def prevO (ds : List PyData) : Nat → Option (Str × Str)
  | 0 => none
  | i + 1 => (ds[i]?).map pairD
def spDue (K : PySem.W.Frag) : Sp := fun vs H Q _ => ∃ (v1 v2 : V) (d1 d2 : PyData) (w n : Nat), vs = [v1, v2] ∧ Dg K H v1 d1 ∧ Dg K H v2 d2 ∧ OkD w n d1 ∧ OkD w n d2 ∧ w ≤ 4000 ∧ ∀ H', Same H H' → Q (optW (dueM d1 d2)) H'
section
variable {P : Program} {w : World} {K : PySem.W.Frag} {mg : Str → Option Value} {base : Heap}
theorem ok_due {f fA fO : Addr} {fd fdA fdO : FuncData} (F : Fun K "_law_due" "_law_due" s__law_due f fd) (B : Blt mg)
    (FA : Fun K "_law_are_letters" "_law_are_letters" s__law_are_letters fA fdA) (gA : mg "_law_are_letters" = some (.ref fA)) (bA : Binds K fdA ["_law_it"] []) (GA : FnOk P w K mg base CX0 1 fA fdA ["_law_it"] (spAre K))
    (FO : Fun K "_law_is_fold" "_law_is_fold" s__law_is_fold fO fdO) (gO : mg "_law_is_fold" = some (.ref fO)) (bO : Binds K fdO ["_law_letters", "_law_it"] []) (GO : FnOk P w K mg base CX0 1 fO fdO ["_law_letters", "_law_it"] (spIsFold K)) :
    FnOk P w K mg base CX0 2 f fd ["_law_letters", "_law_folds_here"] (spDue K) := by
  refine F.ok sc__law_due (fun vs H Q E h => ?_) (fun cdv A outer s H vs Q E hr h => ?_)
  · obtain ⟨_, _, _, _, _, _, rfl, _⟩ := h
    rfl
  · obtain ⟨v1, v2, d1, d2, wd, nd, rfl, g1, g2, ok1, ok2, hwd, q⟩ := h
    have hu0 : (A.deeper (envOfC "_law_due" (defScope s__law_due) s.heap.objs.size f cdv)).units < cLine := by
      have := hr.units
      omega
    refine ⟨_, (pss_cons (ps_if (pt_not (pt_val (pe_call GA (hr.mono (by decide)) (by rfl) gA FA.kp bA .nil pass0 (pa_cons (pv 0) pa_nil)))) (pss_one (ps_ret pe_str)) pss_nil)
      (pss_cons (ps_if (pt_not (pt_val (pe_callB call_isi (by rfl) B.isi (by decide +kernel) (pa_cons (pv 1) (pa_cons (pe_bltn (v := .ty "tuple") (by rfl) B.tuple (by decide +kernel) rfl) pa_nil))))) (pss_one (ps_ret pe_str)) pss_nil)
      (pss_cons (ps_for PassesOwn.never rfl (pi_enumT (by rfl) B.enumerate (pa_cons (pv 1) pa_nil)) (pg_tup rfl (pgs_cons (pg_name (i := 2) sc__law_due.nd rfl (Or.inl rfl)) (pgs_cons (pg_name (i := 3) sc__law_due.nd rfl (Or.inl rfl)) pgs_nil)))
        (pss_one (ps_if (PW.pt (pw_or (pt_not (pt_val (pe_call GO (hr.mono (by decide)) (by rfl) gO FO.kp bO .nil pass0 (pa_cons (pv 0) (pa_cons (pv 3) pa_nil))))) (pw_or1 (PW.pt (pw_and (pt_cmpR op_gt (pv 2) pe_int (nomark _)) (pw_and1 (pt_not (pt_cmpR (op_ltSS hu0) (pe_slice sl_tup (pe_ix ix_tup (pv 1) (pe_op op_sub (pv 2) pe_int) (fun _ _ => rfl)) po_none (po_some pe_int)) (pe_slice sl_tup (pv 3) po_none (po_some pe_int)) (nomark _))))))))) (pss_one (ps_ret (pv 2))) pss_nil)))
      (pss_one (ps_ret pe_non))))), ?_⟩
    refine ⟨_, rfl, v1, d1, wd, nd, rfl, g1, ok1, hwd, fun H1 s1 => ⟨_, rfl, ?_⟩⟩
    rcases dg_str g1 with ⟨sg, rfl, rfl⟩ | ⟨_, nx⟩
    rotate_left
    · rw [due_no nx] at q
      rw [lettersD_no nx]
      exact ifT rfl (q H1 s1)
    rw [due_str] at q
    have hsg : sg.length ≤ 4000 := Nat.le_trans ok1.text.1 hwd
    show (if (!lettersB sg) = true then _ else _)
    cases hlet : lettersB sg with
    | false =>
      rw [hlet, if_neg (by decide)] at q
      exact ifT rfl (q H1 s1)
    | true =>
      rw [hlet, if_pos rfl] at q
      refine ifF rfl ?_
      rcases dg_tup g2 with ⟨fa, xs, ds, rfl, rfl, hfa, ha⟩ | ⟨_, nx⟩
      rotate_left
      · rw [bodyF_no nx] at q
        have t1 : TyX K H1 v2 (.type (Mq.kindOf d2)) := (g2.same s1).ty
        have n1 : Mq.kindOf d2 ≠ "tuple" := by
          cases d2 with
          | tuple x => exact (nx x rfl).elim
          | _ => simp [Mq.kindOf]
        exact ⟨_, rfl, _, .ty "tuple", _, _, false, rfl, .ty _, t1, kit_noT (kind_in d2) n1, false, rfl, iteT (q H1 s1)⟩
      rw [show bodyF sg (.tuple ds) = bodyD sg ds 0 none from rfl] at q
      obtain ⟨m, _, lo⟩ := ok2.tup
      have hfa1 := Same.tup s1 hfa
      refine ⟨_, rfl, _, .ty "tuple", _, _, true, rfl, .ty _, ty_tup hfa1, kit_ty (by decide +kernel), true, rfl, iteF ?_⟩
      refine ⟨_, rfl, fa, xs, rfl, hfa1, ?_⟩
      have hlen : xs.length = ds.length := ha.len
      refine for_it (walk_enumT (K := K) (a := fa) (xs := xs)) (fun i σ H' => Same H H' ∧ bodyD sg (ds.drop i) i (prevO ds i) = bodyD sg ds 0 none ∧ (∀ j, i = j + 1 → ∃ d', ds[j]? = some d' ∧ foldD sg d' = true) ∧ ∃ o2 o3, σ = [some (.str (S sg)), some (.ref fa), o2, o3])
        ⟨s1, rfl, (fun j e => by cases e), _, _, rfl⟩ (fun i σ H' hi p => Same.tup p.1 hfa) ?_ ?_
      · rintro i x σ H4 H5 hi ⟨s4, hb, hpv, o2, o3, rfl⟩ ⟨T1, y1, y2, rfl, hT, rfl, hy1, hy2⟩
        cases hy1
        obtain ⟨d, hd, hdg⟩ := ha.at hy2
        have okd := lo.mem (List.mem_of_getElem? hd)
        rw [body_step hd] at hb
        have s5 := same_new (o := HO.tup [V.int (i : Nat), y2]) hT
        have t5 := Same.trans s4 s5
        refine ⟨T1, _, rfl, Or.inl (Or.inl upd_same), rfl, _, _, rfl, _, _, rfl, rfl, ?_⟩
        generalize upd H4 T1 (.tup [V.int (i : Nat), y2]) = H5 at t5 ⊢
        have hdg5 := hdg.same t5
        refine ⟨_, rfl, _, rfl, sg, y2, d, wd, m, rfl, hsg, hdg5, okd, hwd, fun H6 s6 => ⟨_, rfl, ?_⟩⟩
        have t6 := t5.trans s6
        have end_ : bodyD sg ds 0 none = some (.num i) → ∀ H7, Same H H7 → Q (.int ((i : Nat) : Int)) H7 := by
          intro e H7 s7
          rw [e] at q
          exact q H7 s7
        cases hf : foldD sg d with
        | false =>
          rw [hf, Bool.false_and, if_neg (by decide)] at hb
          exact ifT rfl (ifT rfl ⟨_, rfl, end_ hb.symm H6 t6⟩)
        | true =>
          rw [hf, Bool.true_and] at hb
          refine ifF rfl ?_
          have nxt : ltO (prevO ds i) (pairD d) = true → ∀ H7, Same H H7 → (Same H H7 ∧ bodyD sg (ds.drop (i + 1)) (i + 1) (prevO ds (i + 1)) = bodyD sg ds 0 none ∧ (∀ j, i + 1 = j + 1 → ∃ d', ds[j]? = some d' ∧ foldD sg d' = true)) := by
            intro e H7 s7
            rw [e, if_pos rfl] at hb
            refine ⟨s7, ?_, fun j ej => ?_⟩
            · rw [← hb]
              show bodyD sg (ds.drop (i + 1)) (i + 1) ((ds[i]?).map pairD) = _
              rw [hd]
              rfl
            · obtain rfl : i = j := by omega
              exact ⟨d, hd, hf⟩
          refine ⟨_, rfl, _, _, rfl, rfl, _, rfl, ?_⟩
          cases i with
          | zero =>
            obtain ⟨a, b, c⟩ := nxt rfl H6 t6
            exact ifF rfl (ifF rfl ⟨a, b, c, _, _, rfl⟩)
          | succ j =>
            obtain ⟨d', hd', hf'⟩ := hpv j rfl
            obtain ⟨g', _, rfl⟩ := foldD_fd hf'
            obtain ⟨g, _, rfl⟩ := foldD_fd hf
            have hj : j < xs.length := by omega
            obtain ⟨e', he', hdg'⟩ := ha.at (List.getElem?_eq_getElem hj)
            rw [hd'] at he'
            cases he'
            obtain ⟨b', eb', hb'⟩ := fd_at (hdg'.same t6)
            obtain ⟨b, rfl, hbt⟩ := fd_at (hdg5.same s6)
            have ecut : ∀ g : Fd, cutV (fdV g) none (some 2) = [V.str (keyF g).1, V.str (keyF g).2] := fun g => rfl
            have ei : (((j + 1 : Nat) : Int) - 1) = ((j : Nat) : Int) := by omega
            have at1 : atI xs (((j + 1 : Nat) : Int) - 1) = some (.ref b') := by
              rw [ei, ← eb']
              exact atI_nat (List.getElem?_eq_getElem hj)
            refine ifT (decide_eq_true (by show (0 : Int) < ((j + 1 : Nat) : Int); omega)) ?_
            refine ⟨_, rfl, _, rfl, _, _, rfl, rfl, fa, xs, _, _, rfl, rfl, Same.tup t6 hfa, at1, 2, rfl, b', _, rfl, hb', (fun z => absurd z.2 (by show ¬ 2 = 3; decide)), fun p1 hp1 => ?_⟩
            rw [ecut]
            have u1 := same_new (o := HO.tup [V.str (keyF g').1, V.str (keyF g').2]) hp1
            refine ⟨_, rfl, 2, rfl, b, _, rfl, Same.tup u1 hbt, (fun z => absurd z.2 (by show ¬ 2 = 3; decide)), fun p2 hp2 => ?_⟩
            rw [ecut]
            have u2 := same_new (o := HO.tup [V.str (keyF g).1, V.str (keyF g).2]) hp2
            refine ⟨p1, p2, keyF g', keyF g, rfl, rfl, Same.tup u2 (Or.inl (Or.inl upd_same)), Or.inl (Or.inl upd_same), _, rfl, ?_⟩
            have u := (t6.trans u1).trans u2
            have eo : ltO (prevO ds (j + 1)) (pairD (fdD g)) = ltSS (keyF g') (keyF g) := by
              show ltO ((ds[j]?).map pairD) _ = _
              rw [hd']
              rfl
            rw [← eo]
            cases hn : ltO (prevO ds (j + 1)) (pairD (fdD g)) with
            | false =>
              rw [hn, if_neg (by decide)] at hb
              exact ifT rfl ⟨_, rfl, end_ hb.symm _ u⟩
            | true =>
              obtain ⟨a, b, c⟩ := nxt hn _ u
              exact ifF rfl ⟨a, b, c, _, _, rfl⟩
      · rintro σ H4 ⟨s4, hb, hpv, o2, o3, rfl⟩
        rw [hlen, List.drop_of_length_le (Nat.le_refl _)] at hb
        have hb' : bodyD sg ds 0 none = none := hb.symm
        rw [hb'] at q
        exact q H4 s4
end
end Lw

namespace Mq
open PySem PySem.Spec PyProof.Rows L2
/-! ### error classes over a class of one's own, told by their objects -/
def ClsAt (K : PySem.W.Frag) (CM C : Addr) : Prop := ∃ nm q N bs sn sub ab col dd m0 m1 m2 m3 m5, K.lookup C = some (excClassObj nm q C N bs [.ref CM, .type "Exception", .type "BaseException", .type "object"] true sn sub ab col dd m0 m1 m2 m3 m5 "Exception.__new__")
section
variable {K : PySem.W.Frag} {CM C : Addr}
theorem ClsAt.isC (h : ClsAt K CM C) : (PySem.W.clsIn K C).isSome = true := by
  obtain ⟨_, _, _, _, _, _, _, _, _, _, _, _, _, _, h⟩ := h
  simp [PySem.W.clsIn, h, excClassObj]
theorem ClsAt.ty (h : ClsAt K CM C) : PySem.W.typeIn K (.ref C) = some (.type "type") := by
  obtain ⟨_, _, _, _, _, _, _, _, _, _, _, _, _, _, h⟩ := h
  simp [PySem.W.typeIn, h, excClassObj]
theorem ClsAt.has (h : ClsAt K CM C) : PySem.W.hasDictIn K C = true := by
  obtain ⟨_, _, _, _, _, _, _, _, _, _, _, _, _, _, h⟩ := h
  simp [PySem.W.hasDictIn, PySem.W.clsIn, h, excClassObj]
theorem ClsAt.mro (h : ClsAt K CM C) (b : Value) : PySem.W.mroIn K C b = some ((Value.ref C :: Value.ref CM :: exTail).contains b) := by
  obtain ⟨_, _, _, _, _, _, _, _, _, _, _, _, _, _, h⟩ := h
  simp [PySem.W.mroIn, PySem.W.clsIn, h, excClassObj, exTail]
theorem ClsAt.init (h : ClsAt K CM C) : PySem.W.excInitIn K C exTail "Exception.__new__" = true := by
  obtain ⟨_, _, _, _, _, _, _, _, _, _, _, _, _, _, h⟩ := h
  unfold PySem.W.excInitIn
  rw [h]
  simp [excClassObj, PySem.W.excTail, exTail]
theorem ClsAt.over (h : ClsAt K CM C) : PySem.W.excOver K C exTail = true := by
  obtain ⟨_, _, _, _, _, _, _, _, _, _, _, _, _, _, h⟩ := h
  unfold PySem.W.excOver PySem.W.clsIn
  rw [h]
  simp [excClassObj, PySem.W.excTail, exTail]
theorem ClsAt.keep (h : ClsAt K CM C) : PySem.W.keepIn K (.ref C) = true := by
  have ht := h.ty
  obtain ⟨_, _, _, _, _, _, _, _, _, _, _, _, _, _, h⟩ := h
  unfold PySem.W.keepIn
  dsimp only
  rw [h]
  dsimp only
  unfold PySem.W.specialIn
  rw [ht]
  show (fastLookup "type" "__call__" == some (some (Value.builtin "type.__call__"))) = true
  decide +kernel
theorem ClsAt.sub (h : ClsAt K CM C) (b : Value) : PySem.W.subIn K (.ref C) b = some ((Value.ref C :: Value.ref CM :: exTail).contains b) := h.mro b
theorem ref_eq (a b : Addr) : (Value.ref a == Value.ref b) = decide (a = b) := by
  by_cases h : a = b
  · subst h; simp
  · simp [h]
theorem ClsAt.kit {D : Addr} (h : ClsAt K CM C) (hD : ClsAt K CM D) (ne : D ≠ CM) : PySem.W.kitOne K (.ref C) (.ref D) = some (decide (C = D)) := by
  unfold PySem.W.kitOne
  by_cases e : C = D
  · subst e; simp
  · simp [e, PySem.W.kitCls, hD.isC, hD.ty, h.sub, exTail, Ne.symm e, ne]
theorem ClsAt.mill (h : ClsAt K CM C) (h1 : PySem.W.isClsIn K CM = true) (h2 : PySem.W.typeIn K (.ref CM) = some (.type "type")) : PySem.W.kitOne K (.ref C) (.ref CM) = some true := by
  have h1 : (PySem.W.clsIn K CM).isSome = true := h1
  unfold PySem.W.kitOne
  by_cases e : C = CM
  · subst e; simp
  · simp [e, PySem.W.kitCls, h1, h2, h.sub, exTail]
theorem ClsAt.typ (h : ClsAt K CM C) {n : String} (hm : PySem.W.kitMeta n = true) : PySem.W.kitOne K (.ref C) (.type n) = some (exTail.contains (.type n)) := by
  unfold PySem.W.kitOne
  simp [PySem.W.kitCls, hm, h.sub]
/-- what the written part says of such a class -/
structure ClsF (K : PySem.W.Frag) (CM C : Addr) : Prop where
  at_ : ClsAt K CM C
  ga : PySem.W.findIn K (.ref C) "__getattribute__" = some (some (.builtin "BaseException.__getattribute__"))
  gg : PySem.W.findIn K (.ref C) "__getattr__" = some none
  ca : PySem.W.findIn K (.ref C) "__class__" = some (some (.builtin "object.__class__"))
theorem ClsF.base (h : ClsF K CM C) : PySem.W.subIn K (.ref C) (.type "BaseException") = some true := by
  rw [h.at_.sub]
  simp [exTail]
theorem ClsF.xf (h : ClsF K CM C) : XfC K C := ⟨h.ga, h.gg, h.base, h.at_.has⟩
theorem ClsF.held (h : ClsF K CM C) (sp : PySem.W.specialIn K (.builtin "object.__class__") "__get__" = some (some (.builtin "getset_descriptor.__get__"))) (tk : PySem.W.takesIn K (.builtin "object.__class__") = some true) : HeldC K C :=
  ⟨h.at_.isC, h.ga, h.gg, h.base, h.ca, sp, tk, by rw [h.at_.mro]; simp [exTail]⟩
theorem exm_own (h : ClsF K CM C) : PySem.W.exmOne K (.ref C) (.ref C) = some true := by
  simp [PySem.W.exmOne, PySem.W.kitCls, h.at_.isC, h.at_.ty, h.at_.sub, exTail]
end
/-! ### the head's facts by a Hook of our own -/
def exB (fs : List (PySem.W.Frag → Bool)) (K : PySem.W.Frag) : Bool := fs.all fun f => f K
def obsM (n : Nat) (fn : List He.FnD) (fs : List (PySem.W.Frag → Bool)) (g : Addr → Option Obj) : He.Al × Bool :=
  (He.obsG n [] fn g, exB fs (He.frG g (He.asG g n)))
def hookM (n : Nat) (fn : List He.FnD) (fs : List (PySem.W.Frag → Bool)) : PySem.W.Hook where
  α := He.Al × Bool
  obs := fun s => obsM n fn fs s.heap.get?
  val := fun _ => (He.valE fn, true)
  says := fun _ h => ∃ K : PySem.W.Frag, K.In h ∧ He.SaysE [] fn K ∧ exB fs K = true
  of := fun w s e => ⟨He.frG s.heap.get? (He.asG s.heap.get? n), He.frG_in, congrArg Prod.fst e, congrArg Prod.snd e⟩
  keeps := fun w h h' ⟨K, a, b, c⟩ k => ⟨K, a.keeps k, b, c⟩
abbrev AlT := He.Al × Bool
theorem obsM_eq {n : Nat} {fn : List He.FnD} {fs : List (PySem.W.Frag → Bool)} {g : Addr → Option Obj} {s : Shared} (h : ∀ a, g a = s.heap.get? a) : obsM n fn fs g = (hookM n fn fs).obs s := by
  have e : g = s.heap.get? := funext h
  rw [e]
  rfl
theorem exAt {fs : List (PySem.W.Frag → Bool)} {K : PySem.W.Frag} (h : exB fs K = true) (i : Nat) {f : PySem.W.Frag → Bool} (e : fs[i]? = some f) : f K = true := List.all_eq_true.mp h f (List.mem_of_getElem? e)
def fFind (x n : Str) (v : Option Value) : PySem.W.Frag → Bool := fun K => He.eqO (PySem.W.findIn K (.ref (He.ga K x)) n) (some v)
def fInit (x : Str) : PySem.W.Frag → Bool := fun K => He.eqO (PySem.W.findIn K (.ref (He.ga K x)) "__init__") (some (some (.ref (He.ma K (He.ga K x) "__init__"))))
def fGlo (x : Str) : PySem.W.Frag → Bool := fun K => He.eqO (PySem.W.nsIn K mainGlobals x) (some (some (.ref (He.ga K x))))
def fFree (x : Str) : PySem.W.Frag → Bool := fun K => He.eqO (PySem.W.nsIn K mainGlobals x) (some none)
def fExc (x : Str) : PySem.W.Frag → Bool := fun K => PySem.W.excIn K (He.ga K x) exTail "Exception.__new__"
def clsB (K : PySem.W.Frag) (CM C : Addr) : Bool :=
  match K.lookup C with
  | some ⟨.type T, _, .cls cd, sl⟩ => decide (T = "type") && cd.hasDict && !cd.hasDel &&
      (match cd.mro with
       | [.ref a, .ref b, .type t1, .type t2, .type t3] => decide (a = C) && decide (b = CM) && decide (t1 = "Exception") && decide (t2 = "BaseException") && decide (t3 = "object")
       | _ => false) &&
      (match sl.toList with
       | [_, _, _, _, some (.builtin n), _] => decide (n = "Exception.__new__")
       | _ => false)
  | _ => false
def fCls (x : Str) : PySem.W.Frag → Bool := fun K => clsB K (He.ga K "MillError") (He.ga K x)
def fnB (K : PySem.W.Frag) (f : Addr) : Bool :=
  match K.lookup f with
  | some ⟨.type T, _, .func fd, _⟩ => decide (T = "function") && (match fd.kwdefaults with | .none => true | _ => false)
  | _ => false
def fFn (x : Str) : PySem.W.Frag → Bool := fun K => fnB K (He.ma K (He.ga K x) "__init__")
theorem clsB_ok {K : PySem.W.Frag} {CM C : Addr} (h : clsB K CM C = true) : ClsAt K CM C := by
  unfold clsB at h
  split at h
  · rename_i T dd cd sl hl
    obtain ⟨nm, bs, mro, N, qn, hd, sn, sub, ab, col, hdel⟩ := cd
    simp only [Bool.and_eq_true] at h
    obtain ⟨⟨⟨⟨h1, h2⟩, h3⟩, h4⟩, h5⟩ := h
    split at h4
    · simp only [Bool.and_eq_true, decide_eq_true_eq] at h4
      obtain ⟨⟨⟨⟨a1, a2⟩, a3⟩, a4⟩, a5⟩ := h4
      split at h5
      · rename_i m0 m1 m2 m3 n m5 hs
        have hs' := congrArg List.toArray hs
        rw [Array.toArray_toList] at hs'
        have e1 := of_decide_eq_true h1
        have e5 := of_decide_eq_true h5
        simp only [Bool.not_eq_true'] at h3
        subst e1 a1 a2 a3 a4 a5 e5 hs' h3
        have h2' : hd = true := h2
        subst h2'
        exact ⟨_, _, _, _, _, _, _, _, _, _, _, _, _, _, hl⟩
      · cases h5
    · cases h4
  · cases h
theorem fnB_ok {K : PySem.W.Frag} {f : Addr} {oc kV dV doc pm cd ct : Value} {od an : Option Addr} {osl : Array (Option Value)} {nm q : Str} {a : Arguments} {b : List Stmt} {s : Scope}
    (h : fnB K f = true) (l : K.lookup f = some ⟨oc, od, .func (PySem.W.fnOf nm q a b s dV kV doc pm an cd ct), osl⟩) : oc = .type "function" ∧ kV = .none := by
  unfold fnB at h
  rw [l] at h
  split at h
  · rename_i hh
    cases hh
    simp only [Bool.and_eq_true] at h
    obtain ⟨h1, h2⟩ := h
    refine ⟨by rw [of_decide_eq_true h1], ?_⟩
    split at h2
    · rfl
    · cases h2
  · cases h
theorem keep_fn {K : PySem.W.Frag} {f : Addr} {oc : Value} {od : Option Addr} {g : FuncData} {osl : Array (Option Value)} (l : K.lookup f = some ⟨oc, od, .func g, osl⟩) : PySem.W.keepIn K (.ref f) = true := by
  unfold PySem.W.keepIn
  dsimp only
  rw [l]
theorem walk_ofGE {l : PySem.W.OpenLaw} {n k : Nat} {q : Program} {loose : List Str}
    {XP : (Str → Option Value) → Heap → Prop} {YP : World → Heap → Prop} {d : DefRec} {CX : CXT} {x : Str}
    (hn : l.most = some n) (hn2 : n ≤ sizeLine) (hdf : d.params.defaults = []) (hr : Room k callerA)
    (F : ∀ (w : World) (mg : Str → Option Value) (fa : Addr) (h : Heap), YP w h → h.Ns mainGlobals mg → mg d.name = some (.ref fa) →
      ∃ (K : PySem.W.Frag) (fd : FuncData) (sp : Sp), K.In h ∧ (∀ (s : Shared) (u : Value), BindsTo s fd ⟨[u], []⟩ [(x, u)]) ∧
        (∀ (H : Hp) (a : Addr) (ns : List Int), ns.length ≤ n → Only H → SqL K H a (ns.map V.int) → sp [.ref a] H (fun v _ => v = .bl true) fun _ _ _ => False) ∧
        ∀ base : Heap, K.In base → base.Ns mainGlobals mg → FnG l.prog w K mg base CX k fa fd [x] sp)
    (hCX : ∀ (H : Hp) (s : Shared) (e : Value) (s' : Shared), CX [] H s (fun _ _ _ => False) e s' → False) :
    PySem.W.WalkO q loose XP YP l.row.toRowW d [] (fun f vs => PySem.call f vs) := by
  refine Att.attach_call hn hdf ?_
  intro w s₀ s₁ mg mb fa o pm cd doc a vs ns G Y ho hd hcd hmg hobj hints hlen hg
  obtain ⟨K, fd, sp, KX, hb, hsp, hF⟩ := F w mg fa _ Y G.T.g hmg
  exact law_callG KX G.T.g G.T.b G.T.builtins G.T.nolimit hg hobj hints (Nat.le_trans hlen hn2) hr hF hb
    (fun H hO hS => hsp H a ns hlen hO hS) (fun H e s' => hCX H s₁ e s')
theorem glo_of {K : PySem.W.Frag} {x : Str} (h : fGlo x K = true) : PySem.W.nsIn K mainGlobals x = some (some (.ref (He.ga K x))) := He.eqO_ok h
theorem free_of {K : PySem.W.Frag} {x : Str} (h : fFree x K = true) : PySem.W.nsIn K mainGlobals x = some none := He.eqO_ok h
theorem find_of {K : PySem.W.Frag} {x n : Str} {v : Option Value} (h : fFind x n v K = true) : PySem.W.findIn K (.ref (He.ga K x)) n = some v := He.eqO_ok h
theorem init_of {K : PySem.W.Frag} {x : Str} (h : fInit x K = true) : PySem.W.findIn K (.ref (He.ga K x)) "__init__" = some (some (.ref (He.ma K (He.ga K x) "__init__"))) := He.eqO_ok h
theorem cls_of {K : PySem.W.Frag} {x : Str} (h : fCls x K = true) : ClsAt K (He.ga K "MillError") (He.ga K x) := clsB_ok h
theorem exc_of {K : PySem.W.Frag} {x : Str} (h : fExc x K = true) : PySem.W.excIn K (He.ga K x) exTail "Exception.__new__" = true := h
/-! ### further facts -/
def fMeth (x n : Str) : PySem.W.Frag → Bool := fun K => He.eqO (PySem.W.findIn K (.ref (He.ga K x)) n) (some (some (.ref (He.ma K (He.ga K x) n)))) && PySem.W.isFn K (.ref (He.ma K (He.ga K x) n))
theorem meth_of {K : PySem.W.Frag} {x n : Str} (h : fMeth x n K = true) : PySem.W.findIn K (.ref (He.ga K x)) n = some (some (.ref (He.ma K (He.ga K x) n))) ∧ PySem.W.isFn K (.ref (He.ma K (He.ga K x) n)) = true := by
  obtain ⟨a, b⟩ := Bool.and_eq_true_iff.mp h
  exact ⟨He.eqO_ok a, b⟩
/-- a class of one's own, its objects made and read plainly -/
def fOwn (x : Str) : PySem.W.Frag → Bool := fun K => PySem.W.plainGet K (He.ga K x) Str.empty && (PySem.W.hasDictIn K (He.ga K x) && (PySem.W.plainOver K (He.ga K x) && (PySem.W.makesIn K (He.ga K x) && PySem.W.keepIn K (.ref (He.ga K x)))))
theorem own_of {K : PySem.W.Frag} {x : Str} (h : fOwn x K = true) : PySem.W.plainGet K (He.ga K x) Str.empty = true ∧ PySem.W.hasDictIn K (He.ga K x) = true ∧ PySem.W.plainOver K (He.ga K x) = true ∧ PySem.W.makesIn K (He.ga K x) = true ∧ PySem.W.keepIn K (.ref (He.ga K x)) = true := by
  obtain ⟨a, h⟩ := Bool.and_eq_true_iff.mp h
  obtain ⟨b, h⟩ := Bool.and_eq_true_iff.mp h
  obtain ⟨c, h⟩ := Bool.and_eq_true_iff.mp h
  obtain ⟨d, e⟩ := Bool.and_eq_true_iff.mp h
  exact ⟨a, b, c, d, e⟩
def fTxt (x v : Str) : PySem.W.Frag → Bool := fun K => match PySem.W.nsIn K mainGlobals x with
  | some (some (.str y _)) => decide (y = v)
  | _ => false
theorem txt_of {K : PySem.W.Frag} {x v : Str} (h : fTxt x v K = true) : ∃ t, PySem.W.nsIn K mainGlobals x = some (some (.str v t)) := by
  unfold fTxt at h
  split at h
  · rename_i y t e
    have := of_decide_eq_true h
    subst this
    exact ⟨t, e⟩
  · cases h
def fExm (x y : Str) (b : Bool) : PySem.W.Frag → Bool := fun K => decide (PySem.W.exmOne K (.ref (He.ga K x)) (.ref (He.ga K y)) = some b)
theorem exm_of {K : PySem.W.Frag} {x y : Str} {b : Bool} (h : fExm x y b K = true) : PySem.W.exmOne K (.ref (He.ga K x)) (.ref (He.ga K y)) = some b := of_decide_eq_true h
def fKit (x y : Str) (b : Bool) : PySem.W.Frag → Bool := fun K => decide (PySem.W.kitOne K (.ref (He.ga K x)) (.ref (He.ga K y)) = some b)
theorem kit_of {K : PySem.W.Frag} {x y : Str} {b : Bool} (h : fKit x y b K = true) : PySem.W.kitOne K (.ref (He.ga K x)) (.ref (He.ga K y)) = some b := of_decide_eq_true h
def fMro (x : Str) : PySem.W.Frag → Bool := fun K => decide (PySem.W.mroIn K (He.ga K x) (.type "object") = some true)
theorem mro_of {K : PySem.W.Frag} {x : Str} (h : fMro x K = true) : PySem.W.mroIn K (He.ga K x) (.type "object") = some true := of_decide_eq_true h
def fSp : PySem.W.Frag → Bool := fun K => He.eqO (PySem.W.specialIn K (.builtin "object.__class__") "__get__") (some (some (.builtin "getset_descriptor.__get__")))
theorem sp_of {K : PySem.W.Frag} (h : fSp K = true) : PySem.W.specialIn K (.builtin "object.__class__") "__get__" = some (some (.builtin "getset_descriptor.__get__")) := He.eqO_ok h
def fTk : PySem.W.Frag → Bool := fun K => decide (PySem.W.takesIn K (.builtin "object.__class__") = some true)
theorem tk_of {K : PySem.W.Frag} (h : fTk K = true) : PySem.W.takesIn K (.builtin "object.__class__") = some true := of_decide_eq_true h
def fMill : PySem.W.Frag → Bool := fun K => PySem.W.isClsIn K (He.ga K "MillError") && decide (PySem.W.typeIn K (.ref (He.ga K "MillError")) = some (.type "type"))
theorem mill_of {K : PySem.W.Frag} (h : fMill K = true) : PySem.W.isClsIn K (He.ga K "MillError") = true ∧ PySem.W.typeIn K (.ref (He.ga K "MillError")) = some (.type "type") := by
  obtain ⟨a, b⟩ := Bool.and_eq_true_iff.mp h
  exact ⟨a, of_decide_eq_true b⟩
end Mq

namespace Mq
open PySem PySem.Spec PyProof.Rows L2
/-! ### facts of the head for own classes with `==`: kinds that they are not, kinds that are not they -/
def fOwnEq (x : Str) : PySem.W.Frag → Bool := fun K => kinds6.all (fun T => decide (PySem.W.subIn K (.ref (He.ga K x)) (.type T) = some false)) &&
  (He.eqO (PySem.W.findIn K (.ref (He.ga K x)) "__ne__") (some (some (.builtin "object.__ne__"))) && (decide (PySem.W.mroIn K (He.ga K x) (.type "object") = some true) &&
  ((PySem.W.clsIn K (He.ga K x)).isSome && decide (PySem.W.typeIn K (.ref (He.ga K x)) = some (.type "type")))))
structure OwnEqK (K : PySem.W.Frag) (C : Addr) : Prop where
  own : OwnEq K C
  kits : ∀ T ∈ kinds6, PySem.W.kitOne K (.type T) (.ref C) = some false
theorem ownEq_of {K : PySem.W.Frag} {x : Str} (h : fOwnEq x K = true) : OwnEqK K (He.ga K x) := by
  obtain ⟨a, h⟩ := Bool.and_eq_true_iff.mp h
  obtain ⟨b, h⟩ := Bool.and_eq_true_iff.mp h
  obtain ⟨c, h⟩ := Bool.and_eq_true_iff.mp h
  obtain ⟨d, e⟩ := Bool.and_eq_true_iff.mp h
  have e := of_decide_eq_true e
  refine ⟨⟨fun T hT => of_decide_eq_true (List.all_eq_true.mp a T hT), He.eqO_ok b, of_decide_eq_true c⟩, fun T hT => ?_⟩
  have s := sub_kind (K := K) (C := He.ga K x) T hT
  unfold PySem.W.kitOne
  rw [if_neg (by simp)]
  show (if ((PySem.W.clsIn K (He.ga K x)).isSome && PySem.W.typeIn K (.ref (He.ga K x)) == some (.type "type")) = true then PySem.W.subIn K (.type T) (.ref (He.ga K x)) else none) = some false
  rw [d, e, s]
  simp
/-! ### calls by keywords turned round, behind self -/
def app2r {α : Type} (a b : List α) : List α := a ++ b.reverse
theorem kbn_1r2 {K : PySem.W.Frag} {x qual : Str} {st : Stmt} {f : Addr} {fd : FuncData} {p1 p2 p3 : Str} (F : Fun K x qual st f fd)
    (h : ∀ (kV doc pm : Value) (an : Option Addr) (cdv ct : Value) (a b c : Value), bindArgs (PySem.W.fnOf x qual (defArgs st) (defBody st) (defScope st) .none kV doc pm an cdv ct) ⟨[a], [(p3, b), (p2, c)]⟩ = pure [(p1, a), (p2, c), (p3, b)]) :
    KBn K fd [p1, p2, p3] 1 [p3, p2] app2r app2r := by
  obtain ⟨oc, od, kV, doc, pm, an, cdv, ct, osl, rfl, lk, hcd⟩ := F.ex
  refine ⟨fun s us ws _ h1 h2 => ?_, fun a b => a.append (vals_rev b)⟩
  match us, ws, h1, h2 with
  | [a], [b, c], _, _ => exact .of_eq (h kV doc pm an cdv ct a b c)
theorem KindV.same {K : PySem.W.Frag} {H H' : Hp} {y : V} {T : String} (h : KindV K H y T) (e : Same H H') : KindV K H' y T := by
  cases h with
  | non => exact .non
  | int i => exact .int i
  | str z => exact .str z
  | lst h => exact .lst (e.seq h)
  | tup h => exact .tup (Same.tup e h)
  | dct h => exact .dct (e _ _ h)
end Mq

namespace Lw
open PySem PySem.Spec PyProof.Rows L2 Mq
open SX (S)
/-! ### len, what a book leaves, equal books -/
def leftM (fs : List Fd) (x y : Nat) : Option (List Nat) := (fs.find? fun f => decide (f.x = x) && decide (f.y = y)).map (·.z)
def optZ : Option (List Nat) → V
  | .none => .non
  | .some z => .str (S z)
def optZD : Option (List Nat) → PyData
  | .none => .none
  | .some z => .str (S z)
theorem tab_val (fs : List Fd) (x y : Nat) : (valV (tabF fs) [Sum.inr (S [x]), Sum.inr (S [y])]).getD .non = optZ (leftM fs x y) := by
  unfold valV leftM tabF
  induction fs with
  | nil => rfl
  | cons f fs ih =>
    have e : decide (([Sum.inr (S [f.x]), Sum.inr (S [f.y])] : List Key) = [Sum.inr (S [x]), Sum.inr (S [y])]) = (decide (f.x = x) && decide (f.y = y)) := by
      rw [← Bool.decide_and]
      refine decide_eq_decide.mpr ⟨fun h => ?_, fun h => by rw [h.1, h.2]⟩
      injection h with h1 h2
      injection h2 with h2 _
      exact ⟨S_one.mp (Sum.inr.inj h1), S_one.mp (Sum.inr.inj h2)⟩
    rw [List.map_cons, List.find?_cons, List.find?_cons]
    show (Option.map _ (match decide (([Sum.inr (S [f.x]), Sum.inr (S [f.y])] : List Key) = [Sum.inr (S [x]), Sum.inr (S [y])]) with | true => _ | false => _)).getD V.non = _
    rw [e]
    cases decide (f.x = x) && decide (f.y = y) with
    | true => rfl
    | false => exact ih
theorem fd_eta (a b : Fd) : (a.x = b.x ∧ a.y = b.y ∧ a.z = b.z) ↔ a = b := by
  constructor
  · rintro ⟨h1, h2, h3⟩
    cases a
    cases b
    simp only at h1 h2 h3
    rw [h1, h2, h3]
  · rintro rfl
    exact ⟨rfl, rfl, rfl⟩
instance fdDec : DecidableEq Fd := fun a b => decidable_of_iff _ (fd_eta a b)
theorem eqv_fds : ∀ fs gs : List Fd, PyData.eqv (.tuple (fs.map fdD)) (.tuple (gs.map fdD)) = decide (fs = gs)
  | [], [] => rfl
  | [], _ :: _ => rfl
  | _ :: _, [] => rfl
  | f :: fs, g :: gs => by
    have ih := eqv_fds fs gs
    have e : ∀ a b : List Nat, (S a == S b) = decide (a = b) := fun a b => by
      rw [Bool.eq_iff_iff]
      simp only [beq_iff_eq, decide_eq_true_eq]
      exact ⟨fun h => SX.S_inj h, fun h => by rw [h]⟩
    show (((S [f.x] == S [g.x]) && ((S [f.y] == S [g.y]) && ((S f.z == S g.z) && true))) && PyData.eqv (.tuple (fs.map fdD)) (.tuple (gs.map fdD))) = _
    rw [ih, e, e, e, Bool.eq_iff_iff]
    obtain ⟨a, b, c⟩ := f
    obtain ⟨a', b', c'⟩ := g
    simp only [Bool.and_eq_true, decide_eq_true_eq, List.cons.injEq, and_true, Fd.mk.injEq]
theorem shaped_fds {sg : List Nat} {fs : List Fd} (hs : LowL sg) (h : FsOk sg fs) : SeqAt.shaped (.tuple (fs.map fdD)) = true := by
  have one : ∀ c, c ∈ sg → (PyData.str (S [c])).canLay0 = true := fun c hc => sign_ok (Nat.lt_trans (hs c hc) (by decide))
  have key : ∀ gs : List Fd, (∀ f ∈ gs, fdOk sg f) → PyData.canLayAll0 (gs.map fdD) = true ∧ PyData.depthAll (gs.map fdD) ≤ 1 := by
    intro gs
    induction gs with
    | nil => exact fun _ => ⟨rfl, Nat.zero_le _⟩
    | cons g gs ih =>
      intro hg
      obtain ⟨a, b⟩ := ih fun f hf => hg f (List.mem_cons_of_mem _ hf)
      have o := hg g List.mem_cons_self
      constructor
      · show (((PyData.str (S [g.x])).canLay0 && ((PyData.str (S [g.y])).canLay0 && ((PyData.str (S g.z)).canLay0 && true))) && PyData.canLayAll0 (gs.map fdD)) = true
        have z : (PyData.str (S g.z)).canLay0 = true := by
          rcases o.2.2 with e | ⟨c, hc, e⟩
          · rw [e]; decide +kernel
          · rw [e]; exact one c hc
        rw [one _ o.1, one _ o.2.1, z, a]
        rfl
      · exact Nat.max_le.mpr ⟨Nat.le_refl 1, b⟩
  obtain ⟨a, b⟩ := key fs h.ok
  show (PyData.canLayAll0 (fs.map fdD) && decide (PyData.depthAll (fs.map fdD) + 1 ≤ 64)) = true
  rw [a, decide_eq_true (by omega)]
  rfl
theorem low_sg {sg : List Nat} (h : SgOk sg) : LowL sg := h.low
def spLen (C : Addr) : Sp := fun vs H Q _ => ∃ (r dx fa ta : Addr) (sg : List Nat), vs = [.ref r] ∧ H r = some (.ins C dx (bkF sg fa ta)) ∧ sg.length ≤ 90000 ∧ Q (.int (sg.length : Nat)) H
def spLeft (C : Addr) : Sp := fun vs H Q _ => ∃ (r fa ta : Addr) (sg : List Nat) (fs : List Fd) (x y : Nat), vs = [.ref r, .str (S [x]), .str (S [y])] ∧ BkAt H C r sg fs fa ta ∧ ∀ H', Same H H' → Q (optZ (leftM fs x y)) H'
/-- a right book, its parts -/
structure Bk (K : PySem.W.Frag) (C : Addr) (H : Hp) (r : Addr) (sg : List Nat) (fs : List Fd) (fa ta : Addr) (xs : List V) : Prop where
  at_ : BkAt H C r sg fs fa ta
  fa : SqT K H fa xs
  all : FdAll K H xs fs
  ok : FsOk sg fs
  sg : SgOk sg
theorem BkAt.same {C : Addr} {H H' : Hp} {r fa ta : Addr} {sg : List Nat} {fs : List Fd} (h : BkAt H C r sg fs fa ta) (e : Same H H') : BkAt H' C r sg fs fa ta := let ⟨⟨d, x⟩, y⟩ := h; ⟨⟨d, e _ _ x⟩, e _ _ y⟩
theorem Bk.same {K : PySem.W.Frag} {C : Addr} {H H' : Hp} {r fa ta : Addr} {sg : List Nat} {fs : List Fd} {xs : List V} (h : Bk K C H r sg fs fa ta xs) (e : Same H H') : Bk K C H' r sg fs fa ta xs := ⟨h.at_.same e, Same.tup e h.fa, h.all.kp (KpT.same e), h.ok, h.sg⟩
def spEqA (K : PySem.W.Frag) (C : Addr) : Sp := fun vs H Q _ => ∃ (a : Addr) (y : V) (sg : List Nat) (fs : List Fd) (fa ta : Addr) (xs : List V), vs = [.ref a, y] ∧ Bk K C H a sg fs fa ta xs ∧
  ((∃ b sg' fs' fa' ta' xs', y = .ref b ∧ Bk K C H b sg' fs' fa' ta' xs' ∧ ∀ H', Same H H' → Q (.bl (decide (sg = sg') && decide (fs = fs'))) H') ∨ (∃ T, KindV K H y T ∧ Q (.bl false) H))
theorem kind_ty {K : PySem.W.Frag} {H : Hp} {y : V} {T : String} (h : KindV K H y T) : TyX K H y (.type T) := by
  cases h with
  | non => exact .base .non
  | int i => exact .base (.int i)
  | str z => exact .base (.str z)
  | lst h => exact ty_list h
  | tup h => exact ty_tup h
  | dct h => exact .base (.dK h)
section
variable {P : Program} {w : World} {K : PySem.W.Frag} {mg : Str → Option Value} {base : Heap} {C CT : Addr}
theorem ok_len {f : Addr} {fd : FuncData} (F : Fun K "__len__" "Book.__len__" s_Book___len__ f fd) (B : Blt mg) (R : BkC K C) : FnOk P w K mg base CX0 1 f fd ["self"] (spLen C) := by
  refine F.ok sc_Book___len__ (fun vs H Q E h => ?_) (fun cdv A outer s H vs Q E hr h => ?_)
  · obtain ⟨_, _, _, _, _, rfl, _⟩ := h
    rfl
  · obtain ⟨r, dx, fa, ta, sg, rfl, h1, hl, q⟩ := h
    refine ⟨_, pss_one (ps_ret (pe_callB call_len (by rfl) B.len (by decide +kernel) (pa_cons (pe_fld (pv 0) rfl) pa_nil))), ?_⟩
    exact ⟨_, rfl, r, C, dx, _, _, rfl, h1, R.cls, R.nL, rfl, _, _, rfl, len_S (by omega), q⟩
theorem ok_left {f : Addr} {fd : FuncData} (F : Fun K "left_of" "Book.left_of" s_Book_left_of f fd) (R : BkC K C) : FnOk P w K mg base CX0 1 f fd ["self", "last", "laid"] (spLeft C) := by
  refine F.ok sc_Book_left_of (fun vs H Q E h => ?_) (fun cdv A outer s H vs Q E hr h => ?_)
  · obtain ⟨_, _, _, _, _, _, _, rfl, _⟩ := h
    rfl
  · obtain ⟨r, fa, ta, sg, fs, x, y, rfl, ⟨⟨dx, h1⟩, h2⟩, q⟩ := h
    have hu1 : (A.deeper (envOfC "Book.left_of" (defScope s_Book_left_of) s.heap.objs.size f cdv)).units + 1 < cLine := by
      have := hr.units
      omega
    refine ⟨_, pss_one (ps_ret (pe_dget1 hu1 (pe_fld (pv 0) rfl) (pe_tup (pa_cons (pv 1) (pa_cons (pv 2) pa_nil))) ⟨rfl, rfl, rfl, rfl⟩)), ?_⟩
    refine ⟨_, rfl, r, C, dx, _, _, rfl, h1, R.cls, R.nT, rfl, ta, rfl, ?_, _, rfl, _, rfl, sz_le (n := 2) (by decide), fun p hp => ?_⟩
    · exact Or.inr ⟨_, .inl h2⟩
    have s1 := same_new (o := HO.tup [V.str (S [x]), V.str (S [y])]) hp
    refine ⟨_, DGet.t (k := [Sum.inr (S [x]), Sum.inr (S [y])]) (s1 _ _ h2) upd_same, ?_⟩
    rw [tab_val]
    exact q _ s1
structure EqT (K : PySem.W.Frag) (mg : Str → Option Value) (C : Addr) : Prop where
  gC : mg "Book" = some (.ref C)
  ty : ∀ H a dx fs, H a = some (.ins C dx fs) → TyX K H (.ref a) (.ref C)
  kit : PySem.W.kitOne K (.ref C) (.ref C) = some true
  own : OwnEqK K C
theorem ok_eq {f : Addr} {fd : FuncData} (F : Fun K "__eq__" "Book.__eq__" s_Book___eq__ f fd) (B : Blt mg) (R : BkC K C) (T : EqT K mg C) :
    FnOk P w K mg base CX0 3 f fd ["self", "other"] (spEqA K C) := by
  refine F.ok sc_Book___eq__ (fun vs H Q E h => ?_) (fun cdv A outer s H vs Q E hr h => ?_)
  · obtain ⟨_, _, _, _, _, _, _, rfl, _⟩ := h
    rfl
  · obtain ⟨a, y, sg, fs, fa, ta, xs, rfl, b1, h⟩ := h
    have hu : (A.deeper (envOfC "Book.__eq__" (defScope s_Book___eq__) s.heap.objs.size f cdv)).units + 64 < cLine := by
      have := hr.units
      omega
    refine ⟨_, (pss_one (ps_ret (pe_and (pe_callB call_isi (by rfl) B.isi (by decide +kernel) (pa_cons (pv 1) (pa_cons (pe_glob (v := .ref C) (by rfl) T.gC rfl) pa_nil))) (pe_and (pe_cmpR op_eq (pe_fld (pv 0) rfl) (pe_fld (pv 1) rfl) (nomark _)) (pe_one (pe_cmpR (op_eqD hu) (pe_fld (pv 0) rfl) (pe_fld (pv 1) rfl) (nomark _))))))), ?_⟩
    rcases h with ⟨b, sg', fs', fa', ta', xs', rfl, b2, q⟩ | ⟨T1, kd, q⟩
    · obtain ⟨⟨⟨dx, h1⟩, h2⟩, h5, h6, ok1, sg1⟩ := b1
      obtain ⟨⟨⟨dx', h3⟩, h4⟩, h7, h8, ok2, sg2⟩ := b2
      refine ⟨_, rfl, _, .ref C, .ref C, _, true, rfl, .own C, T.ty _ _ _ _ h3, T.kit, true, rfl, iteT ?_⟩
      refine ⟨_, rfl, a, C, dx, _, _, rfl, h1, R.cls, R.nL, rfl, _, rfl, b, C, dx', _, _, rfl, h3, R.cls, R.nL, rfl, rfl, _, rfl, ?_⟩
      rw [S_dec]
      have q0 := q H (Same.refl H)
      cases e1 : decide (sg = sg') with
      | false =>
        rw [e1] at q0
        exact ifF rfl q0
      | true =>
        rw [e1] at q0
        refine ifT rfl ⟨_, rfl, a, C, dx, _, _, rfl, h1, R.cls, R.nF, rfl, _, rfl, b, C, dx', _, _, rfl, h3, R.cls, R.nF, rfl, _, _, .tup h5 (fd_td h6).dp, .tup h7 (fd_td h8).dp, shaped_fds sg1.low ok1, shaped_fds sg2.low ok2, ?_⟩
        rw [eqv_fds]
        exact q0
    · exact ⟨_, rfl, _, .ref C, .type T1, _, false, rfl, .own C, kind_ty kd, T.own.kits _ kd.mem, false, rfl, iteF q⟩
end
end Lw

namespace Lw
open PySem PySem.Spec PyProof.Rows L2 Mq
open SX (S)
/-! ### what is heard of two values -/
theorem pe_fldK {X : Cx} {K0 : PySem.W.Frag} {e : Expr} {f : Str} {pos : Pos} {ta : TE} (hK : X.K = K0) (he : PE X e ta) (hb : attributeBase e f X.env (eval e X.env) = eval e X.env) : PE X (.Attribute e f pos) (tFld K0 ta f) := hK ▸ pe_fld he hb
structure ErrP (K : PySem.W.Frag) (mg : Str → Option Value) (CT CM fB : Addr) : Prop where
  txt : MqE_part.Txt K mg "BadBook" "BadBook.__init__" CT fB
  xf : XfC K CT
  nt : PySem.W.findIn K (.ref CT) "part" = some none
  held : HeldC K CT
  gM : mg "MillError" = some (.ref CM)
  kit : PySem.W.kitOne K (.ref CT) (.ref CM) = some true
  exm : PySem.W.exmOne K (.ref CT) (.ref CT) = some true
def spHeard (K : PySem.W.Frag) : Sp := fun vs H Q _ => ∃ (v1 v2 : V) (d1 d2 : PyData) (b : Bool), vs = [v1, v2, .bl b] ∧ Dg K H v1 d1 ∧ Dg K H v2 d2 ∧ d1.weight ≤ 90000 ∧ d2.weight ≤ 90000 ∧
  match dueM d1 d2 with
  | some p => ∀ H' q, Same H H' → q ≠ sysModules → H' q = some (.lst [.str "bad", p.v, .bl true]) → Q (.ref q) H'
  | none => ∀ H' q sg, v1 = .str (S sg) → d1 = .str (S sg) → Same H H' → q ≠ sysModules → H' q = some (.lst [.str "book", v1, v2, .int (sg.length : Nat)]) → Q (.ref q) H'
section
variable {P : Program} {w : World} {K : PySem.W.Frag} {mg : Str → Option Value} {base : Heap} {C CT CM : Addr}
theorem ok_heard {f fI fB fN : Addr} {fd fdI fdN : FuncData} (F : Fun K "_law_heard" "_law_heard" s__law_heard f fd) (B : Blt mg) (T : ErrP K mg CT CM fB) (R : BkC K C) (gC : mg "Book" = some (.ref C))
    (MK : Mk K C fI) (bI : Binds K fdI ["self", "letters", "folds"] []) (kI : KBn K fdI ["self", "letters", "folds"] 1 ["folds", "letters"] app2r app2r) (GI : FnOk P w K mg base (L2.CX P w) 3 fI fdI ["self", "letters", "folds"] (spBookA K C CT))
    (mN : Meth K C "__len__" fN) (bN : Binds K fdN ["self"] []) (GN : FnOk P w K mg base CX0 1 fN fdN ["self"] (spLen C)) :
    FnG P w K mg base CX0 6 f fd ["_law_letters", "_law_folds_here", "_law_is_named"] (spHeard K) := by
  refine Mq.Fun.okG F sc__law_heard (fun vs H Q E h => ?_) (fun cdv A outer s H vs Q E gA hr h => ?_)
  · obtain ⟨_, _, _, _, _, rfl, _⟩ := h
    rfl
  · obtain ⟨v1, v2, d1, d2, b, rfl, g1, g2, hw1, hw2, q⟩ := h
    have hr4 : Room 4 (A.deeper (envOfC "_law_heard" (defScope s__law_heard) s.heap.objs.size f cdv)) := hr.mono (by decide)
    have hr2 : Room 2 (A.deeper (envOfC "_law_heard" (defScope s__law_heard) s.heap.objs.size f cdv)) := hr.mono (by decide)
    refine ⟨_, (pss_cons (ps_set (i := 3) sc__law_heard.nd rfl (Or.inl rfl) pe_non)
      (pss_cons (ps_try_as (i := 5) (Wout := fun _ _ _ _ => False) (c := .ref CT) rfl rfl sc__law_heard.nd rfl rfl ⟨rfl, by decide, Or.inl T.txt.gC⟩ takes0
        (fun W pn xe tk _ => pss_cons (ps_set (i := 4) sc__law_heard.nd rfl (Or.inl rfl) (pe_ifExp (pt_val (pv 2))
            (pe_makeKS (ES := WE W) MK GI hr4 (by rfl) gC kI (fun σ => passAt tk σ) (pk_cons (pv 1) (pk_cons (pv 0) pk_nil)))
            (pe_makeS (m := 2) (ES := WE W) MK GI hr4 (by rfl) gC bI rfl (fun σ => passAt tk σ) (pa_cons (pv 0) (pa_cons (pv 1) pa_nil)))))
          (pss_one (ps_set (i := 3) sc__law_heard.nd rfl (Or.inl rfl) (Mq.pe_ls (pa_cons pe_str (pa_cons (pe_fldK (K0 := K) rfl (pv 4) rfl) (pa_cons (pe_fldK (K0 := K) rfl (pv 4) rfl) (pa_cons (pe_callB (call_lenO (E := fun _ _ _ => False) mN GN hr2 bN pass0) (by rfl) B.len (by decide +kernel) (pa_cons (pv 4) pa_nil)) pa_nil))))))))
        (fun a oe cls d pn hz hf => pss_one (ps_set (i := 3) sc__law_heard.nd rfl (Or.inl rfl) (Mq.pe_ls (pa_cons pe_str (pa_cons (pe_xf T.xf T.nt hz hf (pv 5)) (pa_cons (pe_callB (call_heldX T.held hz hf) (by rfl) B.isi (by decide +kernel) (pa_cons (pv 5) (pa_cons (pe_glob (v := .ref CM) (by rfl) T.gM rfl) pa_nil))) pa_nil)))))))
      (pss_one (ps_ret (pv 3))))), ?_⟩
    have fresh : ∀ x dx, H x = none → H dx = none → dx ≠ x → Same H (upd (upd H dx (.own x)) x (.ins C dx [])) := by
      intro x dx hx hdx hne
      have hx5 : upd H dx (.own x) x = none := (upd_ne (Ne.symm hne)).trans hx
      exact (same_new (o := HO.own x) hdx).trans (same_new (o := HO.ins C dx []) hx5)
    have good : ∀ x dx, H x = none → H dx = none → dx ≠ x → ∀ (H1 : Hp), (∀ b o, upd (upd H dx (.own x)) x (.ins C dx []) b = some o → b ≠ x → H1 b = some o) → Same H H1 := by
      intro x dx hx hdx hne H1 kp b o e
      refine kp b o (fresh x dx hx hdx hne b o e) ?_
      rintro rfl
      rw [hx] at e
      cases e
    have finB : ∀ p : Wr, (∀ H' q, Same H H' → q ≠ sysModules → H' q = some (.lst [.str "bad", p.v, .bl true]) → Q (.ref q) H') → ∀ H1 dd, Same H H1 → H1 dd = none → ∀ q, upd H1 dd (.xd [("part", p.v)]) q = none → q ≠ sysModules → Q (.ref q) (upd (upd H1 dd (.xd [("part", p.v)])) q (.lst [.str "bad", p.v, .bl true])) := by
      intro p q H1 dd s1 hdd r hr hne
      exact q _ r ((s1.trans (same_new hdd)).trans (same_new hr)) hne upd_same
    cases b with
    | true =>
      refine ⟨_, rfl, _, rfl, ifT rfl ?_⟩
      refine ⟨_, rfl, _, rfl, rfl, fun x dx hx hdx hne => ?_⟩
      have s6 := fresh x dx hx hdx hne
      refine ⟨x, dx, v1, v2, d1, d2, rfl, upd_same, g1.same s6, g2.same s6, hw1, hw2, ?_⟩
      cases e : dueM d1 d2 with
      | some p =>
        rw [e] at q
        intro H1 dd s1 hdd
        refine ⟨true, T.exm, fun _ a0 ha0 => ?_, fun z => nomatch z⟩
        exact ⟨_, rfl, rfl, rfl, dd, _, _, rfl, upd_same, rfl, _, rfl, rfl, dd, CM, _, true, rfl, rfl, upd_same, T.kit, sz_le (n := 3) (by decide), fun r hr hne => ⟨_, rfl, finB p q H1 dd (s6.trans s1) hdd r hr hne⟩⟩
      | none =>
        rw [e] at q
        intro H1 sg fs xs fa ta e1 e2 e3 e4 hfa hall hok hs hb kp
        have s1 := good x dx hx hdx hne H1 kp
        obtain ⟨⟨dx', h1⟩, _⟩ := hb
        have hsl : sg.length ≤ 90000 := by
          rw [e2] at hw1
          exact hw1
        refine ⟨rfl, _, rfl, x, C, dx', _, _, rfl, h1, R.cls, R.nL, rfl, _, rfl, x, C, dx', _, _, rfl, h1, R.cls, R.nF, rfl, _, rfl, x, dx', _, rfl, h1, ⟨x, dx', fa, ta, sg, rfl, h1, hsl, _, rfl, by omega, ?_⟩⟩
        refine ⟨sz_le (n := 4) (by decide), fun r hr hne => ⟨_, rfl, ?_⟩⟩
        refine q _ r sg e1 e2 (s1.trans (same_new hr)) hne ?_
        rw [upd_same, e1, e3]
    | false =>
      refine ⟨_, rfl, _, rfl, ifF rfl ?_⟩
      refine ⟨_, rfl, _, rfl, rfl, fun x dx hx hdx hne => ?_⟩
      have s6 := fresh x dx hx hdx hne
      refine ⟨x, dx, v1, v2, d1, d2, rfl, upd_same, g1.same s6, g2.same s6, hw1, hw2, ?_⟩
      cases e : dueM d1 d2 with
      | some p =>
        rw [e] at q
        intro H1 dd s1 hdd
        refine ⟨true, T.exm, fun _ a0 ha0 => ?_, fun z => nomatch z⟩
        exact ⟨_, rfl, rfl, rfl, dd, _, _, rfl, upd_same, rfl, _, rfl, rfl, dd, CM, _, true, rfl, rfl, upd_same, T.kit, sz_le (n := 3) (by decide), fun r hr hne => ⟨_, rfl, finB p q H1 dd (s6.trans s1) hdd r hr hne⟩⟩
      | none =>
        rw [e] at q
        intro H1 sg fs xs fa ta e1 e2 e3 e4 hfa hall hok hs hb kp
        have s1 := good x dx hx hdx hne H1 kp
        obtain ⟨⟨dx', h1⟩, _⟩ := hb
        have hsl : sg.length ≤ 90000 := by
          rw [e2] at hw1
          exact hw1
        refine ⟨rfl, _, rfl, x, C, dx', _, _, rfl, h1, R.cls, R.nL, rfl, _, rfl, x, C, dx', _, _, rfl, h1, R.cls, R.nF, rfl, _, rfl, x, dx', _, rfl, h1, ⟨x, dx', fa, ta, sg, rfl, h1, hsl, _, rfl, by omega, ?_⟩⟩
        refine ⟨sz_le (n := 4) (by decide), fun r hr hne => ⟨_, rfl, ?_⟩⟩
        refine q _ r sg e1 e2 (s1.trans (same_new hr)) hne ?_
        rw [upd_same, e1, e3]
end
end Lw

namespace Mq
open PySem PySem.Spec PyProof.Rows L2
open SX (S)
/-! ### small whole numbers in bounds -/
theorem okD_int {k : Nat} (h : k ≤ 4100) : OkD 20 0 (.int (k : Nat)) := by
  have h0 : ((List.range 4101).all fun n => decide ((PyData.int (n : Nat)).shown.length ≤ 13) && ((PyData.int (n : Nat)).showable && decide ((PyData.int (n : Nat)).weight ≤ 20))) = true := by decide +kernel
  have h1 := List.all_eq_true.mp h0 k (List.mem_range.mpr (by omega))
  obtain ⟨a, b⟩ := Bool.and_eq_true_iff.mp h1
  obtain ⟨b, c⟩ := Bool.and_eq_true_iff.mp b
  refine ⟨⟨b, Nat.le_refl 0, of_decide_eq_true c, ?_⟩, rfl⟩
  show decide ((PyData.int (k : Nat)).shown.length ≤ 60) = true
  have := of_decide_eq_true a
  exact decide_eq_true (by omega)
end Mq

namespace Lw
open PySem PySem.Spec PyProof.Rows L2 Mq
open SX (S)
/-! ### a book is made of two values just if they are its parts -/
theorem bodyD_num {sg : List Nat} : ∀ {ds : List PyData} {i : Nat} {o : Option (Str × Str)} {p : Wr}, bodyD sg ds i o = some p → ∃ k, p = .num k ∧ k < i + ds.length
  | [], _, _, _, h => by cases h
  | d :: ds, i, o, p, h => by
    unfold bodyD at h
    split at h
    · obtain ⟨k, e, hk⟩ := bodyD_num h
      exact ⟨k, e, by rw [List.length_cons]; omega⟩
    · cases h
      exact ⟨i, rfl, by rw [List.length_cons]; omega⟩
theorem due_ok {d1 d2 : PyData} {w n : Nat} {p : Wr} (h : dueM d1 d2 = some p) (h2 : OkD w n d2) (hw : w ≤ 4000) : OkD 20 0 p.d := by
  cases p with
  | letters => exact okD_of (by decide +kernel)
  | folds => exact okD_of (by decide +kernel)
  | num k =>
    refine okD_int ?_
    cases d1 with
    | str x =>
      unfold dueM at h
      dsimp only at h
      split at h
      · cases d2 with
        | tuple ds =>
          obtain ⟨k', e, hk⟩ := bodyD_num (show bodyD _ ds 0 none = some (.num k) from h)
          cases e
          obtain ⟨m, _, lo⟩ := h2.tup
          have := lo.len
          omega
        | _ => cases h
      · cases h
    | _ => cases h
theorem due_none {d1 d2 : PyData} (h : dueM d1 d2 = none) : ∃ sg, d1 = .str (S sg) := by
  cases d1 with
  | str x => exact ⟨x.cps.toList, by rw [S_of]⟩
  | _ => cases h
def lenD : PyData → Nat
  | .str x => x.cps.toList.length
  | _ => 0
def dueL (d1 d2 : PyData) : PyData :=
  match dueM d1 d2 with
  | none => .list [.str "book", d1, d2, .int (lenD d1 : Nat)]
  | some p => .list [.str "bad", p.d, .bool true]
theorem dueL_ok {d1 d2 : PyData} {w n : Nat} (h1 : OkD w n d1) (h2 : OkD w n d2) (hw : w ≤ 4000) (hn : n ≤ 20) : OkD 9000 (n + 1) (dueL d1 d2) := by
  unfold dueL
  have sW : ∀ z : Str, okB 10 0 (.str z) = true → OkD 10 n (.str z) := fun z e => (okD_of e).mono (Nat.le_refl _) (Nat.zero_le _)
  cases e : dueM d1 d2 with
  | none =>
    obtain ⟨sg, rfl⟩ := due_none e
    have hl : lenD (.str (S sg)) ≤ 4100 := by
      have := h1.text.1
      show (S sg).cps.toList.length ≤ 4100
      omega
    exact ((LsOk.cons (sW "book" (by decide +kernel)) (LsOk.cons h1 (LsOk.cons h2 (LsOk.cons ((okD_int hl).mono (Nat.le_refl _) (Nat.zero_le n)) (LsOk.nil (w := 0)))))).mono (by omega) (Nat.le_refl _)).lst
  | some p =>
    exact ((LsOk.cons (sW "bad" (by decide +kernel)) (LsOk.cons ((due_ok e h2 hw).mono (Nat.le_refl _) (Nat.zero_le n)) (LsOk.cons (w := 0) ⟨gs_bool true, rfl⟩ (LsOk.nil (w := 0))))).mono (by omega) (Nat.le_refl _)).lst
theorem two_ok {d e : PyData} {w n : Nat} (h : OkD w n d) (k : OkD w n e) (hw : w ≤ 90000) (hn : n ≤ 30) : ShowOk (.list [d, e]) :=
  ((LsOk.cons h (LsOk.cons k (LsOk.nil (w := 0)))).lst).ok (by omega) (by omega)
def tDueL (K : PySem.W.Frag) : TE := fun σ H Q => ∃ v1 v2 d1 d2 w n, σ[0]? = some (some v1) ∧ σ[1]? = some (some v2) ∧ σ[2]? = some (some (optW (dueM d1 d2))) ∧ Dg K H v1 d1 ∧ Dg K H v2 d2 ∧ OkD w n d1 ∧ OkD w n d2 ∧ w ≤ 4000 ∧
  ∀ H' a, Same H H' → Dg K H' (.ref a) (dueL d1 d2) → Q (.ref a) H'
theorem wr_dg {K : PySem.W.Frag} {H : Hp} (p : Wr) : Dg K H p.v p.d := by
  cases p with
  | letters => exact .str _
  | folds => exact .str _
  | num k => exact .int _
def spMade (K : PySem.W.Frag) : Sp := fun vs H Q _ => ∃ (v1 v2 : V) (d1 d2 : PyData) (w n : Nat), vs = [v1, v2] ∧ Dg K H v1 d1 ∧ Dg K H v2 d2 ∧ OkD w n d1 ∧ OkD w n d2 ∧ w ≤ 4000 ∧ n ≤ 20 ∧ ∀ H', Same H H' → Q (.bl true) H'
section
variable {P : Program} {w : World} {K : PySem.W.Frag} {mg : Str → Option Value} {base : Heap}
theorem ok_made {f fD fH : Addr} {fd fdD fdH : FuncData} (F : Fun K "_law_made_right" "_law_made_right" s__law_made_right f fd) (B : Blt mg)
    (FD : Fun K "_law_due" "_law_due" s__law_due fD fdD) (gD : mg "_law_due" = some (.ref fD)) (bD : Binds K fdD ["_law_letters", "_law_folds_here"] []) (GD : FnOk P w K mg base CX0 2 fD fdD ["_law_letters", "_law_folds_here"] (spDue K))
    (FH : Fun K "_law_heard" "_law_heard" s__law_heard fH fdH) (gH : mg "_law_heard" = some (.ref fH)) (bH : Binds K fdH ["_law_letters", "_law_folds_here", "_law_is_named"] []) (GH : FnG P w K mg base CX0 6 fH fdH ["_law_letters", "_law_folds_here", "_law_is_named"] (spHeard K)) :
    FnG P w K mg base CX0 7 f fd ["_law_letters", "_law_folds_here"] (spMade K) := by
  refine Mq.Fun.okG F sc__law_made_right (fun vs H Q E h => ?_) (fun cdv A outer s H vs Q E gA hr h => ?_)
  · obtain ⟨_, _, _, _, _, _, rfl, _⟩ := h
    rfl
  · obtain ⟨v1, v2, d1, d2, wd, nd, rfl, g1, g2, ok1, ok2, hw, hn, q⟩ := h
    refine ⟨_, (pss_cons (ps_par (i := 2) (j := 3) rfl sc__law_made_right.nd rfl rfl (by decide) rfl rfl (pa_cons (pe_call GD (hr.mono (by decide)) (by rfl) gD FD.kp bD .nil pass0 (pa_cons (pv 0) (pa_cons (pv 1) pa_nil))) (pa_cons (pe_callB (call_rep hr gA) (by rfl) B.repr (by decide +kernel) (pa_cons (Mq.pe_ls (pa_cons (pv 0) (pa_cons (pv 1) pa_nil))) pa_nil)) pa_nil)) (by rfl))
      (pss_cons (ps_set (i := 4) sc__law_made_right.nd rfl (Or.inl rfl) (PE_imp (t' := tDueL K) (pe_ifExp (pt_cmpR op_isN (pv 2) pe_non (nomark _)) (Mq.pe_ls (pa_cons pe_str (pa_cons (pv 0) (pa_cons (pv 1) (pa_cons (pe_callB call_len (by rfl) B.len (by decide +kernel) (pa_cons (pv 0) pa_nil)) pa_nil))))) (Mq.pe_ls (pa_cons pe_str (pa_cons (pv 2) (pa_cons pe_bl pa_nil))))) (fun σ H Q h => by
          obtain ⟨v1, v2, d1, d2, w, n, h0, h1, h2, g1, g2, ok1, ok2, hw, q⟩ := h
          refine ⟨_, h2, rfl, _, rfl, ?_⟩
          unfold dueL at q
          cases e : dueM d1 d2 with
          | none =>
            rw [e] at q h2
            obtain ⟨sg, rfl⟩ := due_none e
            cases g1
            have hl : sg.length ≤ 4000 := Nat.le_trans ok1.text.1 hw
            refine ifT rfl ⟨_, h0, _, h1, _, h0, _, _, rfl, len_S (by omega), sz_le (n := 4) (by decide), fun p hp hne => ?_⟩
            have s1 := same_new (o := HO.lst [V.str "book", .str (S sg), v2, .int (sg.length : Nat)]) hp
            exact q _ p s1 (.lst hne (SqL.of upd_same) (.cons (.str _) (.cons (.str _) (.cons (g2.same s1) (.cons (.int _) .nil)))))
          | some p =>
            rw [e] at q h2
            refine ifF (by cases p <;> rfl) ⟨_, h2, sz_le (n := 3) (by decide), fun r hr hne => ?_⟩
            have s1 := same_new (o := HO.lst [V.str "bad", p.v, .bl true]) hr
            exact q _ r s1 (.lst hne (SqL.of upd_same) (.cons (.str _) (.cons (wr_dg p) (.cons (.bl _) .nil)))))))
      (pss_cons (ps_set (i := 5) sc__law_made_right.nd rfl (Or.inl rfl) (Mq.pe_ls (pa_cons (pe_callG GH gA (hr.mono (by decide)) (by rfl) gH FH.kp bH pass0 (pa_cons (pv 0) (pa_cons (pv 1) (pa_cons pe_bl pa_nil)))) (pa_cons (pe_callG GH gA (hr.mono (by decide)) (by rfl) gH FH.kp bH pass0 (pa_cons (pv 0) (pa_cons (pv 1) (pa_cons pe_bl pa_nil)))) pa_nil))))
      (pss_one (ps_ret (pe_and (pe_cmpR op_eq (pe_callB (call_rep hr gA) (by rfl) B.repr (by decide +kernel) (pa_cons (pv 5) pa_nil)) (pe_callB (call_rep hr gA) (by rfl) B.repr (by decide +kernel) (pa_cons (Mq.pe_ls (pa_cons (pv 4) (pa_cons (pv 4) pa_nil))) pa_nil)) (nomark _)) (pe_one (pe_cmpR op_eq (pe_callB (call_rep hr gA) (by rfl) B.repr (by decide +kernel) (pa_cons (Mq.pe_ls (pa_cons (pv 0) (pa_cons (pv 1) pa_nil))) pa_nil)) (pv 3) (nomark _))))))))), ?_⟩
    have okP := two_ok ok1 ok2 (by omega) (by omega)
    have okL := dueL_ok ok1 ok2 hw hn
    have okT := two_ok okL okL (by decide) (by omega)
    have hw1 : d1.weight ≤ 90000 := Nat.le_trans ok1.gs.we (by omega)
    have hw2 : d2.weight ≤ 90000 := Nat.le_trans ok2.gs.we (by omega)
    have hear : ∀ (b : Bool) (H' : Hp) (Q' : VK) (E' : XK), Same H H' → (∀ H'' y, Same H' H'' → Dg K H'' y (dueL d1 d2) → Q' y H'') → spHeard K [v1, v2, .bl b] H' Q' E' := by
      intro b H' Q' E' s' k
      refine ⟨v1, v2, d1, d2, b, rfl, g1.same s', g2.same s', hw1, hw2, ?_⟩
      unfold dueL at k
      cases e : dueM d1 d2 with
      | some p =>
        rw [e] at k
        exact fun H'' r s'' hne z => k H'' _ s'' (.lst hne (SqL.of z) (.cons (.str _) (.cons (wr_dg p) (.cons (.bl _) .nil))))
      | none =>
        rw [e] at k
        intro H'' r sg e1 e2 s'' hne z
        have t := s'.trans s''
        refine k H'' _ s'' (.lst hne (SqL.of z) (.cons (.str _) (.cons (g1.same t) (.cons (g2.same t) (.cons ?_ .nil)))))
        rw [e2]
        exact .int _
    refine ⟨_, rfl, _, rfl, v1, v2, d1, d2, wd, nd, rfl, g1, g2, ok1, ok2, hw, fun H1 s1 => ?_⟩
    refine ⟨_, rfl, _, rfl, sz_le (n := 2) (by decide), fun pa hpa hna => ?_⟩
    have t2 := same_new (o := HO.lst [v1, v2]) hpa
    have s2 := s1.trans t2
    refine ⟨_, .list [d1, d2], rfl, .lst hna (SqL.of upd_same) (.cons (g1.same s2) (.cons (g2.same s2) .nil)), okP.sh, okP.de, okP.le, ?_⟩
    generalize upd H1 pa (.lst [v1, v2]) = H2 at s2 ⊢
    refine ⟨_, _, rfl, ?_⟩
    refine ⟨v1, v2, d1, d2, wd, nd, rfl, rfl, rfl, g1.same s2, g2.same s2, ok1, ok2, hw, fun H3 a t3 gd => ?_⟩
    have s3 := s2.trans t3
    refine ⟨_, rfl, _, rfl, ?_⟩
    dsimp only [tNil, tCons, tC]
    show spHeard K [v1, v2, .bl false] _ _ _
    refine hear false H3 _ _ s3 fun H4 y0 t4 e0 => ?_
    have s4 := s3.trans t4
    refine ⟨_, rfl, _, rfl, ?_⟩
    dsimp only [tNil, tCons, tC]
    show spHeard K [v1, v2, .bl true] _ _ _
    refine hear true H4 _ _ s4 fun H5 y1 t5 e1 => ?_
    have s5 := s4.trans t5
    refine ⟨sz_le (n := 2) (by decide), fun pt hpt hnt => ?_⟩
    have t6 := same_new (o := HO.lst [y0, y1]) hpt
    have zt : upd H5 pt (.lst [y0, y1]) pt = some (.lst [y0, y1]) := upd_same
    have e0 := (e0.same t5).same t6
    have e1 := e1.same t6
    have gd6 := ((gd.same t4).same t5).same t6
    have s6 := s5.trans t6
    generalize upd H5 pt (.lst [y0, y1]) = H6 at zt e0 e1 gd6 s6 ⊢
    refine ⟨_, rfl, _, .list [dueL d1 d2, dueL d1 d2], rfl, .lst hnt (SqL.of zt) (.cons e0 (.cons e1 .nil)), okT.sh, okT.de, okT.le, ?_⟩
    refine ⟨_, rfl, _, rfl, sz_le (n := 2) (by decide), fun pb hpb hnb => ?_⟩
    have t7 := same_new (o := HO.lst [V.ref a, .ref a]) hpb
    have s7 := s6.trans t7
    refine ⟨_, .list [dueL d1 d2, dueL d1 d2], rfl, .lst hnb (SqL.of upd_same) (.cons (gd6.same t7) (.cons (gd6.same t7) .nil)), okT.sh, okT.de, okT.le, ?_⟩
    generalize upd H6 pb (.lst [V.ref a, .ref a]) = H7 at s7 ⊢
    refine ⟨rfl, _, rfl, ifT (decide_eq_true rfl) ?_⟩
    refine ⟨_, rfl, _, rfl, sz_le (n := 2) (by decide), fun pc hpc hnc => ?_⟩
    have t8 := same_new (o := HO.lst [v1, v2]) hpc
    have s8 := s7.trans t8
    refine ⟨_, .list [d1, d2], rfl, .lst hnc (SqL.of upd_same) (.cons (g1.same s8) (.cons (g2.same s8) .nil)), okP.sh, okP.de, okP.le, ?_⟩
    refine ⟨_, rfl, rfl, ?_⟩
    rw [decide_eq_true rfl]
    exact q _ s8
end
end Lw

namespace Lw
open PySem PySem.Spec PyProof.Rows L2 Mq
open SX (S)
/-! ### right parts make a book -/
theorem fdD_inj {f g : Fd} (h : fdD f = fdD g) : f = g := by
  unfold fdD at h
  injection h with h
  injection h with h1 h
  injection h with h2 h
  injection h with h3 _
  injection h1 with h1
  injection h2 with h2
  injection h3 with h3
  have e1 := S_one.mp h1
  have e2 := S_one.mp h2
  have e3 := SX.S_inj h3
  cases f
  cases g
  simp only at e1 e2 e3
  rw [e1, e2, e3]
theorem fds_inj : ∀ {fs gs : List Fd}, fs.map fdD = gs.map fdD → fs = gs
  | [], [], _ => rfl
  | f :: fs, g :: gs, h => by
    rw [List.map_cons, List.map_cons] at h
    injection h with h1 h2
    rw [fdD_inj h1, fds_inj h2]
theorem foldD_ok {sg : List Nat} {f : Fd} (h : fdOk sg f) : foldD sg (fdD f) = true := by
  have one : ∀ c, c ∈ sg → letD sg (.str (S [c])) = true := fun c hc => decide_eq_true hc
  show (letD sg (.str (S [f.x])) && (letD sg (.str (S [f.y])) && (letD sg (.str (S f.z)) || nilD (.str (S f.z))))) = true
  rw [one _ h.1, one _ h.2.1]
  rcases h.2.2 with e | ⟨c, hc, e⟩
  · rw [e]
    show (true && (true && (_ || true))) = true
    simp
  · rw [e, one _ hc]
    rfl
theorem ok_next {sg : List Nat} {fs : List Fd} (h : FsOk sg fs) {i : Nat} {f : Fd} (hf : fs[i]? = some f) : okNext (fs.take i) f = true := by
  have hi : i < fs.length := by
    rcases Nat.lt_or_ge i fs.length with h | h
    · exact h
    · rw [List.getElem?_eq_none h] at hf
      cases hf
  unfold okNext
  cases e : (fs.take i).getLast? with
  | none => rfl
  | some g =>
    rw [List.getLast?_eq_getElem?, List.length_take, Nat.min_eq_left (by omega)] at e
    have hi0 : i ≠ 0 := by
      rintro rfl
      cases e
    rw [List.getElem?_take, if_pos (by omega)] at e
    exact h.asc (i - 1) i (by omega) hi g f e hf
theorem body_right {sg : List Nat} {fs : List Fd} (h : FsOk sg fs) : ∀ n i, i + n = fs.length → bodyD sg ((fs.map fdD).drop i) i (lastK (fs.take i)) = none
  | 0, i, e => by
    rw [List.drop_of_length_le (by rw [List.length_map]; omega)]
    rfl
  | n + 1, i, e => by
    have hi : i < fs.length := by omega
    have hf : fs[i]? = some fs[i] := List.getElem?_eq_getElem hi
    have hd : (fs.map fdD)[i]? = some (fdD fs[i]) := by rw [List.getElem?_map, hf]; rfl
    have ih := body_right h n (i + 1) (by omega)
    rw [List.take_add_one, hf] at ih
    rw [body_step hd, foldD_ok (h.ok _ (List.getElem_mem hi)), show pairD (fdD fs[i]) = keyF fs[i] from rfl, ← okNext_eq, ok_next h hf]
    rw [show (fs.take i ++ (some fs[i]).toList) = fs.take i ++ [fs[i]] from rfl, lastK_snoc] at ih
    exact ih
theorem due_right {sg : List Nat} {fs : List Fd} (hs : SgOk sg) (h : FsOk sg fs) : dueM (.str (S sg)) (.tuple (fs.map fdD)) = none := by
  rw [due_str, hs.ok, if_pos rfl]
  have := body_right h fs.length 0 (by omega)
  rw [List.drop_zero, List.take_zero] at this
  exact this
theorem fd_ok {sg : List Nat} {f : Fd} (hs : LowL sg) (h : fdOk sg f) : OkD 6 1 (fdD f) := by
  have o : ∀ c, c ∈ sg → OkD 1 0 (.str (S [c])) := fun c hc => okD_str (fun d hd => by rw [List.mem_singleton.mp hd]; exact hs c hc) (Nat.le_refl 1)
  have z : OkD 1 0 (.str (S f.z)) := by
    rcases h.2.2 with e | ⟨c, hc, e⟩
    · rw [e]
      exact okD_str (fun d hd => by cases hd) (Nat.zero_le 1)
    · rw [e]
      exact o c hc
  exact ((LsOk.cons (o _ h.1) (LsOk.cons (o _ h.2.1) (LsOk.cons z (LsOk.nil (w := 0))))).mono (by decide) (Nat.le_refl 0)).tup
theorem fds_ok {sg : List Nat} (hs : LowL sg) : ∀ {fs : List Fd}, (∀ f ∈ fs, fdOk sg f) → LsOk (7 * fs.length) 1 (fs.map fdD)
  | [], _ => LsOk.nil
  | f :: fs, h => by
    have ih := fds_ok hs fun g hg => h g (List.mem_cons_of_mem _ hg)
    refine (LsOk.cons (fd_ok hs (h f List.mem_cons_self)) ih).mono ?_ (Nat.le_refl _)
    rw [List.length_cons]
    omega
/-- the parts of a book, as values -/
structure Pts (K : PySem.W.Frag) (H : Hp) (sg : List Nat) (fs : List Fd) (fa : Addr) (xs : List V) : Prop where
  fa : SqT K H fa xs
  all : FdAll K H xs fs
  ok : FsOk sg fs
  hs : SgOk sg
  few : fs.length ≤ 30
  short : sg.length ≤ 30
theorem Pts.same {K : PySem.W.Frag} {H H' : Hp} {sg : List Nat} {fs : List Fd} {fa : Addr} {xs : List V} (h : Pts K H sg fs fa xs) (e : Same H H') : Pts K H' sg fs fa xs := ⟨Same.tup e h.fa, h.all.kp (KpT.same e), h.ok, h.hs, h.few, h.short⟩
theorem Pts.kp {K : PySem.W.Frag} {H H' : Hp} {sg : List Nat} {fs : List Fd} {fa : Addr} {xs : List V} (h : Pts K H sg fs fa xs) (e : KpT K H H') : Pts K H' sg fs fa xs := ⟨e _ _ h.fa, h.all.kp e, h.ok, h.hs, h.few, h.short⟩
theorem Pts.td {K : PySem.W.Frag} {H : Hp} {sg : List Nat} {fs : List Fd} {fa : Addr} {xs : List V} (h : Pts K H sg fs fa xs) : Td K H (.ref fa) (.tuple (fs.map fdD)) := .tup h.fa (fd_td h.all)
theorem Pts.okF {K : PySem.W.Frag} {H : Hp} {sg : List Nat} {fs : List Fd} {fa : Addr} {xs : List V} (h : Pts K H sg fs fa xs) : OkD 210 2 (.tuple (fs.map fdD)) :=
  ((fds_ok h.hs.low h.ok.ok).mono (by have := h.few; omega) (Nat.le_refl _)).tup
theorem Pts.okS {K : PySem.W.Frag} {H : Hp} {sg : List Nat} {fs : List Fd} {fa : Addr} {xs : List V} (h : Pts K H sg fs fa xs) : OkD 30 0 (.str (S sg)) := okD_str h.hs.low h.short
theorem mk_right {K : PySem.W.Frag} {C CT : Addr} {H : Hp} {sg : List Nat} {fs : List Fd} {fa : Addr} {xs : List V} (p : Pts K H sg fs fa xs) {x dx : Addr} (hx : H x = none) (hdx : H dx = none) (hne : dx ≠ x) {Q : VK} {E : XK}
    (q : ∀ H' ta, Same H H' → Bk K C H' x sg fs fa ta xs → Q .non H') : spBookA K C CT [.ref x, .str (S sg), .ref fa] (upd (upd H dx (.own x)) x (.ins C dx [])) Q E := by
  have hx5 : upd H dx (.own x) x = none := (upd_ne (Ne.symm hne)).trans hx
  have s6 : Same H (upd (upd H dx (.own x)) x (.ins C dx [])) := (same_new (o := HO.own x) hdx).trans (same_new (o := HO.ins C dx []) hx5)
  have w1 : (PyData.str (S sg)).weight ≤ 90000 := Nat.le_trans p.okS.gs.we (by decide)
  have w2 : (PyData.tuple (fs.map fdD)).weight ≤ 90000 := Nat.le_trans p.okF.gs.we (by decide)
  refine ⟨x, dx, _, _, _, _, rfl, upd_same, .str _, (p.td.same s6).dg, w1, w2, ?_⟩
  rw [due_right p.hs p.ok]
  intro H1 sg' fs' xs' fa' ta e1 e2 e3 e4 hfa hall hok hs hb kp
  have eS := SX.S_inj (V.str.inj e1)
  subst eS
  cases e3
  have eF : fs = fs' := by
    injection e4 with e4
    exact fds_inj e4
  subst eF
  have s1 : Same H H1 := by
    intro b o e
    refine kp b o (s6 b o e) ?_
    rintro rfl
    rw [hx] at e
    cases e
  exact q H1 ta s1 ⟨hb, Same.tup s1 p.fa, p.all.kp (KpT.same s1), hok, hs⟩
theorem cx0_at {X : Cx} {σ : L2.St} {E : XK} : PassesAt CX0 X σ E := fun _ _ _ _ _ _ z => z.elim
theorem optZ_dg {K : PySem.W.Frag} {H : Hp} (o : Option (List Nat)) : Dg K H (optZ o) (optZD o) := by
  cases o with
  | none => exact .non
  | some z => exact .str _
theorem optZ_dp {K : PySem.W.Frag} {H : Hp} (o : Option (List Nat)) : Dp K H (optZ o) (optZD o) := by
  cases o with
  | none => exact .non
  | some z => exact .str _
theorem left_ok {sg : List Nat} {fs : List Fd} (hs : LowL sg) (h : FsOk sg fs) (x y : Nat) : OkD 1 0 (optZD (leftM fs x y)) := by
  unfold leftM
  cases hf : fs.find? fun f => decide (f.x = x) && decide (f.y = y) with
  | none => exact (okD_of (by decide +kernel) : OkD 1 0 .none)
  | some f =>
    show OkD 1 0 (.str (S f.z))
    rcases (h.ok f (List.mem_of_find?_eq_some hf)).2.2 with e | ⟨c, hc, e⟩
    · rw [e]
      exact okD_str (fun d hd => by cases hd) (Nat.zero_le 1)
    · rw [e]
      exact okD_str (fun d hd => by rw [List.mem_singleton.mp hd]; exact hs c hc) (Nat.le_refl 1)
theorem shaped_two {sg : List Nat} {fs : List Fd} (hs : LowL sg) (h : FsOk sg fs) : SeqAt.shaped (.tuple [.str (S sg), .tuple (fs.map fdD)]) = true := by
  have a := shaped_fds hs h
  obtain ⟨a1, a2⟩ := Bool.and_eq_true_iff.mp (show ((PyData.tuple (fs.map fdD)).canLay0 && decide ((PyData.tuple (fs.map fdD)).depth ≤ 64)) = true from a)
  have d1 : PyData.depthAll (fs.map fdD) ≤ 1 := (fds_ok hs h.ok).de
  show (((PyData.str (S sg)).canLay0 && ((PyData.tuple (fs.map fdD)).canLay0 && true)) && decide (max 0 (max (PyData.depthAll (fs.map fdD) + 1) 0) + 1 ≤ 64)) = true
  rw [lay_txt hs, a1, decide_eq_true (by omega)]
  rfl
theorem eqv_two (sg sg' : List Nat) (fs fs' : List Fd) : PyData.eqv (.tuple [.str (S sg'), .tuple (fs'.map fdD)]) (.tuple [.str (S sg), .tuple (fs.map fdD)]) = (decide (sg = sg') && decide (fs = fs')) := by
  have e : (S sg' == S sg) = decide (sg = sg') := by
    rw [Bool.eq_iff_iff]
    simp only [beq_iff_eq, decide_eq_true_eq]
    exact ⟨fun h => (SX.S_inj h).symm, fun h => by rw [h]⟩
  have e2 : decide (fs' = fs) = decide (fs = fs') := decide_eq_decide.mpr ⟨Eq.symm, Eq.symm⟩
  show ((S sg' == S sg) && (PyData.eqv (.tuple (fs'.map fdD)) (.tuple (fs.map fdD)) && true)) = _
  rw [e, eqv_fds, Bool.and_true, e2]
end Lw

namespace Lw
open PySem PySem.Spec PyProof.Rows L2 Mq
open SX (S)
/-! ### a book tells what its folds leave, and is equal to books with its parts alone -/
theorem Bk.ins {K : PySem.W.Frag} {C : Addr} {H : Hp} {r : Addr} {sg : List Nat} {fs : List Fd} {fa ta : Addr} {xs : List V} (h : Bk K C H r sg fs fa ta xs) : ∃ dx, H r = some (.ins C dx (bkF sg fa ta)) := h.at_.1
def spKept (K : PySem.W.Frag) : Sp := fun vs H Q _ => ∃ (sg sg' : List Nat) (fs fs' : List Fd) (fa fa' m : Addr) (xs xs' : List V), vs = [.str (S sg), .ref fa, .ref m] ∧ Pts K H sg fs fa xs ∧ SqT K H m [.str (S sg'), .ref fa'] ∧ Pts K H sg' fs' fa' xs' ∧ ∀ H', Same H H' → Q (.bl true) H'
section
variable {P : Program} {w : World} {K : PySem.W.Frag} {mg : Str → Option Value} {base : Heap} {C CT : Addr}
theorem ok_kept {f fI fE fS fL : Addr} {fd fdI fdE fdS fdL : FuncData} (F : Fun K "_law_kept_right" "_law_kept_right" s__law_kept_right f fd) (B : Blt mg) (R : BkC K C) (T : EqT K mg C)
    (MK : Mk K C fI) (bI : Binds K fdI ["self", "letters", "folds"] []) (GI : FnOk P w K mg base (L2.CX P w) 3 fI fdI ["self", "letters", "folds"] (spBookA K C CT))
    (mE : Meth K C "__eq__" fE) (bE : Binds K fdE ["self", "other"] []) (GE : FnOk P w K mg base CX0 3 fE fdE ["self", "other"] (spEqA K C))
    (mS : Meth K C "__str__" fS) (bS : Binds K fdS ["self"] []) (GS : FnOk P w K mg base CX0 1 fS fdS ["self"] (spStr K C))
    (mL : Meth K C "left_of" fL) (bL : Binds K fdL ["self", "last", "laid"] []) (kL : KBn K fdL ["self", "last", "laid"] 1 ["laid", "last"] app2r app2r) (GL : FnOk P w K mg base CX0 1 fL fdL ["self", "last", "laid"] (spLeft C)) :
    FnG P w K mg base CX0 7 f fd ["_law_letters", "_law_folds_here", "_law_mate"] (spKept K) := by
  refine Mq.Fun.okG F sc__law_kept_right (fun vs H Q E h => ?_) (fun cdv A outer s H vs Q E gA hr h => ?_)
  · obtain ⟨_, _, _, _, _, _, _, _, _, rfl, _⟩ := h
    rfl
  · obtain ⟨sg, sg', fs, fs', fa, fa', m, xs, xs', rfl, p1, hm, p2, q⟩ := h
    have hr4 : Room 4 (A.deeper (envOfC "_law_kept_right" (defScope s__law_kept_right) s.heap.objs.size f cdv)) := hr.mono (by decide)
    have hr3 : Room 3 (A.deeper (envOfC "_law_kept_right" (defScope s__law_kept_right) s.heap.objs.size f cdv)) := hr.mono (by decide)
    have hr1 : Room 1 (A.deeper (envOfC "_law_kept_right" (defScope s__law_kept_right) s.heap.objs.size f cdv)) := hr.mono (by decide)
    have hu64 : (A.deeper (envOfC "_law_kept_right" (defScope s__law_kept_right) s.heap.objs.size f cdv)).units + 64 < cLine := by
      have := hr.un
      omega
    have hu1 : (A.deeper (envOfC "_law_kept_right" (defScope s__law_kept_right) s.heap.objs.size f cdv)).units + 1 < cLine := by omega
    refine ⟨_, (pss_cons (ps_par3 (i := 3) (j := 4) (l := 5) rfl sc__law_kept_right.nd rfl rfl rfl (by decide) (by decide) (by decide) rfl rfl rfl (pa_cons (pe_makeS (m := 2) (ES := WE (fun _ _ _ _ => False)) MK GI hr4 (by rfl) T.gC bI rfl (fun σ => passAt takes0 σ) (pa_cons (pv 0) (pa_cons (pv 1) pa_nil))) (pa_cons (pe_makeS (m := 2) (ES := WE (fun _ _ _ _ => False)) MK GI hr4 (by rfl) T.gC bI rfl (fun σ => passAt takes0 σ) (pa_cons (pe_ix ix_tup (pv 2) pe_int (fun _ _ => rfl)) (pa_cons (pe_ix ix_tup (pv 2) pe_int (fun _ _ => rfl)) pa_nil))) (pa_cons pe_dnewT pa_nil))) (by rfl))
      (pss_cons (ps_for (passes_of rfl) rfl (pi_tup (pv 1)) (pg_tup rfl (pgs_cons (pg_name (i := 6) sc__law_kept_right.nd rfl (Or.inl rfl)) (pgs_cons (pg_name (i := 7) sc__law_kept_right.nd rfl (Or.inl rfl)) (pgs_cons (pg_name (i := 8) sc__law_kept_right.nd rfl (Or.inl rfl)) pgs_nil))))
        (pss_one (ps_dput hu1 (pv 5) (pe_tup (pa_cons (pv 6) (pa_cons (pv 7) pa_nil))) (pv 8) rfl)))
      (pss_cons (ps_for (passes_of rfl) rfl (pi_str (pv 0)) (pg_name (i := 6) sc__law_kept_right.nd rfl (Or.inl rfl))
        (pss_one (ps_for (passes_of rfl) rfl (pi_str (pv 0)) (pg_name (i := 7) sc__law_kept_right.nd rfl (Or.inl rfl))
          (pss_cons (ps_set (i := 9) sc__law_kept_right.nd rfl (Or.inl rfl) (Mq.pe_ls (pa_cons (pe_methT (E := fun _ _ _ _ => False) (pv 3) R.cls mL GL hr1 bL (fun _ => cx0_at) (pa_cons (pv 6) (pa_cons (pv 7) pa_nil))) (pa_cons (pe_methK (E := fun _ _ _ _ => False) (pv 3) R.cls mL GL hr1 kL (fun _ => cx0_at) (pk_cons (pv 7) (pk_cons (pv 6) pk_nil))) pa_nil))))
          (pss_one (ps_if (pt_cmpR op_ne (pe_callB (call_rep hr gA) (by rfl) B.repr (by decide +kernel) (pa_cons (pv 9) pa_nil)) (pe_callB (call_repP hr gA) (by rfl) B.repr (by decide +kernel) (pa_cons (pe_op op_rep (Mq.pe_ls (pa_cons (pe_dget1 hu1 (pv 5) (pe_tup (pa_cons (pv 6) (pa_cons (pv 7) pa_nil))) ⟨rfl, rfl, rfl, rfl⟩) pa_nil)) pe_int) pa_nil)) (nomark _)) (pss_one ps_dead) pss_nil))))))
      (pss_cons (ps_set (i := 10) sc__law_kept_right.nd rfl (Or.inl rfl) (pe_cmpR (op_eqD hu64) (pv 2) (pe_tup (pa_cons (pv 0) (pa_cons (pv 1) pa_nil))) (nomark _)))
      (pss_cons (ps_if (pt_cmpR (op_neD hu64) (Mq.pe_ls (pa_cons (pe_cmpR (op_eqO (E := fun _ _ _ => False) mE GE hr3 bE pass0) (pv 3) (pv 4) (nomark _)) (pa_cons (pe_cmpR (op_eqO (E := fun _ _ _ => False) mE GE hr3 bE pass0) (pv 4) (pv 3) (nomark _)) (pa_cons (pe_cmpR (op_neOO (E := fun _ _ _ => False) T.own.own mE GE hr4 bE pass0) (pv 3) (pv 4) (nomark _)) pa_nil)))) (Mq.pe_ls (pa_cons (pv 10) (pa_cons (pv 10) (pa_cons (pe_not (pv 10)) pa_nil)))) (nomark _)) (pss_one ps_dead) pss_nil)
      (pss_cons (ps_if (PW.pt (pw_or (pt_not (pt_cmpR (op_eqO (E := fun _ _ _ => False) mE GE hr3 bE pass0) (pv 3) (pe_makeS (m := 2) (ES := WE (fun _ _ _ _ => False)) MK GI hr4 (by rfl) T.gC bI rfl (fun σ => passAt takes0 σ) (pa_cons (pv 0) (pa_cons (pv 1) pa_nil))) (nomark _))) (pw_or1 (pt_cmpR (op_neOO (E := fun _ _ _ => False) T.own.own mE GE hr4 bE pass0) (pv 3) (pe_makeS (m := 2) (ES := WE (fun _ _ _ _ => False)) MK GI hr4 (by rfl) T.gC bI rfl (fun σ => passAt takes0 σ) (pa_cons (pv 0) (pa_cons (pv 1) pa_nil))) (nomark _))))) (pss_one ps_dead) pss_nil)
      (pss_cons (ps_for (passes_of rfl) rfl (pi_tup (pe_tup (pa_cons pe_non (pa_cons (pv 0) (pa_cons (pv 1) (pa_cons (pe_tup (pa_cons (pv 0) (pa_cons (pv 1) pa_nil))) (pa_cons (Mq.pe_ls (pa_cons (pv 0) (pa_cons (pv 1) pa_nil))) (pa_cons pe_dnewK (pa_cons pe_int (pa_cons (pe_callTy (call_strO (E := fun _ _ _ => False) mS GS hr3 bS pass0) (by rfl) B.str (by decide +kernel) (pa_cons (pv 3) pa_nil)) pa_nil)))))))))) (pg_name (i := 8) sc__law_kept_right.nd rfl (Or.inl rfl))
        (pss_one (ps_if (PW.pt (pw_or (pt_cmpR (op_eqOV (E := fun _ _ _ => False) mE GE hr3 bE pass0) (pv 3) (pv 8) (nomark _)) (pw_or (pt_cmpR (op_eqVO (E := fun _ _ _ => False) T.own.own mE GE hr3 bE pass0) (pv 8) (pv 3) (nomark _)) (pw_or1 (pt_not (pt_cmpR (op_neOV (E := fun _ _ _ => False) T.own.own mE GE hr4 bE pass0) (pv 3) (pv 8) (nomark _))))))) (pss_one ps_dead) pss_nil)))
      (pss_one (ps_ret (pe_cmpR op_eq (pe_callB (call_rep hr gA) (by rfl) B.repr (by decide +kernel) (pa_cons (Mq.pe_ls (pa_cons (pe_fld (pv 3) rfl) (pa_cons (pe_fld (pv 3) rfl) pa_nil))) pa_nil)) (pe_callB (call_rep hr gA) (by rfl) B.repr (by decide +kernel) (pa_cons (Mq.pe_ls (pa_cons (pv 0) (pa_cons (pv 1) pa_nil))) pa_nil)) (nomark _))))))))))), ?_⟩
    have at0 : atI [V.str (S sg'), V.ref fa'] 0 = some (.str (S sg')) := atI_nat (j := 0) rfl
    have at1 : atI [V.str (S sg'), V.ref fa'] 1 = some (.ref fa') := atI_nat (j := 1) rfl
    refine ⟨_, rfl, _, rfl, rfl, fun x dx hx hdx hne => ?_⟩
    refine mk_right p1 hx hdx hne fun H1 ta s1 b1 => ⟨rfl, ?_⟩
    have hm1 := Same.tup s1 hm
    refine ⟨_, rfl, m, _, 0, _, rfl, rfl, hm1, at0, _, rfl, m, _, 1, _, rfl, rfl, hm1, at1, rfl, fun y dy hy hdy hny => ?_⟩
    refine mk_right (p2.same s1) hy hdy hny fun H2 tb s2 b2 => ⟨rfl, ?_⟩
    refine fun ld hld => ⟨_, _, _, rfl, ?_⟩
    have s3 := same_new (o := HO.dT []) hld
    have zd : upd H2 ld (.dT []) ld = some (.dT (tabF (fs.take 0))) := upd_same
    have s02 := s1.trans s2
    have b1 := b1.same s2
    have s03 := s02.trans s3
    refine ⟨_, rfl, fa, rfl, ⟨_, Same.tup s03 p1.fa⟩, ?_⟩
    refine for_it (walk_tup (K := K) (a := fa) (xs := xs)) (fun i σ H' => Same H2 H' ∧ H' ld = some (.dT (tabF (fs.take i))) ∧ ∃ o6 o7 o8, σ = [some (.str (S sg)), some (.ref fa), some (.ref m), some (.ref x), some (.ref y), some (.ref ld), o6, o7, o8, none, none])
      ⟨s3, zd, _, _, _, rfl⟩ (fun i σ H' hi p => Same.tup (s02.trans p.1) p1.fa) ?_ ?_
    · rintro i v σ H4 H4' hi ⟨s4, zd4, o6, o7, o8, rfl⟩ ⟨rfl, hv⟩
      obtain ⟨f, hf, b, rfl, hb⟩ := p1.all.at hv
      have hb4 := Same.tup (s02.trans s4) hb
      refine ⟨b, _, rfl, hb4, rfl, _, _, rfl, _, _, rfl, _, _, rfl, rfl, ?_⟩
      refine ⟨_, rfl, _, rfl, _, rfl, _, rfl, sz_le (n := 2) (by decide), fun p hp => ?_⟩
      have s5 := same_new (o := HO.tup [V.str (S [f.x]), V.str (S [f.y])]) hp
      have zd5 := s5 _ _ zd4
      have hp5 : upd H4' p (.tup [V.str (S [f.x]), V.str (S [f.y])]) p = some (.tup [V.str (S [f.x]), V.str (S [f.y])]) := upd_same
      have hlen : (tabF (fs.take i)).length < sizeLine := by
        unfold tabF
        rw [List.length_map, List.length_take]
        have := p1.few
        exact sz_lt (by omega)
      have hput : putK (tabF (fs.take i)) [Sum.inr (S [f.x]), Sum.inr (S [f.y])] (V.str (S f.z)) = tabF (fs.take (i + 1)) := by
        rw [putK_new (key_ne p1.ok hf), List.take_add_one, hf]
        exact (tab_snoc _ f).symm
      refine ⟨ld, upd (upd H4' p (.tup [V.str (S [f.x]), V.str (S [f.y])])) ld (.dT (tabF (fs.take (i + 1)))), rfl, Or.inr ⟨tabF (fs.take i), [Sum.inr (S [f.x]), Sum.inr (S [f.y])], p, zd5, rfl, hp5, hlen, by rw [hput]⟩, ?_⟩
      refine ⟨fun b2 o2 e2 => ?_, upd_same, _, _, _, rfl⟩
      rw [upd_ne (ne_of_none e2 hld)]
      exact (s4.trans s5) b2 o2 e2
    rintro σ H5 ⟨s5, zd, o6, o7, o8, rfl⟩
    rw [p1.all.len, List.take_length] at zd
    have b1 := b1.same s5
    have b2 := b2.same s5
    have s05 := s02.trans s5
    have p1 := p1.same s05
    have p2 := p2.same s05
    have hm := Same.tup s05 hm
    clear s5 s03 s02 s3 hld s2 s1 hm1
    refine ⟨_, rfl, S sg, rfl, ?_⟩
    refine for_it (walk_S sg) (fun i σ H' => Same H5 H' ∧ ∃ o6 o7 o8 o9, σ = [some (.str (S sg)), some (.ref fa), some (.ref m), some (.ref x), some (.ref y), some (.ref ld), o6, o7, o8, o9, none])
      ⟨Same.refl _, _, _, _, _, rfl⟩ (fun _ _ _ _ _ => trivial) ?_ ?_
    · rintro i v σ H6 H6' hi ⟨s6, o6, o7, o8, o9, rfl⟩ ⟨rfl, rfl⟩
      refine ⟨_, rfl, S sg, rfl, ?_⟩
      refine for_it (walk_S sg) (fun j σ H' => Same H5 H' ∧ ∃ o7 o8 o9, σ = [some (.str (S sg)), some (.ref fa), some (.ref m), some (.ref x), some (.ref y), some (.ref ld), some (.str (S [sg.getD i 0])), o7, o8, o9, none])
        ⟨s6, _, _, _, rfl⟩ (fun _ _ _ _ _ => trivial) ?_ ?_
      · rintro j v σ H7 H7' hj ⟨s7, o7, o8, o9, rfl⟩ ⟨rfl, rfl⟩
        have bb := b1.same s7
        obtain ⟨dx', hins⟩ := bb.ins
        refine ⟨_, rfl, x, dx', _, rfl, hins, rfl, _, rfl, _, rfl, x, fa, ta, sg, fs, sg.getD i 0, sg.getD j 0, rfl, bb.at_, fun H8 s8 => ?_⟩
        refine ⟨_, rfl, x, dx', _, rfl, s8 _ _ hins, rfl, _, rfl, _, rfl, rfl, x, fa, ta, sg, fs, sg.getD i 0, sg.getD j 0, rfl, (bb.same s8).at_, fun H9 s9 => ?_⟩
        refine ⟨sz_le (n := 2) (by decide), fun pt hpt hnt => ?_⟩
        have okO := two_ok (left_ok p1.hs.low p1.ok (sg.getD i 0) (sg.getD j 0)) (left_ok p1.hs.low p1.ok (sg.getD i 0) (sg.getD j 0)) (by decide) (by decide)
        have nod : (PyData.list [optZD (leftM fs (sg.getD i 0) (sg.getD j 0)), optZD (leftM fs (sg.getD i 0) (sg.getD j 0))]).hasDict = false := by cases leftM fs (sg.getD i 0) (sg.getD j 0) <;> rfl
        generalize hl : leftM fs (sg.getD i 0) (sg.getD j 0) = o at okO nod ⊢
        have t10 := same_new (o := HO.lst [optZ o, optZ o]) hpt
        have zt : upd H9 pt (.lst [optZ o, optZ o]) pt = some (.lst [optZ o, optZ o]) := upd_same
        have s10 := ((Same.trans s7 s8).trans s9).trans t10
        generalize upd H9 pt (.lst [optZ o, optZ o]) = H10 at zt s10 ⊢
        refine ⟨_, rfl, _, .list [optZD o, optZD o], rfl, .lst hnt (SqL.of zt) (.cons (optZ_dg o) (.cons (optZ_dg o) .nil)), okO.sh, okO.de, okO.le, ?_⟩
        have zd10 := s10 _ _ zd
        refine ⟨_, rfl, ld, rfl, Or.inr ⟨_, .inl zd10⟩, _, rfl, _, rfl, sz_le (n := 2) (by decide), fun pk hpk => ?_⟩
        have t11 := same_new (o := HO.tup [V.str (S [sg.getD i 0]), V.str (S [sg.getD j 0])]) hpk
        refine ⟨_, DGet.t (k := [Sum.inr (S [sg.getD i 0]), Sum.inr (S [sg.getD j 0])]) (t11 _ _ zd10) upd_same, ?_⟩
        rw [tab_val, hl]
        refine ⟨sz_le (n := 1) (by decide), fun q1 hq1 _ => ⟨q1, 2, _, rfl, rfl, upd_same, by decide, by decide, sz_le (n := 2) (by decide), fun q2 hq2 => ?_⟩⟩
        have s12 := ((s10.trans t11).trans (same_new (o := HO.lst [optZ o]) hq1)).trans (same_new (o := HO.lst (List.replicate (2 : Int).toNat [optZ o]).flatten) hq2)
        refine ⟨q2, .list [optZD o, optZD o], rfl, .lst (SqL.of (xs := [optZ o, optZ o]) upd_same) (.cons (optZ_dp o) (.cons (optZ_dp o) .nil)), okO.sh, nod, okO.de, okO.le, ?_⟩
        exact ⟨rfl, _, rfl, ifF (by rw [decide_eq_true rfl]; rfl) ⟨s12, _, _, _, rfl⟩⟩
      · rintro σ H7 ⟨s7, o7, o8, o9, rfl⟩
        exact ⟨s7, _, _, _, _, rfl⟩
    rintro σ H6 ⟨s6, o6, o7, o8, o9, rfl⟩
    have b1 := b1.same s6
    have b2 := b2.same s6
    have s06 := s05.trans s6
    have p1 := p1.same s6
    have p2 := p2.same s6
    have hm := Same.tup s6 hm
    clear s6 zd s05
    refine ⟨_, rfl, _, rfl, _, rfl, sz_le (n := 2) (by decide), fun pm hpm => ?_⟩
    have t7 := same_new (o := HO.tup [V.str (S sg), V.ref fa]) hpm
    refine ⟨_, _, (Td.two' (Same.tup t7 hm) (.str _) (p2.same t7).td).dp, (Td.two' (Or.inl (Or.inl upd_same)) (.str _) (p1.same t7).td).dp, shaped_two p2.hs.low p2.ok, shaped_two p1.hs.low p1.ok, ?_⟩
    rw [eqv_two]
    have s07 := s06.trans t7
    have b1 := b1.same t7
    have b2 := b2.same t7
    have p1 := p1.same t7
    have p2 := p2.same t7
    generalize upd H6 pm (.tup [V.str (S sg), V.ref fa]) = H7 at s07 b1 b2 p1 p2 ⊢
    clear t7 hpm hm s06
    have eL : (decide (sg' = sg) && decide (fs' = fs)) = (decide (sg = sg') && decide (fs = fs')) := by
      rw [show decide (sg' = sg) = decide (sg = sg') from decide_eq_decide.mpr ⟨Eq.symm, Eq.symm⟩, show decide (fs' = fs) = decide (fs = fs') from decide_eq_decide.mpr ⟨Eq.symm, Eq.symm⟩]
    obtain ⟨dx1, i1⟩ := b1.ins
    obtain ⟨dy1, i2⟩ := b2.ins
    refine ⟨_, rfl, _, rfl, x, y, dx1, dy1, _, _, rfl, rfl, i1, i2, x, .ref y, sg, fs, fa, ta, xs, rfl, b1, Or.inl ⟨y, sg', fs', fa', tb, xs', rfl, b2, fun H8 s8 => ⟨_, rfl, ?_⟩⟩⟩
    refine ⟨_, rfl, _, rfl, y, x, dy1, dx1, _, _, rfl, rfl, s8 _ _ i2, s8 _ _ i1, y, .ref x, sg', fs', fa', tb, xs', rfl, b2.same s8, Or.inl ⟨x, sg, fs, fa, ta, xs, rfl, b1.same s8, fun H9 s9 => ⟨_, rfl, ?_⟩⟩⟩
    have s89 := Same.trans s8 s9
    refine ⟨_, rfl, _, rfl, x, y, dx1, dy1, _, _, rfl, rfl, s89 _ _ i1, s89 _ _ i2, x, .ref y, sg, fs, fa, ta, xs, rfl, b1.same s89, Or.inl ⟨y, sg', fs', fa', tb, xs', rfl, b2.same s89, fun H10 s10 => ⟨_, rfl, ?_⟩⟩⟩
    rw [eL]
    generalize (decide (sg = sg') && decide (fs = fs')) = L
    have s010 := s89.trans s10
    refine ⟨sz_le (n := 3) (by decide), fun pa hpa _ => ?_⟩
    have t11 := same_new (o := HO.lst [V.bl L, .bl L, .bl (!L)]) hpa
    refine ⟨_, rfl, _, rfl, _, rfl, _, rfl, sz_le (n := 3) (by decide), fun pb hpb _ => ?_⟩
    have t12 := same_new (o := HO.lst [V.bl L, .bl L, .bl (!L)]) hpb
    refine ⟨.list [.bool L, .bool L, .bool (!L)], .list [.bool L, .bool L, .bool (!L)], .lst (SqL.of (t12 _ _ upd_same)) (.cons (.bl _) (.cons (.bl _) (.cons (.bl _) .nil))), .lst (SqL.of upd_same) (.cons (.bl _) (.cons (.bl _) (.cons (.bl _) .nil))), rfl, rfl, ?_⟩
    refine ⟨_, rfl, ifF (by cases L <;> rfl) ?_⟩
    have s012 := (s010.trans t11).trans t12
    generalize upd (upd H10 pa (.lst [V.bl L, .bl L, .bl (!L)])) pb (.lst [V.bl L, .bl L, .bl (!L)]) = H12 at s012 ⊢
    have b1 := b1.same s012
    have p1 := p1.same s012
    have s012' := s07.trans s012
    have i1 := s012 _ _ i1
    clear t12 t11 s010 s10 s89 s9 s8 i2 b2 p2 eL s012 hpa hpb s07
    have ye : (decide (sg = sg) && decide (fs = fs)) = true := by rw [decide_eq_true rfl, decide_eq_true rfl]; rfl
    refine ⟨_, rfl, _, rfl, _, rfl, rfl, fun z dz hz hdz hnz => ?_⟩
    refine mk_right p1 hz hdz hnz fun H13 tz s13 b3 => ⟨rfl, ?_⟩
    obtain ⟨dz1, i3⟩ := b3.ins
    refine ⟨x, z, dx1, dz1, _, _, rfl, rfl, s13 _ _ i1, i3, x, .ref z, sg, fs, fa, ta, xs, rfl, b1.same s13, Or.inl ⟨z, sg, fs, fa, tz, xs, rfl, b3, fun H14 s14 => ⟨_, rfl, ?_⟩⟩⟩
    rw [ye]
    refine ⟨_, rfl, ifF rfl ?_⟩
    have s13 := Same.trans s13 s14
    have b1 := b1.same s13
    have p1 := p1.same s13
    have s014 := s012'.trans s13
    have i1 := s13 _ _ i1
    clear s14 i3 b3 s13 s012'
    refine ⟨_, rfl, _, rfl, _, rfl, rfl, fun z2 dz2 hz2 hdz2 hnz2 => ?_⟩
    refine mk_right p1 hz2 hdz2 hnz2 fun H15 tz2 s15 b3 => ⟨rfl, ?_⟩
    obtain ⟨dz1, i3⟩ := b3.ins
    refine ⟨x, z2, dx1, dz1, _, _, rfl, rfl, s15 _ _ i1, i3, x, .ref z2, sg, fs, fa, ta, xs, rfl, b1.same s15, Or.inl ⟨z2, sg, fs, fa, tz2, xs, rfl, b3, fun H16 s16 => ⟨_, rfl, ?_⟩⟩⟩
    rw [ye]
    refine ⟨_, rfl, ifF rfl ?_⟩
    have s16 := Same.trans s15 s16
    have b1 := b1.same s16
    have p1 := p1.same s16
    have s016 := s014.trans s16
    have i1 := s16 _ _ i1
    clear i3 b3 s15 s16 s014 ye
    refine ⟨_, rfl, _, rfl, _, rfl, _, rfl, sz_le (n := 2) (by decide), fun t4 ht4 => ?_⟩
    have u1 := same_new (o := HO.tup [V.str (S sg), V.ref fa]) ht4
    have k4 : SqT K (upd H16 t4 (.tup [V.str (S sg), V.ref fa])) t4 [V.str (S sg), V.ref fa] := Or.inl (Or.inl upd_same)
    generalize upd H16 t4 (.tup [V.str (S sg), V.ref fa]) = G1 at u1 k4 ⊢
    refine ⟨_, rfl, _, rfl, sz_le (n := 2) (by decide), fun l5 hl5 _ => ?_⟩
    have u2 := same_new (o := HO.lst [V.str (S sg), V.ref fa]) hl5
    have k5 : upd G1 l5 (.lst [V.str (S sg), V.ref fa]) l5 = some (.lst [V.str (S sg), V.ref fa]) := upd_same
    generalize upd G1 l5 (.lst [V.str (S sg), V.ref fa]) = G2 at u2 k5 ⊢
    refine fun d6 hd6 => ?_
    have u3 := same_new (o := HO.dK []) hd6
    have k6 : upd G2 d6 (.dK []) d6 = some (.dK []) := upd_same
    generalize upd G2 d6 (.dK []) = G3 at u3 k6 ⊢
    have u13 := (Same.trans u1 u2).trans u3
    have bb := b1.same u13
    refine ⟨_, rfl, x, dx1, _, rfl, u13 _ _ i1, x, fa, ta, sg, fs, xs, rfl, bb.at_, bb.fa, bb.all, bb.ok, by have := p1.short; omega, fun G4 u4 => ⟨_, rfl, ?_⟩⟩
    refine ⟨sz_le (n := 8) (by decide), fun t8 ht8 => ?_⟩
    have kinds : ∀ v ∈ [V.non, .str (S sg), .ref fa, .ref t4, .ref l5, .ref d6, .int 0, .str (S (pageT sg fs))], ∃ T, KindV K G4 v T := by
      intro v hv
      simp only [List.mem_cons, List.not_mem_nil, or_false] at hv
      rcases hv with rfl | rfl | rfl | rfl | rfl | rfl | rfl | rfl
      · exact ⟨_, .non⟩
      · exact ⟨_, .str _⟩
      · exact ⟨_, .tup (Same.tup (u13.trans u4) p1.fa)⟩
      · exact ⟨_, .tup (Same.tup ((u2.trans u3).trans u4) k4)⟩
      · exact ⟨_, .lst (SqL.of ((u3.trans u4) _ _ k5))⟩
      · exact ⟨_, .dct (u4 _ _ k6)⟩
      · exact ⟨_, .int _⟩
      · exact ⟨_, .str _⟩
    generalize [V.non, .str (S sg), .ref fa, .ref t4, .ref l5, .ref d6, .int 0, .str (S (pageT sg fs))] = its at kinds ⊢
    have u5 := same_new (o := HO.tup its) ht8
    have k8 : SqT K (upd G4 t8 (.tup its)) t8 its := Or.inl (Or.inl upd_same)
    have u15 := (u13.trans u4).trans u5
    have kinds : ∀ v ∈ its, ∃ T, KindV K (upd G4 t8 (.tup its)) v T := fun v hv => let ⟨T, h⟩ := kinds v hv; ⟨T, h.same u5⟩
    generalize upd G4 t8 (.tup its) = G5 at u15 k8 kinds ⊢
    have b1 := b1.same u15
    have p1 := p1.same u15
    have s017 := s016.trans u15
    have i1 := u15 _ _ i1
    clear u5 u4 u13 u3 u2 u1 k4 k5 k6 bb u15 s016
    refine ⟨t8, rfl, ⟨_, k8⟩, ?_⟩
    refine for_it (walk_tup (K := K) (a := t8) (xs := its)) (fun i σ H' => Same G5 H' ∧ ∃ o6 o7 o8 o9 o10, σ = [some (.str (S sg)), some (.ref fa), some (.ref m), some (.ref x), some (.ref y), some (.ref ld), o6, o7, o8, o9, o10])
      ⟨Same.refl _, _, _, _, _, _, rfl⟩ (fun i σ H' hi p => Same.tup p.1 k8) ?_ ?_
    · rintro i v σ H4 H4' hi ⟨s4, o6, o7, o8, o9, o10, rfl⟩ ⟨rfl, hv⟩
      obtain ⟨T1, kd⟩ := kinds v (List.mem_of_getElem? hv)
      have kd := kd.same s4
      have bb := b1.same s4
      have ii := s4 _ _ i1
      refine ⟨_, rfl, _, rfl, x, dx1, _, T1, rfl, ii, kd, x, v, sg, fs, fa, ta, xs, rfl, bb, Or.inr ⟨T1, kd, _, rfl, _, rfl, ifF rfl ?_⟩⟩
      refine ⟨_, rfl, _, rfl, x, dx1, _, T1, rfl, ii, kd, x, v, sg, fs, fa, ta, xs, rfl, bb, Or.inr ⟨T1, kd, _, rfl, _, rfl, ifF rfl ?_⟩⟩
      refine ⟨_, rfl, _, rfl, x, dx1, _, T1, rfl, ii, kd, x, v, sg, fs, fa, ta, xs, rfl, bb, Or.inr ⟨T1, kd, _, rfl, _, rfl, ifF rfl ?_⟩⟩
      exact ⟨s4, _, _, _, _, _, rfl⟩
    rintro σ H4 ⟨s4, o6, o7, o8, o9, o10, rfl⟩
    have ii := s4 _ _ i1
    have p1 := p1.same s4
    have okP := two_ok (p1.okS.mono (w' := 210) (n' := 2) (by decide) (by decide)) p1.okF (by decide) (by decide)
    refine ⟨_, rfl, x, C, dx1, _, _, rfl, ii, R.cls, R.nL, rfl, _, rfl, x, C, dx1, _, _, rfl, ii, R.cls, R.nF, rfl, sz_le (n := 2) (by decide), fun pc hpc hnc => ?_⟩
    have u1 := same_new (o := HO.lst [V.str (S sg), V.ref fa]) hpc
    refine ⟨_, .list [.str (S sg), .tuple (fs.map fdD)], rfl, .lst hnc (SqL.of upd_same) (.cons (.str _) (.cons (p1.same u1).td.dg .nil)), okP.sh, okP.de, okP.le, ?_⟩
    refine ⟨_, rfl, _, rfl, sz_le (n := 2) (by decide), fun pd hpd hnd => ?_⟩
    have u2 := same_new (o := HO.lst [V.str (S sg), V.ref fa]) hpd
    refine ⟨_, .list [.str (S sg), .tuple (fs.map fdD)], rfl, .lst hnd (SqL.of upd_same) (.cons (.str _) (.cons ((p1.same u1).same u2).td.dg .nil)), okP.sh, okP.de, okP.le, ?_⟩
    refine ⟨rfl, ?_⟩
    rw [decide_eq_true rfl]
    exact q _ (((s017.trans s4).trans u1).trans u2)
end
end Lw

namespace Lw
open PySem PySem.Spec PyProof.Rows L2 Mq
open SX (S)
/-! ### other values in the place of one -/
theorem odd_off {K : PySem.W.Frag} {N : Addr → Prop} {w n : Nat} {H H' : Hp} {D C : Addr} {T : Nat} {v : V} (h : OdD K N w n H v) (hN : ∀ a, N a → a ≠ D ∧ a ≠ C) (e : Off D C H H') (k : DeckAt D C T H) : OdD K N w n H' v :=
  let ⟨d, a, b⟩ := h; ⟨d, a.kp (fun x o hx z => e x o (hN x hx).1 (hN x hx).2 z) (fun _ _ z => e.tup k z), b⟩
theorem none_of {H H' : Hp} {p : Addr} (e : Same H H') (h : H' p = none) : H p = none := by
  cases x : H p with
  | none => rfl
  | some o =>
    rw [e _ _ x] at h
    cases h
theorem mem_twice {α : Type} {xs : List α} {x : α} (h : x ∈ (List.replicate (2 : Int).toNat xs).flatten) : x ∈ xs := by
  obtain ⟨l, h1, h2⟩ := List.mem_flatten.mp h
  rw [(List.mem_replicate.mp h1).2] at h2
  exact h2
def spOdd (K : PySem.W.Frag) : Sp := fun vs H Q _ => ∃ (D C : Addr) (T : Nat) (v : V) (d : PyData) (n : Nat), vs = [.ref D, v] ∧ DeckAt D C T H ∧ T ≤ 950000 ∧ Td K H v d ∧ OkD d.weight n d ∧ d.weight ≤ 900 ∧
  ∀ H' u, DeckAt D C (T + 1) H' → Off D C H H' → OdD K (fun a => H a = none) (2 * d.weight + 200) (n + 3) H' u → Q u H'
section
variable {P : Program} {w : World} {K : PySem.W.Frag} {mg : Str → Option Value} {base : Heap}
theorem ok_odd {f fP : Addr} {fd fdP : FuncData} (F : Fun K "_law_odd" "_law_odd" s__law_odd f fd) (B : Blt mg)
    (FP : Fun K "_law_pick" "_law_pick" s__law_pick fP fdP) (gP : mg "_law_pick" = some (.ref fP)) (bP : Binds K fdP ["_law_deck_here", "_law_some"] []) (GP : FnOk P w K mg base CX0 2 fP fdP ["_law_deck_here", "_law_some"] spPick) :
    FnOk P w K mg base CX0 3 f fd ["_law_deck_here", "_law_it"] (spOdd K) := by
  refine F.ok sc__law_odd (fun vs H Q E h => ?_) (fun cdv A outer s H vs Q E hr h => ?_)
  · obtain ⟨_, _, _, _, _, _, rfl, _⟩ := h
    rfl
  · obtain ⟨D, C, T, v, dv, nv, rfl, hdk, hT, hv, hok, hwv, q⟩ := h
    refine ⟨_, (pss_cons (ps_set (i := 2) sc__law_odd.nd rfl (Or.inl rfl) (Mq.pe_ls (pa_cons pe_non (pa_cons pe_bl (pa_cons pe_bl (pa_cons pe_int (pa_cons pe_int (pa_cons (pe_un un_neg pe_int) (pa_cons (pe_op op_pow pe_int pe_int) (pa_cons pe_str (pa_cons pe_str (pa_cons pe_str (pa_cons pe_str (pa_cons pe_str (pa_cons pe_str (pa_cons (pe_tup pa_nil) (pa_cons (pe_tup (pa_cons (pe_tup pa_nil) pa_nil)) (pa_cons (Mq.pe_ls pa_nil) (pa_cons pe_dnewK (pa_cons (pe_tup (pa_cons pe_str (pa_cons pe_str (pa_cons pe_str pa_nil)))) pa_nil))))))))))))))))))))
      (pss_cons (ps_if (pt_val (pe_callB call_isi (by rfl) B.isi (by decide +kernel) (pa_cons (pv 1) (pa_cons (pe_bltn (v := .ty "tuple") (by rfl) B.tuple (by decide +kernel) rfl) pa_nil)))) (pss_one (ps_set (i := 2) sc__law_odd.nd rfl (Or.inl rfl) (pe_op op_cat (pv 2) (pe_op op_rep (Mq.pe_ls (pa_cons (pe_callTy call_lsN (by rfl) B.list (by decide +kernel) (pa_cons (pv 1) pa_nil)) (pa_cons (pe_slice sl_tupN (pv 1) (po_some pe_int) po_none) (pa_cons (pe_slice sl_tupN (pv 1) po_none (po_some (pe_un un_neg pe_int))) (pa_cons (pe_op op_catN (pv 1) (pe_slice sl_tupN (pv 1) po_none (po_some pe_int))) (pa_cons (pe_revT (pv 1)) pa_nil)))))) pe_int)))) pss_nil)
      (pss_cons (ps_if (pt_val (pe_callB call_isi (by rfl) B.isi (by decide +kernel) (pa_cons (pv 1) (pa_cons (pe_bltn (v := .ty "str") (by rfl) B.str (by decide +kernel) rfl) pa_nil)))) (pss_one (ps_set (i := 2) sc__law_odd.nd rfl (Or.inl rfl) (pe_op op_cat (pv 2) (pe_op op_rep (Mq.pe_ls (pa_cons (pe_op op_add_str (pv 1) pe_str) (pa_cons (pe_revS (pv 1)) (pa_cons (pe_bm0 PySem.F.plainAttrs_str PySem.F.slot_str_upper PySem.F.type_str_upper mt_upper (pv 1)) (pa_cons (pe_tup (pa_cons (pv 1) pa_nil)) (pa_cons (pe_op op_add_str (pv 1) pe_str) pa_nil)))))) pe_int)))) pss_nil)
      (pss_one (ps_ret (pe_call GP (hr.mono (by decide)) (by rfl) gP FP.kp bP .nil pass0 (pa_cons (pv 0) (pa_cons (pv 2) pa_nil)))))))), ?_⟩
    have hND : ∀ a, (fun a => H a = none) a → a ≠ D ∧ a ≠ C := fun a ha => new_ne hdk ha
    have fin : ∀ (H2 : Hp) (ps : Addr) (xs : List V), Same H H2 → H2 ps = some (.lst xs) → H ps = none → 0 < xs.length → xs.length ≤ 40 → (∀ v ∈ xs, OdD K (fun a => H a = none) (2 * dv.weight + 200) (nv + 3) H2 v) → spPick [.ref D, .ref ps] H2 Q E := by
      intro H2 ps xs s2 zs hn h0 h1 hv
      refine ⟨D, C, T, .ref ps, rfl, hdk.same s2, by omega, Or.inr ⟨ps, xs, rfl, zs, (new_ne hdk hn).2, h0, by omega, fun H3 u hu dk3 off3 => ?_⟩⟩
      exact q H3 u dk3 ((Off.same s2).trans off3) (odd_off (hv u hu) hND off3 (hdk.same s2))
    refine ⟨_, rfl, ⟨_, _, rfl, rfl, ⟨by decide, by decide, by decide⟩, sz_le (n := 0) (by decide), fun p1 hp1 => ?_⟩⟩
    have z1 : SqT K (upd H p1 (.tup [])) p1 [] := Or.inl (Or.inl upd_same)
    have s1 := same_new (o := HO.tup []) hp1
    generalize upd H p1 (.tup []) = G1 at z1 s1 ⊢
    refine ⟨sz_le (n := 0) (by decide), fun p2 hp2 => ?_⟩
    have z2 : SqT K (upd G1 p2 (.tup [])) p2 [] := Or.inl (Or.inl upd_same)
    have t2 := same_new (o := HO.tup []) hp2
    have z1 := Same.tup t2 z1
    have s2 := s1.trans t2
    generalize upd G1 p2 (.tup []) = G2 at z1 z2 s2 ⊢
    clear s1 t2
    refine ⟨sz_le (n := 1) (by decide), fun p3 hp3 => ?_⟩
    have z3 : SqT K (upd G2 p3 (.tup [.ref p2])) p3 [.ref p2] := Or.inl (Or.inl upd_same)
    have t3 := same_new (o := HO.tup [.ref p2]) hp3
    have z1 := Same.tup t3 z1
    have z2 := Same.tup t3 z2
    have s3 := s2.trans t3
    generalize upd G2 p3 (.tup [.ref p2]) = G3 at z1 z2 z3 s3 ⊢
    clear s2 t3
    refine ⟨sz_le (n := 0) (by decide), fun p4 hp4 hn4 => ?_⟩
    have n4 : H p4 = none := none_of s3 hp4
    have z4 : upd G3 p4 (.lst []) p4 = some (.lst []) := upd_same
    have t4 := same_new (o := HO.lst []) hp4
    have z1 := Same.tup t4 z1
    have z2 := Same.tup t4 z2
    have z3 := Same.tup t4 z3
    have s4 := s3.trans t4
    generalize upd G3 p4 (.lst []) = G4 at z1 z2 z3 z4 s4 ⊢
    clear s3 t4
    refine fun p5 hp5 => ?_
    have n5 : H p5 = none := none_of s4 hp5
    have z5 : upd G4 p5 (.dK []) p5 = some (.dK []) := upd_same
    have t5 := same_new (o := HO.dK []) hp5
    have z1 := Same.tup t5 z1
    have z2 := Same.tup t5 z2
    have z3 := Same.tup t5 z3
    have z4 := t5 _ _ z4
    have s5 := s4.trans t5
    generalize upd G4 p5 (.dK []) = G5 at z1 z2 z3 z4 z5 s5 ⊢
    clear s4 t5
    refine ⟨sz_le (n := 3) (by decide), fun p6 hp6 => ?_⟩
    have z6 : SqT K (upd G5 p6 (.tup [.str "a", .str "b", .str ""])) p6 [.str "a", .str "b", .str ""] := Or.inl (Or.inl upd_same)
    have t6 := same_new (o := HO.tup [.str "a", .str "b", .str ""]) hp6
    have z1 := Same.tup t6 z1
    have z2 := Same.tup t6 z2
    have z3 := Same.tup t6 z3
    have z4 := t6 _ _ z4
    have z5 := t6 _ _ z5
    have s6 := s5.trans t6
    generalize upd G5 p6 (.tup [.str "a", .str "b", .str ""]) = G6 at z1 z2 z3 z4 z5 z6 s6 ⊢
    clear s5 t6
    refine ⟨sz_le (n := 18) (by decide), fun ps hps _ => ?_⟩
    have t7 := same_new (o := HO.lst [.non, .bl true, .bl false, .int 0, .int 1, .int (-1), .int ((10 : Int) ^ Int.toNat 39), .str "", .str "a", .str "b", .str "ab", .str "A", .str "-", .ref p1, .ref p3, .ref p4, .ref p5, .ref p6]) hps
    have nps : H ps = none := none_of s6 hps
    have s7 := s6.trans t7
    have all : ∀ v ∈ [V.non, .bl true, .bl false, .int 0, .int 1, .int (-1), .int ((10 : Int) ^ Int.toNat 39), .str "", .str "a", .str "b", .str "ab", .str "A", .str "-", .ref p1, .ref p3, .ref p4, .ref p5, .ref p6], OdD K (fun a => H a = none) (2 * dv.weight + 200) (nv + 3) G6 v := by
      intro v hv
      simp only [List.mem_cons, List.not_mem_nil, or_false] at hv
      rcases hv with rfl | rfl | rfl | rfl | rfl | rfl | rfl | rfl | rfl | rfl | rfl | rfl | rfl | rfl | rfl | rfl | rfl | rfl
      · exact ⟨_, .non, (okD_of (by decide +kernel) : OkD 200 2 _).mono (by omega) (by omega)⟩
      · exact ⟨_, .bl _, (okD_of (by decide +kernel) : OkD 200 2 _).mono (by omega) (by omega)⟩
      · exact ⟨_, .bl _, (okD_of (by decide +kernel) : OkD 200 2 _).mono (by omega) (by omega)⟩
      · exact ⟨_, .int _, (okD_of (by decide +kernel) : OkD 200 2 _).mono (by omega) (by omega)⟩
      · exact ⟨_, .int _, (okD_of (by decide +kernel) : OkD 200 2 _).mono (by omega) (by omega)⟩
      · exact ⟨_, .int _, (okD_of (by decide +kernel) : OkD 200 2 _).mono (by omega) (by omega)⟩
      · exact ⟨_, .int _, (okD_of (by decide +kernel) : OkD 200 2 _).mono (by omega) (by omega)⟩
      · exact ⟨_, .str _, (okD_of (by decide +kernel) : OkD 200 2 _).mono (by omega) (by omega)⟩
      · exact ⟨_, .str _, (okD_of (by decide +kernel) : OkD 200 2 _).mono (by omega) (by omega)⟩
      · exact ⟨_, .str _, (okD_of (by decide +kernel) : OkD 200 2 _).mono (by omega) (by omega)⟩
      · exact ⟨_, .str _, (okD_of (by decide +kernel) : OkD 200 2 _).mono (by omega) (by omega)⟩
      · exact ⟨_, .str _, (okD_of (by decide +kernel) : OkD 200 2 _).mono (by omega) (by omega)⟩
      · exact ⟨_, .str _, (okD_of (by decide +kernel) : OkD 200 2 _).mono (by omega) (by omega)⟩
      · exact ⟨_, .tup z1 .nil, (okD_of (by decide +kernel) : OkD 200 2 _).mono (by omega) (by omega)⟩
      · exact ⟨_, .tup z3 (.cons (.tup z2 .nil) .nil), (okD_of (by decide +kernel) : OkD 200 2 _).mono (by omega) (by omega)⟩
      · exact ⟨_, .lst n4 hn4 z4 .nil, (okD_of (by decide +kernel) : OkD 200 2 _).mono (by omega) (by omega)⟩
      · exact ⟨_, .dct n5 z5, (okD_of (by decide +kernel) : OkD 200 2 _).mono (by omega) (by omega)⟩
      · exact ⟨_, .tup z6 (.cons (.str _) (.cons (.str _) (.cons (.str _) .nil))), (okD_of (by decide +kernel) : OkD 200 2 _).mono (by omega) (by omega)⟩
    have all7 := fun v hv => (all v hv).same t7
    have zps : upd G6 ps (.lst [.non, .bl true, .bl false, .int 0, .int 1, .int (-1), .int ((10 : Int) ^ Int.toNat 39), .str "", .str "a", .str "b", .str "ab", .str "A", .str "-", .ref p1, .ref p3, .ref p4, .ref p5, .ref p6]) ps = some (.lst [.non, .bl true, .bl false, .int 0, .int 1, .int (-1), .int ((10 : Int) ^ Int.toNat 39), .str "", .str "a", .str "b", .str "ab", .str "A", .str "-", .ref p1, .ref p3, .ref p4, .ref p5, .ref p6]) := upd_same
    have hl0 : ([V.non, .bl true, .bl false, .int 0, .int 1, .int (-1), .int ((10 : Int) ^ Int.toNat 39), .str "", .str "a", .str "b", .str "ab", .str "A", .str "-", .ref p1, .ref p3, .ref p4, .ref p5, .ref p6] : List V).length = 18 := rfl
    clear all z1 z2 z3 z4 z5 z6 t7 s6 hps hn4 n4 n5 hp1 hp2 hp3 hp4 hp5 hp6
    dsimp only
    generalize e7 : upd G6 ps (.lst [.non, .bl true, .bl false, .int 0, .int 1, .int (-1), .int ((10 : Int) ^ Int.toNat 39), .str "", .str "a", .str "b", .str "ab", .str "A", .str "-", .ref p1, .ref p3, .ref p4, .ref p5, .ref p6]) = G7 at zps s7 all7 ⊢
    generalize [V.non, .bl true, .bl false, .int 0, .int 1, .int (-1), .int ((10 : Int) ^ Int.toNat 39), .str "", .str "a", .str "b", .str "ab", .str "A", .str "-", .ref p1, .ref p3, .ref p4, .ref p5, .ref p6] = zs at zps all7 hl0
    clear e7
    have to : ∀ {u : V} {d : PyData} {w m : Nat} {H' : Hp}, Dv K (fun a => H a = none) H' u d → OkD w m d → w ≤ 2 * dv.weight + 200 → m ≤ nv + 3 → OdD K (fun a => H a = none) (2 * dv.weight + 200) (nv + 3) H' u := fun h k hw hm => ⟨_, h, k.mono hw hm⟩
    have pick : ∀ (G : Hp) (p : Addr) (ys : List V), Same H G → G p = some (.lst ys) → H p = none → 0 < ys.length → ys.length ≤ 40 → (∀ v ∈ ys, OdD K (fun a => H a = none) (2 * dv.weight + 200) (nv + 3) G v) → spPick [.ref D, .ref p] G Q E := fin
    cases hv with
    | int i =>
      refine ⟨_, rfl, _, .ty "tuple", _, _, false, rfl, .ty _, .base (.int _), kit_ty (by decide +kernel), false, rfl, ifF rfl ?_⟩
      refine ⟨_, rfl, _, .ty "str", _, _, false, rfl, .ty _, .base (.int _), kit_ty (by decide +kernel), false, rfl, ifF rfl ?_⟩
      exact ⟨_, rfl, _, rfl, fin _ ps _ s7 zps nps (by omega) (by omega) all7⟩
    | str x =>
      obtain ⟨l, rfl⟩ : ∃ l, x = S l := ⟨x.cps.toList, (Mq.S_of x).symm⟩
      have hlow : ∀ c ∈ l, c < 128 := hok.text.2
      have hlw : (PyData.str (S l)).weight = l.length := rfl
      rw [hlw] at hwv to
      have hl0' : (S l).length ≤ 900 := by
        rw [SX.S_len]
        exact hwv
      have low1 : ∀ c : Nat, c < 128 → OkD (l.length + 1) 0 (.str (S (l ++ [c]))) := fun c h3 => okD_str (fun x hx => by
        rcases List.mem_append.mp hx with hx | hx
        · exact hlow x hx
        · rw [List.mem_singleton.mp hx]
          exact h3) (by rw [List.length_append]; exact Nat.le_refl _)
      refine ⟨_, rfl, _, .ty "tuple", _, _, false, rfl, .ty _, .base (.str _), kit_ty (by decide +kernel), false, rfl, ifF rfl ?_⟩
      refine ⟨_, rfl, _, .ty "str", _, _, true, rfl, .ty _, .base (.str _), kit_ty (by decide +kernel), true, rfl, ifT rfl ?_⟩
      have e1 : (S l ++ "a" : Str) = S (l ++ [97]) := by
        rw [show ("a" : Str) = S [97] by decide +kernel, SX.S_cat]
      have e2 : (S l ++ " " : Str) = S (l ++ [32]) := by
        rw [show (" " : Str) = S [32] by decide +kernel, SX.S_cat]
      obtain ⟨u, eu, ul, uh⟩ := upper_low l hlow
      refine ⟨_, rfl, _, rfl, S l, "a", rfl, rfl, sz_le (by rw [show ("a" : Str).length = 1 by decide +kernel]; omega), ?_⟩
      rw [e1]
      refine ⟨_, rfl, S l, rfl, sz_le (by omega), ?_⟩
      refine ⟨_, rfl, rfl, S l, rfl, rfl, by omega, ?_⟩
      rw [eu]
      refine ⟨_, rfl, sz_le (n := 1) (by decide), fun p1 hp1 => ?_⟩
      have z1 : SqT K (upd G7 p1 (.tup [.str (S l)])) p1 [.str (S l)] := Or.inl (Or.inl upd_same)
      have t1 := same_new (o := HO.tup [.str (S l)]) hp1
      have s8 := s7.trans t1
      have zps := t1 _ _ zps
      have all7 := fun v hv => (all7 v hv).same t1
      generalize upd G7 p1 (.tup [.str (S l)]) = G8 at z1 zps all7 s8 ⊢
      clear t1 s7
      refine ⟨_, rfl, S l, " ", rfl, rfl, sz_le (by rw [show (" " : Str).length = 1 by decide +kernel]; omega), ?_⟩
      rw [e2]
      refine ⟨sz_le (n := 5) (by decide), fun p2 hp2 _ => ?_⟩
      have t2 := same_new (o := HO.lst [.str (S (l ++ [97])), .str (revS (S l)), .str (S u), .ref p1, .str (S (l ++ [32]))]) hp2
      have z2 : upd G8 p2 (.lst [.str (S (l ++ [97])), .str (revS (S l)), .str (S u), .ref p1, .str (S (l ++ [32]))]) p2 = some (.lst [.str (S (l ++ [97])), .str (revS (S l)), .str (S u), .ref p1, .str (S (l ++ [32]))]) := upd_same
      have five : ∀ v ∈ [V.str (S (l ++ [97])), .str (revS (S l)), .str (S u), .ref p1, .str (S (l ++ [32]))], OdD K (fun a => H a = none) (2 * l.length + 200) (nv + 3) G8 v := by
        intro v hv
        simp only [List.mem_cons, List.not_mem_nil, or_false] at hv
        rcases hv with rfl | rfl | rfl | rfl | rfl
        · exact to (.str _) (low1 97 (by decide)) (by omega) (by omega)
        · exact to (d := .str (S l.reverse)) (.str _) (okD_str (w := l.length) (fun c hc => hlow c (List.mem_reverse.mp hc)) (by rw [List.length_reverse]; exact Nat.le_refl _)) (by omega) (by omega)
        · exact to (.str _) (okD_str (w := l.length) uh (by omega)) (by omega) (by omega)
        · exact to (.tup z1 (.cons (.str _) .nil)) (LsOk.cons (okD_str (w := l.length) hlow (Nat.le_refl _)) (LsOk.nil (w := 0))).tup (by omega) (by omega)
        · exact to (.str _) (low1 32 (by decide)) (by omega) (by omega)
      have five := fun v hv => (five v hv).same t2
      have zps := t2 _ _ zps
      have all7 := fun v hv => (all7 v hv).same t2
      have s9 := s8.trans t2
      have hf0 : [V.str (S (l ++ [97])), .str (revS (S l)), .str (S u), .ref p1, .str (S (l ++ [32]))].length = 5 := rfl
      generalize upd G8 p2 (.lst [.str (S (l ++ [97])), .str (revS (S l)), .str (S u), .ref p1, .str (S (l ++ [32]))]) = G9 at z2 zps all7 five s9 ⊢
      generalize [V.str (S (l ++ [97])), .str (revS (S l)), .str (S u), .ref p1, .str (S (l ++ [32]))] = fs at z2 five hf0
      refine ⟨p2, 2, fs, rfl, rfl, z2, by decide, by decide, sz_le (by show fs.length * 2 ≤ 1000000; omega), fun p3 hp3 => ?_⟩
      have t3 := same_new (o := HO.lst (List.replicate (2 : Int).toNat fs).flatten) hp3
      have z3 : upd G9 p3 (.lst (List.replicate (2 : Int).toNat fs).flatten) p3 = some (.lst (List.replicate (2 : Int).toNat fs).flatten) := upd_same
      have zps := t3 _ _ zps
      have hfl : (List.replicate (2 : Int).toNat fs).flatten.length = 10 := by
        show (fs ++ (fs ++ [])).length = 10
        rw [List.length_append, List.length_append, hf0]
        rfl
      refine ⟨ps, p3, zs, _, rfl, rfl, zps, z3, sz_le (by rw [hl0, hfl]; decide), fun p4 hp4 => ?_⟩
      have s10 := s9.trans t3
      have n4 := none_of s10 hp4
      have t4 := same_new (o := HO.lst (zs ++ (List.replicate (2 : Int).toNat fs).flatten)) hp4
      refine ⟨_, rfl, _, rfl, pick _ p4 _ (s10.trans t4) upd_same n4 (by rw [List.length_append]; omega) (by rw [List.length_append]; omega) (fun v hv => ?_)⟩
      rcases List.mem_append.mp hv with hv | hv
      · exact ((all7 v hv).same t3).same t4
      · exact ((five v (mem_twice hv)).same t3).same t4
    | @tup p xs ds hz htd =>
      obtain ⟨m, rfl, lo⟩ := hok.tup
      have hW : (PyData.tuple ds).weight = PyData.weightAll ds := rfl
      rw [hW] at hwv to lo
      have hlen : xs.length ≤ 900 := by
        rw [htd.len]
        exact Nat.le_trans lo.len hwv
      have hz7 := Same.tup s7 hz
      have dvs : ∀ {H' : Hp}, Same H H' → DvAll K (fun a => H a = none) H' xs ds := fun e => (htd.same e).dv
      refine ⟨_, rfl, _, .ty "tuple", _, _, true, rfl, .ty _, ty_tup hz7, kit_ty (by decide +kernel), true, rfl, ifT rfl ?_⟩
      refine ⟨_, rfl, _, rfl, p, _, rfl, hz7, fun p1 hp1 hn1 => ?_⟩
      have z1 : upd G7 p1 (.lst xs) p1 = some (.lst xs) := upd_same
      have n1 : H p1 = none := none_of s7 hp1
      have t1 := same_new (o := HO.lst xs) hp1
      have s8 := s7.trans t1
      have zps := t1 _ _ zps
      have hz8 := Same.tup t1 hz7
      have all7 := fun v hv => (all7 v hv).same t1
      generalize upd G7 p1 (.lst xs) = G8 at z1 zps all7 s8 hz8 ⊢
      clear t1 s7 hz7
      refine ⟨_, rfl, _, rfl, p, _, rfl, hz8, fun p2 H9 t2 z2 => ?_⟩
      have s9 := s8.trans t2
      have zps := t2 _ _ zps
      have z1 := t2 _ _ z1
      have hz9 := Same.tup t2 hz8
      have all7 := fun v hv => (all7 v hv).same t2
      refine ⟨_, rfl, _, rfl, _, rfl, p, _, rfl, hz9, fun p3 H10 t3 z3 => ?_⟩
      have s10 := s9.trans t3
      have zps := t3 _ _ zps
      have z1 := t3 _ _ z1
      have z2 := Same.tup t3 z2
      have hz10 := Same.tup t3 hz9
      have all7 := fun v hv => (all7 v hv).same t3
      refine ⟨_, rfl, _, rfl, _, rfl, p, _, rfl, hz10, fun p4 H11 t4 z4 => ?_⟩
      have s11 := s10.trans t4
      have zps := t4 _ _ zps
      have z1 := t4 _ _ z1
      have z2 := Same.tup t4 z2
      have z3 := Same.tup t4 z3
      have hz11 := Same.tup t4 hz10
      have all7 := fun v hv => (all7 v hv).same t4
      refine ⟨p, p4, _, _, rfl, rfl, hz11, z4, sz_le (Nat.le_trans (Nat.add_le_add_left (cutV_length _ _ _) _) (by omega)), fun p5 H12 t5 z5 => ?_⟩
      have s12 := s11.trans t5
      have zps := t5 _ _ zps
      have z1 := t5 _ _ z1
      have z2 := Same.tup t5 z2
      have z3 := Same.tup t5 z3
      have hz12 := Same.tup t5 hz11
      have all7 := fun v hv => (all7 v hv).same t5
      refine ⟨_, rfl, p, _, rfl, hz12, fun p6 hp6 => ?_⟩
      have t6 := same_new (o := HO.tup xs.reverse) hp6
      have z6 : SqT K (upd H12 p6 (.tup xs.reverse)) p6 xs.reverse := Or.inl (Or.inl upd_same)
      have s13 := s12.trans t6
      have zps := t6 _ _ zps
      have z1 := t6 _ _ z1
      have z2 := Same.tup t6 z2
      have z3 := Same.tup t6 z3
      have z5 := Same.tup t6 z5
      have all7 := fun v hv => (all7 v hv).same t6
      have dv0 := dvs s13
      have five : ∀ v ∈ [V.ref p1, .ref p2, .ref p3, .ref p5, .ref p6], OdD K (fun a => H a = none) (2 * PyData.weightAll ds + 200) (m + 1 + 3) (upd H12 p6 (.tup xs.reverse)) v := by
        intro v hv
        simp only [List.mem_cons, List.not_mem_nil, or_false] at hv
        rcases hv with rfl | rfl | rfl | rfl | rfl
        · exact to (.lst n1 hn1 z1 dv0) lo.lst (by omega) (by omega)
        · obtain ⟨es, sb, dve⟩ := dv0.cut (some 1) none
          exact to (.tup z2 dve) (lo.sub sb).tup (by omega) (by omega)
        · obtain ⟨es, sb, dve⟩ := dv0.cut none (some (-1))
          exact to (.tup z3 dve) (lo.sub sb).tup (by omega) (by omega)
        · obtain ⟨es, sb, dve⟩ := dv0.cut none (some 1)
          exact to (.tup z5 (dv0.app dve)) (lo.app (lo.sub sb)).tup (by omega) (by omega)
        · exact to (.tup z6 dv0.rev) lo.rev.tup (by omega) (by omega)
      refine ⟨sz_le (n := 5) (by decide), fun p7 hp7 _ => ?_⟩
      generalize upd H12 p6 (.tup xs.reverse) = G9 at five zps all7 s13 hp7 ⊢
      have hf0 : [V.ref p1, .ref p2, .ref p3, .ref p5, .ref p6].length = 5 := rfl
      generalize [V.ref p1, .ref p2, .ref p3, .ref p5, .ref p6] = fs at five hf0 ⊢
      have t7 := same_new (o := HO.lst fs) hp7
      refine ⟨p7, 2, fs, rfl, rfl, upd_same, by decide, by decide, sz_le (by show fs.length * 2 ≤ 1000000; omega), fun p8 hp8 => ?_⟩
      have t8 := same_new (o := HO.lst (List.replicate (2 : Int).toNat fs).flatten) hp8
      have t78 := t7.trans t8
      have hfl : (List.replicate (2 : Int).toNat fs).flatten.length = 10 := by
        show (fs ++ (fs ++ [])).length = 10
        rw [List.length_append, List.length_append, hf0]
        rfl
      refine ⟨ps, p8, zs, _, rfl, rfl, t78 _ _ zps, upd_same, sz_le (by rw [hl0, hfl]; decide), fun p9 hp9 => ?_⟩
      have n9 := none_of (s13.trans t78) hp9
      have t9 := same_new (o := HO.lst (zs ++ (List.replicate (2 : Int).toNat fs).flatten)) hp9
      have t79 := t78.trans t9
      refine ⟨_, rfl, _, .ty "str", _, _, false, rfl, .ty _, ty_tup (Same.tup ((s13.trans t79)) hz), kit_ty (by decide +kernel), false, rfl, ifF rfl ?_⟩
      refine ⟨_, rfl, _, rfl, pick _ p9 _ (s13.trans t79) upd_same n9 (by rw [List.length_append]; omega) (by rw [List.length_append]; omega) (fun v hv => ?_)⟩
      rcases List.mem_append.mp hv with hv | hv
      · exact (all7 v hv).same t79
      · exact (five v (mem_twice hv)).same t79
end
end Lw

namespace Lw
open PySem PySem.Spec PyProof.Rows L2 Mq
open SX (S)
/-! ### a value with something otherwise, at any depth -/
mutual
theorem td_lay {K : PySem.W.Frag} {H : Hp} : ∀ {v : V} {d : PyData}, Td K H v d → lowD d = true → d.canLay0 = true
  | _, _, .int i, _ => rfl
  | _, _, .str x, h => by
    show x.cps.all (fun d => decide (d < 1114112)) = true
    rw [← Array.all_toList]
    refine List.all_eq_true.mpr fun c hc => decide_eq_true ?_
    have h1 : (x.cps.toList.all fun c => decide (c < 128)) = true := h
    have := of_decide_eq_true (List.all_eq_true.mp h1 c hc)
    omega
  | _, _, .tup _ ha, h => tdAll_lay ha h
theorem tdAll_lay {K : PySem.W.Frag} {H : Hp} : ∀ {vs : List V} {ds : List PyData}, TdAll K H vs ds → lowAll ds = true → PyData.canLayAll0 ds = true
  | _, _, .nil, _ => rfl
  | _, _, .cons (d := d) (ds := ds) a b, h => by
    have h' : (lowD d && lowAll ds) = true := h
    obtain ⟨h1, h2⟩ := Bool.and_eq_true_iff.mp h'
    show (d.canLay0 && PyData.canLayAll0 ds) = true
    rw [td_lay a h1, tdAll_lay b h2]
    rfl
end
theorem td_shaped {K : PySem.W.Frag} {H : Hp} {v : V} {d : PyData} {w n : Nat} (h : Td K H v d) (k : OkD w n d) (hn : n ≤ 64) : SeqAt.shaped d = true := by
  unfold SeqAt.shaped
  rw [td_lay h k.lo, decide_eq_true (Nat.le_trans k.gs.de hn)]
  rfl
theorem none_off {D C : Addr} {T : Nat} {H H' : Hp} {p : Addr} (e : Off D C H H') (k : DeckAt D C T H') (h : H' p = none) : H p = none := by
  obtain ⟨a, b⟩ := new_ne k h
  cases x : H p with
  | none => rfl
  | some o =>
    rw [e _ _ a b x] at h
    cases h
theorem pt_dead {X : Cx} {e : Expr} : PT X e (fun _ _ _ => False) := ⟨fun _ _ _ _ _ _ h => h.elim⟩
def spBent (K : PySem.W.Frag) (n : Nat) : Sp := fun vs H Q _ => ∃ (D C : Addr) (T : Nat) (v : V) (d : PyData), vs = [.ref D, v] ∧ DeckAt D C T H ∧ T + 4 * (n + 1) ≤ 900000 ∧ Td K H v d ∧ OkD d.weight n d ∧ d.weight ≤ 900 ∧ n ≤ 20 ∧
  ∀ H' u T', T' ≤ T + 4 * (n + 1) → DeckAt D C T' H' → Off D C H H' → OdD K (fun a => H a = none) (3 * d.weight + 200) (n + 3) H' u → Q u H'
section
variable {P : Program} {w : World} {K : PySem.W.Frag} {mg : Str → Option Value} {base : Heap}
theorem ok_bent0 {f fO : Addr} {fd fdO : FuncData} (F : Fun K "_law_bent" "_law_bent" s__law_bent f fd) (B : Blt mg)
    (FO : Fun K "_law_odd" "_law_odd" s__law_odd fO fdO) (gO : mg "_law_odd" = some (.ref fO)) (bO : Binds K fdO ["_law_deck_here", "_law_it"] []) (GO : FnOk P w K mg base CX0 3 fO fdO ["_law_deck_here", "_law_it"] (spOdd K)) :
    FnOk P w K mg base CX0 4 f fd ["_law_deck_here", "_law_it"] (spBent K 0) := by
  refine F.ok sc__law_bent (fun vs H Q E h => ?_) (fun cdv A outer s H vs Q E hr h => ?_)
  · obtain ⟨_, _, _, _, _, rfl, _⟩ := h
    rfl
  · obtain ⟨D, C, T, v, d, rfl, hdk, hT, htd, hok, hw, hn, q⟩ := h
    refine ⟨_, (pss_cons (ps_if (PW.pt (pw_or (pt_not (pt_val (pe_callB call_isi (by rfl) B.isi (by decide +kernel) (pa_cons (pv 1) (pa_cons (pe_bltn (v := .ty "tuple") (by rfl) B.tuple (by decide +kernel) rfl) pa_nil))))) (pw_or pt_dead (pw_or1 pt_dead)))) (pss_one (ps_ret (pe_call GO (hr.mono (by decide)) (by rfl) gO FO.kp bO .nil pass0 (pa_cons (pv 0) (pa_cons (pv 1) pa_nil))))) pss_nil)
      (pss_cons ps_dead (pss_cons ps_dead (pss_cons ps_dead (pss_cons ps_dead (pss_one ps_dead)))))), ?_⟩
    have nt : ∃ a, TyX K H v (.type a) ∧ a ∈ sevenT ∧ a ≠ "tuple" := by
      cases htd with
      | int i => exact ⟨_, .base (.int i), by decide, by decide⟩
      | str x => exact ⟨_, .base (.str x), by decide, by decide⟩
      | tup _ _ =>
        obtain ⟨m, e, _⟩ := hok.tup
        omega
    obtain ⟨a, t, m, n⟩ := nt
    refine ⟨_, rfl, _, .ty "tuple", _, _, false, rfl, .ty _, t, kit_noT m n, false, rfl, ifT rfl (ifT rfl ?_)⟩
    refine ⟨_, rfl, _, rfl, D, C, T, _, d, 0, rfl, hdk, by omega, htd, hok, hw, fun H' u dk off od => ?_⟩
    exact q H' u _ (by omega) dk off (od.mono (fun _ z => z) (by omega) (by omega))
theorem ok_bentS {f fO fD : Addr} {fd fdO fdD : FuncData} {k : Nat} (F : Fun K "_law_bent" "_law_bent" s__law_bent f fd) (B : Blt mg)
    (FD : Fun K "_law_draw" "_law_draw" s__law_draw fD fdD) (gD : mg "_law_draw" = some (.ref fD)) (bD : Binds K fdD ["_law_deck_here", "_law_below"] []) (GD : FnOk P w K mg base CX0 1 fD fdD ["_law_deck_here", "_law_below"] spDraw)
    (FO : Fun K "_law_odd" "_law_odd" s__law_odd fO fdO) (gO : mg "_law_odd" = some (.ref fO)) (bO : Binds K fdO ["_law_deck_here", "_law_it"] []) (GO : FnOk P w K mg base CX0 3 fO fdO ["_law_deck_here", "_law_it"] (spOdd K))
    (gB : mg "_law_bent" = some (.ref f)) (bB : Binds K fd ["_law_deck_here", "_law_it"] []) (GB : FnOk P w K mg base CX0 (4 + k) f fd ["_law_deck_here", "_law_it"] (spBent K k)) :
    FnOk P w K mg base CX0 (4 + k + 1) f fd ["_law_deck_here", "_law_it"] (spBent K (k + 1)) := by
  refine F.ok sc__law_bent (fun vs H Q E h => ?_) (fun cdv A outer s H vs Q E hr h => ?_)
  · obtain ⟨_, _, _, _, _, rfl, _⟩ := h
    rfl
  · obtain ⟨D, C, T, v, d, rfl, hdk, hT, htd, hok, hw, hk, q⟩ := h
    have hu : (A.deeper (envOfC "_law_bent" (defScope s__law_bent) s.heap.objs.size f cdv)).units + 64 < cLine := by
      have := hr.units
      omega
    have hr3 : Room 3 (A.deeper (envOfC "_law_bent" (defScope s__law_bent) s.heap.objs.size f cdv)) := hr.mono (by omega)
    have hr1 : Room 1 (A.deeper (envOfC "_law_bent" (defScope s__law_bent) s.heap.objs.size f cdv)) := hr.mono (by omega)
    refine ⟨_, (pss_cons (ps_if (PW.pt (pw_or (pt_not (pt_val (pe_callB call_isi (by rfl) B.isi (by decide +kernel) (pa_cons (pv 1) (pa_cons (pe_bltn (v := .ty "tuple") (by rfl) B.tuple (by decide +kernel) rfl) pa_nil))))) (pw_or (pt_cmpR (op_eqD hu) (pv 1) (pe_tup pa_nil) (nomark _)) (pw_or1 (pt_cmpR op_eq (pe_call GD hr1 (by rfl) gD FD.kp bD .nil pass0 (pa_cons (pv 0) (pa_cons pe_int pa_nil))) pe_int (nomark _)))))) (pss_one (ps_ret (pe_call GO hr3 (by rfl) gO FO.kp bO .nil pass0 (pa_cons (pv 0) (pa_cons (pv 1) pa_nil))))) pss_nil)
      (pss_cons (ps_par (i := 2) (j := 3) rfl sc__law_bent.nd rfl rfl (by decide) rfl rfl (pa_cons (pe_call GD hr1 (by rfl) gD FD.kp bD .nil pass0 (pa_cons (pv 0) (pa_cons (pe_callB call_len (by rfl) B.len (by decide +kernel) (pa_cons (pv 1) pa_nil)) pa_nil))) (pa_cons (pe_call GD hr1 (by rfl) gD FD.kp bD .nil pass0 (pa_cons (pv 0) (pa_cons pe_int pa_nil))) pa_nil)) (by rfl))
      (pss_cons (ps_if (pt_cmpR op_eq (pv 3) pe_int (nomark _)) (pss_one (ps_ret (pe_op op_catN (pe_slice sl_tupN (pv 1) po_none (po_some (pv 2))) (pe_slice sl_tupN (pv 1) (po_some (pe_op op_add (pv 2) pe_int)) po_none)))) pss_nil)
      (pss_cons (ps_if (pt_cmpR op_eq (pv 3) pe_int (nomark _)) (pss_one (ps_ret (pe_op op_catN (pe_slice sl_tupN (pv 1) po_none (po_some (pe_op op_add (pv 2) pe_int))) (pe_slice sl_tupN (pv 1) (po_some (pv 2)) po_none)))) pss_nil)
      (pss_cons (ps_if (pt_cmpR op_eq (pv 3) pe_int (nomark _)) (pss_one (ps_ret (pe_op op_catN (pe_op op_catN (pe_slice sl_tupN (pv 1) po_none (po_some (pv 2))) (pe_revT (pe_slice sl_tupN (pv 1) (po_some (pv 2)) (po_some (pe_op op_add (pv 2) pe_int))))) (pe_slice sl_tupN (pv 1) (po_some (pe_op op_add (pv 2) pe_int)) po_none)))) pss_nil)
      (pss_one (ps_ret (pe_op op_catN (pe_op op_catN (pe_slice sl_tupN (pv 1) po_none (po_some (pv 2))) (pe_tup (pa_cons (pe_call GB hr (by rfl) gB F.kp bB .nil pass0 (pa_cons (pv 0) (pa_cons (pe_ix ix_tup (pv 1) (pv 2) (fun _ _ => rfl)) pa_nil))) pa_nil))) (pe_slice sl_tupN (pv 1) (po_some (pe_op op_add (pv 2) pe_int)) po_none))))))))), ?_⟩
    have odd : ∀ (H1 : Hp) (T1 : Nat), T1 ≤ T + 1 → DeckAt D C T1 H1 → Off D C H H1 → spOdd K [.ref D, v] H1 Q E := by
      intro H1 T1 hT1 dk1 off1
      refine ⟨D, C, T1, v, d, k + 1, rfl, dk1, by omega, htd.kp (KpT.off off1 hdk), hok, hw, fun H2 u dk2 off2 od => ?_⟩
      exact q H2 u _ (by omega) dk2 (off1.trans off2) (od.mono (fun x hx => none_off off1 dk1 hx) (by omega) (by omega))
    cases htd with
    | int i =>
      refine ⟨_, rfl, _, .ty "tuple", _, _, false, rfl, .ty _, .base (.int i), kit_ty (by decide +kernel), false, rfl, ifT rfl (ifT rfl ⟨_, rfl, _, rfl, ?_⟩)⟩
      exact odd H T (by omega) hdk (Off.refl _ _ _)
    | str x =>
      refine ⟨_, rfl, _, .ty "tuple", _, _, false, rfl, .ty _, .base (.str x), kit_ty (by decide +kernel), false, rfl, ifT rfl (ifT rfl ⟨_, rfl, _, rfl, ?_⟩)⟩
      exact odd H T (by omega) hdk (Off.refl _ _ _)
    | @tup p xs ds hz htd =>
      have hsh := td_shaped (K := K) (H := H) (.tup hz htd) hok (by omega)
      obtain ⟨m, hm, lo⟩ := hok.tup
      obtain rfl : k = m := by omega
      have hW : (PyData.tuple ds).weight = PyData.weightAll ds := rfl
      rw [hW] at hw q lo
      have hl : xs.length = ds.length := htd.len
      have hlen : xs.length ≤ 900 := by
        rw [hl]
        exact Nat.le_trans lo.len hw
      refine ⟨_, rfl, _, .ty "tuple", _, _, true, rfl, .ty _, ty_tup hz, kit_ty (by decide +kernel), true, rfl, ifF rfl ?_⟩
      refine ⟨_, rfl, sz_le (n := 0) (by decide), fun p0 hp0 => ?_⟩
      have t0 := same_new (o := HO.tup []) hp0
      have k0 : SqT K (upd H p0 (.tup [])) p0 [] := Or.inl (Or.inl upd_same)
      have dk0 := hdk.same t0
      refine ⟨_, _, (Td.tup (Same.tup t0 hz) (htd.same t0)).dp, .tup k0 .nil, hsh, rfl, _, rfl, ?_⟩
      generalize upd H p0 (.tup []) = G0 at t0 k0 dk0 ⊢
      cases hds : ds with
      | nil =>
        refine ifT rfl (ifT rfl ⟨_, rfl, _, rfl, ?_⟩)
        exact odd G0 T (by omega) dk0 (Off.same t0)
      | cons e0 er =>
      have h0 : 0 < xs.length := by
        rw [hl, hds]
        exact Nat.zero_lt_succ _
      rw [← hds]
      refine ifF (by rw [hds]; rfl) ?_
      clear hds e0 er
      refine ⟨_, rfl, D, C, T, 6, rfl, dk0, by omega, by decide, by decide, fun H1 r hr6 dk1 off1 => ?_⟩
      have off01 := (Off.same (D := D) (C := C) t0).trans off1
      refine ⟨rfl, _, rfl, ite2 (fun hc => ?_) (fun hc => ?_)⟩
      · refine ⟨_, rfl, _, rfl, ?_⟩
        exact odd H1 (T + 1) (by omega) dk1 off01
      have hz1 := off01.tup hdk hz
      refine ⟨_, rfl, _, rfl, _, _, rfl, len_tup hz1, D, C, T + 1, xs.length, rfl, dk1, by omega, h0, by omega, fun H2 t ht dk2 off2 => ?_⟩
      have off02 := off01.trans off2
      refine ⟨_, rfl, D, C, T + 1 + 1, 8, rfl, dk2, by omega, by decide, by decide, fun H3 y hy dk3 off3 => ?_⟩
      have off03 := off02.trans off3
      have hz3 := off03.tup hdk hz
      have nn : ∀ x, H3 x = none → H x = none := fun x hx => none_off off03 dk3 hx
      have td3 := htd.kp (KpT.off off03 hdk)
      have dv : ∀ {H' : Hp}, Same H3 H' → DvAll K (fun a => H a = none) H' xs ds := fun e => (td3.same e).dv
      clear hz1 off02 off01 off1 off2 off3 dk0 dk1 dk2 hc hr6 k0 t0 odd
      have fin : ∀ (Hf : Hp) (pf : Addr) (ys : List V) (es : List PyData), Same H3 Hf → SqT K Hf pf ys → DvAll K (fun a => H a = none) Hf ys es → LsOk (3 * PyData.weightAll ds + 200) k es → Q (.ref pf) Hf := by
        intro Hf pf ys es sf hzf hm hn
        exact q Hf _ _ (by omega : T + 1 + 1 + 1 ≤ T + 4 * (k + 1 + 1)) (dk3.same sf) (off03.trans (Off.same sf)) ⟨_, .tup hzf hm, hn.tup.mono (Nat.le_refl _) (by omega)⟩
      have sz4 : ∀ (lo hi lo' hi' : Option Int), (cutV xs lo hi).length + (cutV xs lo' hi').length ≤ sizeLine := fun lo hi lo' hi' => sz_le (Nat.le_trans (Nat.add_le_add (cutV_length _ _ _) (cutV_length _ _ _)) (by omega))
      refine ⟨_, _, rfl, ?_⟩
      refine ⟨_, rfl, rfl, _, rfl, ite2 (fun hc => ?_) (fun _ => ?_)⟩
      · refine ⟨_, rfl, _, rfl, _, rfl, p, _, rfl, hz3, fun p1 J1 t1 z1 => ?_⟩
        refine ⟨_, rfl, _, rfl, _, _, rfl, rfl, _, rfl, p, _, rfl, Same.tup t1 hz3, fun p2 J2 t2 z2 => ?_⟩
        refine ⟨p1, p2, _, _, rfl, rfl, Same.tup t2 z1, z2, sz4 _ _ _ _, fun p3 J3 t3 z3 => ?_⟩
        have tt := (Same.trans t1 t2).trans t3
        obtain ⟨e1, b1, d1⟩ := (dv tt).cut none (some ((t : Nat) : Int))
        obtain ⟨e2, b2, d2⟩ := (dv tt).cut (some (((t : Nat) : Int) + 1)) none
        exact fin _ _ _ _ tt z3 (d1.app d2) (((lo.sub b1).app (lo.sub b2)).mono (by omega) (Nat.le_refl _))
      refine ⟨_, rfl, rfl, _, rfl, ite2 (fun hc => ?_) (fun _ => ?_)⟩
      · refine ⟨_, rfl, _, rfl, _, _, rfl, rfl, _, rfl, p, _, rfl, hz3, fun p1 J1 t1 z1 => ?_⟩
        refine ⟨_, rfl, _, rfl, _, rfl, p, _, rfl, Same.tup t1 hz3, fun p2 J2 t2 z2 => ?_⟩
        refine ⟨p1, p2, _, _, rfl, rfl, Same.tup t2 z1, z2, sz4 _ _ _ _, fun p3 J3 t3 z3 => ?_⟩
        have tt := (Same.trans t1 t2).trans t3
        obtain ⟨e1, b1, d1⟩ := (dv tt).cut none (some (((t : Nat) : Int) + 1))
        obtain ⟨e2, b2, d2⟩ := (dv tt).cut (some ((t : Nat) : Int)) none
        exact fin _ _ _ _ tt z3 (d1.app d2) (((lo.sub b1).app (lo.sub b2)).mono (by omega) (Nat.le_refl _))
      refine ⟨_, rfl, rfl, _, rfl, ite2 (fun hc => ?_) (fun _ => ?_)⟩
      · refine ⟨_, rfl, _, rfl, _, rfl, p, _, rfl, hz3, fun p1 J1 t1 z1 => ?_⟩
        refine ⟨_, rfl, _, rfl, _, rfl, _, rfl, _, _, rfl, rfl, _, rfl, p, _, rfl, Same.tup t1 hz3, fun p2 J2 t2 z2 => ?_⟩
        refine ⟨p2, _, rfl, z2, fun p3 hp3 => ?_⟩
        have t3 := same_new (o := HO.tup (cutV xs (some ((t : Nat) : Int)) (some (((t : Nat) : Int) + 2))).reverse) hp3
        have z3 : SqT K (upd J2 p3 (.tup (cutV xs (some ((t : Nat) : Int)) (some (((t : Nat) : Int) + 2))).reverse)) p3 (cutV xs (some ((t : Nat) : Int)) (some (((t : Nat) : Int) + 2))).reverse := Or.inl (Or.inl upd_same)
        refine ⟨p1, p3, _, _, rfl, rfl, Same.tup (t2.trans t3) z1, z3, by rw [List.length_reverse]; exact sz4 _ _ _ _, fun p4 J4 t4 z4 => ?_⟩
        have t14 := ((Same.trans t1 t2).trans t3).trans t4
        refine ⟨_, rfl, _, rfl, _, _, rfl, rfl, _, rfl, p, _, rfl, Same.tup t14 hz3, fun p5 J5 t5 z5 => ?_⟩
        refine ⟨p4, p5, _, _, rfl, rfl, Same.tup t5 z4, z5, ?_, fun p6 J6 t6 z6 => ?_⟩
        · rw [List.length_append, List.length_reverse]
          exact sz_le (Nat.le_trans (Nat.add_le_add (Nat.add_le_add (cutV_length _ _ _) (cutV_length _ _ _)) (cutV_length _ _ _)) (by omega))
        have tt := (t14.trans t5).trans t6
        obtain ⟨e1, b1, d1⟩ := (dv tt).cut none (some ((t : Nat) : Int))
        obtain ⟨e2, b2, d2⟩ := (dv tt).cut (some ((t : Nat) : Int)) (some (((t : Nat) : Int) + 2))
        obtain ⟨e3, b3, d3⟩ := (dv tt).cut (some (((t : Nat) : Int) + 2)) none
        exact fin _ _ _ _ tt z6 ((d1.app d2.rev).app d3) ((((lo.sub b1).app (lo.sub b2).rev).app (lo.sub b3)).mono (by omega) (Nat.le_refl _))
      · have htl : t < xs.length := ht
        obtain ⟨dt, hdt, tdt⟩ := td3.at (List.getElem?_eq_getElem htl)
        have htd' : t < ds.length := by omega
        have edt : ds[t] = dt := by
          rw [List.getElem?_eq_getElem htd'] at hdt
          exact Option.some.inj hdt
        have okt := (lo.mem (List.mem_of_getElem? hdt)).exact
        have esplit : ds = ds.take t ++ dt :: ds.drop (t + 1) := by
          rw [← edt, ← List.drop_eq_getElem_cons htd', List.take_append_drop]
        have hwt : PyData.weightAll ds = PyData.weightAll (ds.take t) + (dt.weight + 1 + PyData.weightAll (ds.drop (t + 1))) := by
          conv => lhs; rw [esplit, weight_app]
          rfl
        refine ⟨_, rfl, _, rfl, _, rfl, p, _, rfl, hz3, fun p1 J1 t1 z1 => ?_⟩
        refine ⟨_, rfl, _, rfl, _, rfl, p, _, _, _, rfl, rfl, Same.tup t1 hz3, atI_nat (j := t) (List.getElem?_eq_getElem htl), D, C, T + 1 + 1 + 1, xs[t], dt, rfl, dk3.same t1, by omega, tdt.same t1, okt, by omega, by omega, fun H5 u T5 hT5 dk5 off5 od5 => ?_⟩
        have kp5 : KpT K J1 H5 := KpT.off off5 (dk3.same t1)
        have hz5 := kp5 _ _ (Same.tup t1 hz3)
        have z15 := kp5 _ _ z1
        have td5 := (td3.same t1).kp kp5
        have off05 := (off03.trans (Off.same t1)).trans off5
        have od5 := od5.mono (N' := fun a => H a = none) (fun y hy => nn y (none_of t1 hy)) (Nat.le_refl _) (Nat.le_refl _)
        refine ⟨sz_le (n := 1) (by decide), fun p2 hp2 => ?_⟩
        have t2 := same_new (o := HO.tup [u]) hp2
        refine ⟨p1, p2, _, [u], rfl, rfl, Same.tup t2 z15, Or.inl (Or.inl upd_same), sz_le (Nat.le_trans (Nat.add_le_add_right (cutV_length _ _ _) _) (by show xs.length + 1 ≤ 1000000; omega)), fun p3 J3 t3 z3 => ?_⟩
        refine ⟨_, rfl, _, rfl, _, _, rfl, rfl, _, rfl, p, _, rfl, Same.tup (t2.trans t3) hz5, fun p4 J4 t4 z4 => ?_⟩
        refine ⟨p3, p4, _, _, rfl, rfl, Same.tup t4 z3, z4, ?_, fun p5 J5 t5 z6 => ?_⟩
        · rw [List.length_append]
          exact sz_le (Nat.le_trans (Nat.add_le_add (Nat.add_le_add_right (cutV_length _ _ _) _) (cutV_length _ _ _)) (by show xs.length + 1 + xs.length ≤ 1000000; omega))
        have t25 := ((t2.trans t3).trans t4).trans t5
        obtain ⟨d', dvu, oku⟩ := od5
        have dv5 : DvAll K (fun a => H a = none) J5 xs ds := (td5.same t25).dv
        rw [cut_front, show cutV xs (some (((t : Nat) : Int) + 1)) none = xs.drop (t + 1) from cut_back xs (t + 1)] at z6
        have l1 := (lo.sub (List.take_sublist t ds)).exact
        have l2 := (lo.sub (List.drop_sublist (t + 1) ds)).exact
        have l3 : LsOk _ (k + 3) (ds.take t ++ [d'] ++ ds.drop (t + 1)) := ((l1.mono (Nat.le_refl _) (by omega)).app (LsOk.cons oku (LsOk.nil (w := 0)))).app (l2.mono (Nat.le_refl _) (by omega))
        exact q J5 _ T5 (by omega) (dk5.same t25) (off05.trans (Off.same t25)) ⟨_, .tup z6 (((dv5.take t).app (.cons (dvu.same t25) .nil)).app (dv5.drop (t + 1))), l3.tup.mono (by omega) (by omega)⟩
theorem ok_bent {f fO fD : Addr} {fd fdO fdD : FuncData} (F : Fun K "_law_bent" "_law_bent" s__law_bent f fd) (B : Blt mg)
    (FD : Fun K "_law_draw" "_law_draw" s__law_draw fD fdD) (gD : mg "_law_draw" = some (.ref fD)) (bD : Binds K fdD ["_law_deck_here", "_law_below"] []) (GD : FnOk P w K mg base CX0 1 fD fdD ["_law_deck_here", "_law_below"] spDraw)
    (FO : Fun K "_law_odd" "_law_odd" s__law_odd fO fdO) (gO : mg "_law_odd" = some (.ref fO)) (bO : Binds K fdO ["_law_deck_here", "_law_it"] []) (GO : FnOk P w K mg base CX0 3 fO fdO ["_law_deck_here", "_law_it"] (spOdd K))
    (gB : mg "_law_bent" = some (.ref f)) (bB : Binds K fd ["_law_deck_here", "_law_it"] []) : ∀ k : Nat, FnOk P w K mg base CX0 (4 + k) f fd ["_law_deck_here", "_law_it"] (spBent K k)
  | 0 => ok_bent0 F B FO gO bO GO
  | k + 1 => ok_bentS F B FD gD bD GD FO gO bO GO gB bB (ok_bent F B FD gD bD GD FO gO bO GO gB bB k)
end
end Lw

namespace Mq
open PySem PySem.Spec PyProof.Rows L2
/-! ### f(), where no repr is under way -/
section
variable {X : Cx} {CX : CXT} {k : Nat} {f : Addr} {fd : FuncData} {sp : Sp} {E : XK} {x : Str} {p pos : Pos}
theorem pe_callG0 (F : FnG X.prog X.w X.K X.mg X.base CX k f fd [] sp) (gA : Still X.A) (hr : Room k X.A)
    (hg : Gl X x) (hm : X.mg x = some (.ref f)) (hk : PySem.W.keepIn X.K (.ref f) = true)
    (hb : Binds X.K fd [] []) (hx : Passes CX X E) (hdb : (x == ("__debug__" : Str)) = false := by decide) :
    PE X (.Call (.Name x p) [] [] pos) (fun σ H Q => sp [] H Q E) := by
  refine ⟨fun pins s σ H Q I h => wpAny_Call_Name_kw (ld_glob I hg hm ?_ hdb)⟩
  refine PySem.W.callWith_K0 I.kIn hk ?_
  exact run_G F gA hr hb hx I .nil h
end
end Mq

namespace Lw
open PySem PySem.Spec PyProof.Rows L2 Mq
open SX (S)
/-! ### all letters, by hand -/
def foldsW : List Fd := [⟨97, 122, []⟩, ⟨109, 109, [110]⟩, ⟨122, 97, [122]⟩]
theorem alpha_ok : SgOk alpha := sg_ok (by decide +kernel) (by decide)
theorem foldsW_ok : FsOk alpha foldsW := by
  have h1 : FsOk alpha [⟨97, 122, []⟩] := (FsOk.nil alpha).snoc ⟨by decide, by decide, Or.inl rfl⟩ (by decide +kernel) (by decide)
  have h2 : FsOk alpha [⟨97, 122, []⟩, ⟨109, 109, [110]⟩] := h1.snoc (f := ⟨109, 109, [110]⟩) ⟨by decide, by decide, Or.inr ⟨110, by decide, rfl⟩⟩ (by decide +kernel) (by decide)
  exact h2.snoc (f := ⟨122, 97, [122]⟩) ⟨by decide, by decide, Or.inr ⟨122, by decide, rfl⟩⟩ (by decide +kernel) (by decide)
def abc : Str := "abcdefghijklmnopqrstuvwxyz"
theorem abc_is : abc = S alpha := alpha_is
theorem abc_ok : OkD 30 0 (.str abc) := okD_of (by decide +kernel)
theorem bcd_ok : OkD 30 0 (.str (cutS abc (some 1) none)) := okD_of (by decide +kernel)
def oddF : PyData := .tuple [.str "z", .str "b", .str "{"]
theorem oddF_ok : OkD 10 1 oddF := okD_of (by decide +kernel)
def spWide : Sp := fun vs H Q _ => vs = [] ∧ ∀ H', Q (.bl true) H'
section
variable {P : Program} {w : World} {K : PySem.W.Frag} {mg : Str → Option Value} {base : Heap} {C CT : Addr}
theorem ok_wide {f fM fI fN fL : Addr} {fd fdM fdI fdN fdL : FuncData} (F : Fun K "_law_wide_right" "_law_wide_right" s__law_wide_right f fd) (B : Blt mg) (R : BkC K C) (T : EqT K mg C)
    (FM : Fun K "_law_made_right" "_law_made_right" s__law_made_right fM fdM) (gM : mg "_law_made_right" = some (.ref fM)) (bM : Binds K fdM ["_law_letters", "_law_folds_here"] []) (GM : FnG P w K mg base CX0 7 fM fdM ["_law_letters", "_law_folds_here"] (spMade K))
    (MK : Mk K C fI) (bI : Binds K fdI ["self", "letters", "folds"] []) (GI : FnOk P w K mg base (L2.CX P w) 3 fI fdI ["self", "letters", "folds"] (spBookA K C CT))
    (mN : Meth K C "__len__" fN) (bN : Binds K fdN ["self"] []) (GN : FnOk P w K mg base CX0 1 fN fdN ["self"] (spLen C))
    (mL : Meth K C "left_of" fL) (bL : Binds K fdL ["self", "last", "laid"] []) (GL : FnOk P w K mg base CX0 1 fL fdL ["self", "last", "laid"] (spLeft C)) :
    FnG P w K mg base CX0 8 f fd [] spWide := by
  refine Mq.Fun.okG F sc__law_wide_right (fun vs H Q E h => ?_) (fun cdv A outer s H vs Q E gA hr h => ?_)
  · obtain ⟨rfl, _⟩ := h
    rfl
  · obtain ⟨rfl, q⟩ := h
    have hr4 : Room 4 (A.deeper (envOfC "_law_wide_right" (defScope s__law_wide_right) s.heap.objs.size f cdv)) := hr.mono (by decide)
    have hr2 : Room 2 (A.deeper (envOfC "_law_wide_right" (defScope s__law_wide_right) s.heap.objs.size f cdv)) := hr.mono (by decide)
    have hr1 : Room 1 (A.deeper (envOfC "_law_wide_right" (defScope s__law_wide_right) s.heap.objs.size f cdv)) := hr.mono (by decide)
    have hu64 : (A.deeper (envOfC "_law_wide_right" (defScope s__law_wide_right) s.heap.objs.size f cdv)).units + 64 < cLine := by
      have := hr.un
      omega
    refine ⟨_, (pss_cons (ps_asg (pe_tup (pa_cons pe_str (pa_cons (pe_tup (pa_cons (pe_tup (pa_cons pe_str (pa_cons pe_str (pa_cons pe_str pa_nil)))) (pa_cons (pe_tup (pa_cons pe_str (pa_cons pe_str (pa_cons pe_str pa_nil)))) (pa_cons (pe_tup (pa_cons pe_str (pa_cons pe_str (pa_cons pe_str pa_nil)))) pa_nil)))) pa_nil))) (pg_tup rfl (pgs_cons (pg_name (i := 0) sc__law_wide_right.nd rfl (Or.inl rfl)) (pgs_cons (pg_name (i := 1) sc__law_wide_right.nd rfl (Or.inl rfl)) pgs_nil))))
      (pss_cons (ps_if (PW.pt (pw_or (pt_not (pt_val (pe_callG GM gA (hr.mono (by decide)) (by rfl) gM FM.kp bM pass0 (pa_cons (pv 0) (pa_cons (pv 1) pa_nil))))) (pw_or1 (pt_not (pt_val (pe_callG GM gA (hr.mono (by decide)) (by rfl) gM FM.kp bM pass0 (pa_cons (pv 0) (pa_cons (pe_op op_catN (pv 1) (pe_tup (pa_cons (pe_tup (pa_cons pe_str (pa_cons pe_str (pa_cons pe_str pa_nil)))) pa_nil))) pa_nil)))))))) (pss_one ps_dead) pss_nil)
      (pss_cons (ps_if (PW.pt (pw_or (pt_not (pt_val (pe_callG GM gA (hr.mono (by decide)) (by rfl) gM FM.kp bM pass0 (pa_cons (pv 0) (pa_cons (pe_revT (pv 1)) pa_nil))))) (pw_or1 (pt_not (pt_val (pe_callG GM gA (hr.mono (by decide)) (by rfl) gM FM.kp bM pass0 (pa_cons (pe_slice sl_str (pv 0) (po_some pe_int) po_none) (pa_cons (pv 1) pa_nil)))))))) (pss_one ps_dead) pss_nil)
      (pss_cons (ps_set (i := 2) sc__law_wide_right.nd rfl (Or.inl rfl) (pe_makeS (m := 2) (ES := WE (fun _ _ _ _ => False)) MK GI hr4 (by rfl) T.gC bI rfl (fun σ => passAt takes0 σ) (pa_cons (pv 0) (pa_cons (pv 1) pa_nil))))
      (pss_one (ps_ret (pe_cmpR (op_eqD hu64) (Mq.pe_ls (pa_cons (pe_methT (E := fun _ _ _ _ => False) (pv 2) R.cls mL GL hr1 bL (fun _ => cx0_at) (pa_cons pe_str (pa_cons pe_str pa_nil))) (pa_cons (pe_methT (E := fun _ _ _ _ => False) (pv 2) R.cls mL GL hr1 bL (fun _ => cx0_at) (pa_cons pe_str (pa_cons pe_str pa_nil))) (pa_cons (pe_methT (E := fun _ _ _ _ => False) (pv 2) R.cls mL GL hr1 bL (fun _ => cx0_at) (pa_cons pe_str (pa_cons pe_str pa_nil))) (pa_cons (pe_callB (call_lenO (E := fun _ _ _ => False) mN GN hr2 bN pass0) (by rfl) B.len (by decide +kernel) (pa_cons (pv 2) pa_nil)) pa_nil))))) (Mq.pe_ls (pa_cons pe_str (pa_cons pe_str (pa_cons pe_str (pa_cons pe_int pa_nil))))) (nomark _)))))))), ?_⟩
    refine ⟨sz_le (n := 3) (by decide), fun a1 h1 => ?_⟩
    have u1 := same_new (o := HO.tup [V.str "a", .str "z", .str ""]) h1
    have k1 : SqT K (upd H a1 (.tup [V.str "a", .str "z", .str ""])) a1 (fdV ⟨97, 122, []⟩) := Or.inl (Or.inl upd_same)
    generalize upd H a1 (.tup [V.str "a", .str "z", .str ""]) = G1 at u1 k1 ⊢
    refine ⟨sz_le (n := 3) (by decide), fun a2 h2 => ?_⟩
    have u2 := same_new (o := HO.tup [V.str "m", .str "m", .str "n"]) h2
    have k2 : SqT K (upd G1 a2 (.tup [V.str "m", .str "m", .str "n"])) a2 (fdV ⟨109, 109, [110]⟩) := Or.inl (Or.inl upd_same)
    generalize upd G1 a2 (.tup [V.str "m", .str "m", .str "n"]) = G2 at u2 k2 ⊢
    refine ⟨sz_le (n := 3) (by decide), fun a3 h3 => ?_⟩
    have u3 := same_new (o := HO.tup [V.str "z", .str "a", .str "z"]) h3
    have k3 : SqT K (upd G2 a3 (.tup [V.str "z", .str "a", .str "z"])) a3 (fdV ⟨122, 97, [122]⟩) := Or.inl (Or.inl upd_same)
    generalize upd G2 a3 (.tup [V.str "z", .str "a", .str "z"]) = G3 at u3 k3 ⊢
    refine ⟨sz_le (n := 3) (by decide), fun fa hfa => ?_⟩
    have u4 := same_new (o := HO.tup [V.ref a1, .ref a2, .ref a3]) hfa
    have k4 : SqT K (upd G3 fa (.tup [V.ref a1, .ref a2, .ref a3])) fa [V.ref a1, .ref a2, .ref a3] := Or.inl (Or.inl upd_same)
    have all : FdAll K (upd G3 fa (.tup [V.ref a1, .ref a2, .ref a3])) [V.ref a1, .ref a2, .ref a3] foldsW :=
      .cons ⟨a1, rfl, Same.tup ((u2.trans u3).trans u4) k1⟩ (.cons ⟨a2, rfl, Same.tup (u3.trans u4) k2⟩ (.cons ⟨a3, rfl, Same.tup u4 k3⟩ .nil))
    have hl3 : [V.ref a1, .ref a2, .ref a3].length = 3 := rfl
    generalize [V.ref a1, .ref a2, .ref a3] = xs at k4 all hl3 ⊢
    generalize upd G3 fa (.tup xs) = G4 at k4 all ⊢
    clear u1 u2 u3 u4 k1 k2 k3 h1 h2 h3 hfa
    have p1 : Pts K G4 alpha foldsW fa xs := ⟨k4, all, foldsW_ok, alpha_ok, by decide, by decide⟩
    clear k4 all
    refine ⟨sz_le (n := 2) (by decide), fun pp hpp => ?_⟩
    refine ⟨pp, _, rfl, Or.inl (Or.inl upd_same), rfl, _, _, rfl, _, _, rfl, rfl, ?_⟩
    have p1 := p1.same (same_new (o := HO.tup [V.str "abcdefghijklmnopqrstuvwxyz", .ref fa]) hpp)
    generalize upd G4 pp (.tup [V.str "abcdefghijklmnopqrstuvwxyz", .ref fa]) = G5 at p1 ⊢
    have lo : LsOk 210 1 (foldsW.map fdD) := (fds_ok alpha_ok.low foldsW_ok.ok).mono (by decide) (Nat.le_refl _)
    refine ⟨_, rfl, _, rfl, V.str abc, .ref fa, .str abc, _, 300, 3, rfl, .str _, p1.td.dg, abc_ok.mono (by decide) (by decide), p1.okF.mono (by decide) (by decide), by decide, by decide, fun H1 s1 => ⟨_, rfl, ifF rfl ?_⟩⟩
    have p1 := p1.same s1
    refine ⟨_, rfl, _, rfl, sz_le (n := 3) (by decide), fun a4 h4 => ?_⟩
    have u1 := same_new (o := HO.tup [V.str "z", .str "b", .str "{"]) h4
    have k1 : SqT K (upd H1 a4 (.tup [V.str "z", .str "b", .str "{"])) a4 [V.str "z", .str "b", .str "{"] := Or.inl (Or.inl upd_same)
    generalize upd H1 a4 (.tup [V.str "z", .str "b", .str "{"]) = G1 at u1 k1 ⊢
    refine ⟨sz_le (n := 1) (by decide), fun a5 h5 => ?_⟩
    have u2 := same_new (o := HO.tup [V.ref a4]) h5
    have p1 := p1.same (u1.trans u2)
    refine ⟨fa, a5, _, [.ref a4], rfl, rfl, p1.fa, Or.inl (Or.inl upd_same), sz_le (by rw [hl3]; show 3 + 1 ≤ 1000000; decide), fun a6 J6 t6 z6 => ?_⟩
    have tdo : Td K J6 (.ref a4) oddF := .tup (Same.tup (u2.trans t6) k1) (.cons (.str _) (.cons (.str _) (.cons (.str _) .nil)))
    have p1 := p1.same t6
    refine ⟨V.str abc, .ref a6, .str abc, _, 300, 3, rfl, .str _, .tup z6 (((fd_td p1.all).snoc tdo).dg), abc_ok.mono (by decide) (by decide), ((lo.app (LsOk.cons oddF_ok (LsOk.nil (w := 0)))).tup).mono (by decide) (by decide), by decide, by decide, fun H2 s2 => ⟨_, rfl, ifF rfl ?_⟩⟩
    have p1 := p1.same s2
    clear tdo z6 t6 u2 u1 k1 h4 h5 s2
    refine ⟨_, rfl, _, rfl, fa, _, rfl, p1.fa, fun a7 h7 => ?_⟩
    have u3 := same_new (o := HO.tup xs.reverse) h7
    have dr : DvAll K (fun _ => True) (upd H2 a7 (.tup xs.reverse)) xs.reverse (foldsW.map fdD).reverse := ((fd_td p1.all).dv.same u3).rev
    have p1 := p1.same u3
    refine ⟨V.str abc, .ref a7, .str abc, _, 300, 3, rfl, .str _, .tup (Or.inl (Or.inl upd_same)) dr.dg, abc_ok.mono (by decide) (by decide), lo.rev.tup.mono (by decide) (by decide), by decide, by decide, fun H3 s3 => ⟨_, rfl, ifF rfl ?_⟩⟩
    have p1 := p1.same s3
    clear dr u3 h7 s3
    refine ⟨_, rfl, 1, rfl, abc, rfl, sz_le (by decide), _, rfl, ?_⟩
    refine ⟨V.str (cutS abc (some 1) none), .ref fa, .str (cutS abc (some 1) none), _, 300, 3, rfl, .str _, p1.td.dg, bcd_ok.mono (by decide) (by decide), p1.okF.mono (by decide) (by decide), by decide, by decide, fun H4 s4 => ⟨_, rfl, ifF rfl ?_⟩⟩
    have p1 := p1.same s4
    clear s4
    refine ⟨_, rfl, _, rfl, rfl, fun x dx hx hdx hne => ?_⟩
    show spBookA K C CT [.ref x, .str abc, .ref fa] _ _ _
    rw [abc_is]
    refine mk_right p1 hx hdx hne fun H5 ta s5 b5 => ⟨rfl, ?_⟩
    obtain ⟨dx1, i1⟩ := b5.ins
    have l1 : leftM foldsW 97 122 = some [] := by decide
    have l2 : leftM foldsW 109 109 = some [110] := by decide
    have l3 : leftM foldsW 122 97 = some [122] := by decide
    refine ⟨_, rfl, x, dx1, _, rfl, i1, rfl, ?_⟩
    dsimp only [tNil, tCons, tC]
    show spLeft C [.ref x, .str "a", .str "z"] _ _ _
    refine ⟨x, fa, ta, alpha, foldsW, 97, 122, rfl, b5.at_, fun H6 s6 => ?_⟩
    rw [l1]
    refine ⟨_, rfl, x, dx1, _, rfl, s6 _ _ i1, rfl, ?_⟩
    dsimp only [tNil, tCons, tC]
    show spLeft C [.ref x, .str "m", .str "m"] _ _ _
    refine ⟨x, fa, ta, alpha, foldsW, 109, 109, rfl, (b5.same s6).at_, fun H7 s7 => ?_⟩
    rw [l2]
    have s57 := Same.trans s6 s7
    refine ⟨_, rfl, x, dx1, _, rfl, s57 _ _ i1, rfl, ?_⟩
    dsimp only [tNil, tCons, tC]
    show spLeft C [.ref x, .str "z", .str "a"] _ _ _
    refine ⟨x, fa, ta, alpha, foldsW, 122, 97, rfl, (b5.same s57).at_, fun H8 s8 => ?_⟩
    rw [l3]
    have s58 := s57.trans s8
    have i8 := s58 _ _ i1
    refine ⟨_, rfl, x, dx1, _, rfl, i8, x, dx1, fa, ta, alpha, rfl, i8, by decide, _, rfl, by decide, ?_⟩
    refine ⟨sz_le (n := 4) (by decide), fun pa hpa _ => ?_⟩
    have t9 := same_new (o := HO.lst [optZ (some []), optZ (some [110]), optZ (some [122]), .int (alpha.length : Nat)]) hpa
    refine ⟨sz_le (n := 4) (by decide), fun pb hpb _ => ?_⟩
    have t10 := same_new (o := HO.lst [V.str "", .str "n", .str "z", .int 26]) hpb
    refine ⟨.list [.str (S []), .str (S [110]), .str (S [122]), .int (alpha.length : Nat)], .list [.str "", .str "n", .str "z", .int 26], .lst (SqL.of (t10 _ _ upd_same)) (.cons (.str _) (.cons (.str _) (.cons (.str _) (.cons (.int _) .nil)))), .lst (SqL.of upd_same) (.cons (.str _) (.cons (.str _) (.cons (.str _) (.cons (.int _) .nil)))), by decide +kernel, by decide +kernel, ?_⟩
    rw [show PyData.eqv (.list [.str (S []), .str (S [110]), .str (S [122]), .int (alpha.length : Nat)]) (.list [.str "", .str "n", .str "z", .int 26]) = true by decide +kernel]
    exact q _
end
end Lw

namespace Lw
open PySem PySem.Spec PyProof.Rows L2 Mq
open SX (S)
/-! ### the law -/
def spLaw (K : PySem.W.Frag) : Sp := fun vs H Q _ => ∃ (a : Addr) (ns : List Int), vs = [.ref a] ∧ SqL K H a (ns.map V.int) ∧ ns.length ≤ 63 ∧ ∀ H', Q (.bl true) H'
def txs (ls : List (List Nat)) : List V := ls.map fun l => V.str (S l)
theorem menu_is : ([V.str "ab", V.str "am", V.str "abx", V.str "a", V.str "xyz", V.str "abcde", V.str "ab"] : List V) = txs menu7 := rfl
theorem FsOk.drop1 {sg : List Nat} {fs : List Fd} (h : FsOk sg fs) : FsOk sg (fs.drop 1) := by
  refine ⟨?_, fun f hf => h.ok f (List.mem_of_mem_drop hf), fun i j hij hj f g hf hg => ?_⟩
  · rw [List.length_drop]
    have := h.few
    omega
  · rw [List.length_drop] at hj
    rw [List.getElem?_drop] at hf hg
    exact h.asc (1 + i) (1 + j) (by omega) (by omega) f g hf hg
theorem FdAll.drop1 {K : PySem.W.Frag} {H : Hp} : ∀ {vs : List V} {fs : List Fd}, FdAll K H vs fs → FdAll K H (vs.drop 1) (fs.drop 1)
  | _, _, .nil => .nil
  | _, _, .cons _ b => b
theorem two_of {K : PySem.W.Frag} {H : Hp} {ys : List V} {ds : List PyData} (h : ys.length = 2) (k : DgAll K H ys ds) : ∃ y1 y2 e1 e2, ys = [y1, y2] ∧ ds = [e1, e2] ∧ Dg K H y1 e1 ∧ Dg K H y2 e2 := by
  match ys, ds, h, k with
  | [y1, y2], _, _, .cons (d := e1) g1 (.cons (d := e2) g2 .nil) => exact ⟨y1, y2, e1, e2, rfl, rfl, g1, g2⟩
def MateAt (K : PySem.W.Frag) (H : Hp) (v : V) : Prop := ∃ m sg fs fa xs, v = .ref m ∧ SqT K H m [.str (S sg), .ref fa] ∧ Pts K H sg fs fa xs
theorem MateAt.kp {K : PySem.W.Frag} {H H' : Hp} {v : V} (h : MateAt K H v) (e : KpT K H H') : MateAt K H' v := let ⟨m, sg, fs, fa, xs, a, b, c⟩ := h; ⟨m, sg, fs, fa, xs, a, e _ _ b, c.kp e⟩
section
variable {P : Program} {w : World} {K : PySem.W.Frag} {mg : Str → Option Value} {base : Heap} {C CT : Addr}
theorem ok_law {f fD fP fF fM fK fB fO fW : Addr} {fd fdE fdP fdF fdM fdK fdB fdO fdW : FuncData} (F : Fun K "law" "law" s_law f fd) (B : Blt mg)
    (FD : Fun K "_law_deck" "_law_deck" s__law_deck fD fdE) (gD : mg "_law_deck" = some (.ref fD)) (bD : Binds K fdE ["_law_script"] []) (GD : FnOk P w K mg base CX0 1 fD fdE ["_law_script"] (spDeck K))
    (FP : Fun K "_law_pick" "_law_pick" s__law_pick fP fdP) (gP : mg "_law_pick" = some (.ref fP)) (bP : Binds K fdP ["_law_deck_here", "_law_some"] []) (GP : FnOk P w K mg base CX0 2 fP fdP ["_law_deck_here", "_law_some"] spPick)
    (FF : Fun K "_law_folds" "_law_folds" s__law_folds fF fdF) (gF : mg "_law_folds" = some (.ref fF)) (bF : Binds K fdF ["_law_deck_here", "_law_letters"] []) (GF : FnOk P w K mg base CX0 3 fF fdF ["_law_deck_here", "_law_letters"] (spFolds K))
    (FM : Fun K "_law_made_right" "_law_made_right" s__law_made_right fM fdM) (gM : mg "_law_made_right" = some (.ref fM)) (bM : Binds K fdM ["_law_letters", "_law_folds_here"] []) (GM : FnG P w K mg base CX0 7 fM fdM ["_law_letters", "_law_folds_here"] (spMade K))
    (FK : Fun K "_law_kept_right" "_law_kept_right" s__law_kept_right fK fdK) (gK : mg "_law_kept_right" = some (.ref fK)) (bK : Binds K fdK ["_law_letters", "_law_folds_here", "_law_mate"] []) (GK : FnG P w K mg base CX0 7 fK fdK ["_law_letters", "_law_folds_here", "_law_mate"] (spKept K))
    (FB : Fun K "_law_bent" "_law_bent" s__law_bent fB fdB) (gB : mg "_law_bent" = some (.ref fB)) (bB : Binds K fdB ["_law_deck_here", "_law_it"] []) (GB : ∀ k : Nat, FnOk P w K mg base CX0 (4 + k) fB fdB ["_law_deck_here", "_law_it"] (spBent K k))
    (FO : Fun K "_law_odd" "_law_odd" s__law_odd fO fdO) (gO : mg "_law_odd" = some (.ref fO)) (bO : Binds K fdO ["_law_deck_here", "_law_it"] []) (GO : FnOk P w K mg base CX0 3 fO fdO ["_law_deck_here", "_law_it"] (spOdd K))
    (FW : Fun K "_law_wide_right" "_law_wide_right" s__law_wide_right fW fdW) (gW : mg "_law_wide_right" = some (.ref fW)) (bW : Binds K fdW [] []) (GW : FnG P w K mg base CX0 8 fW fdW [] spWide) :
    FnG P w K mg base CX0 9 f fd ["_law_script"] (spLaw K) := by
  refine Mq.Fun.okG F sc_law (fun vs H Q E h => ?_) (fun cdv A outer s H vs Q E gA hr h => ?_)
  · obtain ⟨_, _, rfl, _⟩ := h
    rfl
  · obtain ⟨a, ns0, rfl, ha, hn0, q⟩ := h
    have GB3 : FnOk P w K mg base CX0 7 fB fdB ["_law_deck_here", "_law_it"] (spBent K 3) := GB 3
    have GB2 : FnOk P w K mg base CX0 6 fB fdB ["_law_deck_here", "_law_it"] (spBent K 2) := GB 2
    refine ⟨_, (pss_cons (ps_set (i := 1) sc_law.nd rfl (Or.inl rfl) (pe_call GD (hr.mono (by decide)) (by rfl) gD FD.kp bD .nil pass0 (pa_cons (pv 0) pa_nil)))
      (pss_cons (ps_for (passes_of rfl) rfl (pi_range1 (by rfl) B.range (pa_cons pe_int pa_nil)) (pg_name (i := 2) sc_law.nd rfl (Or.inl rfl))
        (pss_cons (ps_set (i := 3) sc_law.nd rfl (Or.inl rfl) (pe_call GP (hr.mono (by decide)) (by rfl) gP FP.kp bP .nil pass0 (pa_cons (pv 1) (pa_cons (Mq.pe_ls (pa_cons pe_str (pa_cons pe_str (pa_cons pe_str (pa_cons pe_str (pa_cons pe_str (pa_cons pe_str (pa_cons pe_str pa_nil)))))))) pa_nil))))
        (pss_cons (ps_set (i := 4) sc_law.nd rfl (Or.inl rfl) (pe_call GF (hr.mono (by decide)) (by rfl) gF FF.kp bF .nil pass0 (pa_cons (pv 1) (pa_cons (pv 3) pa_nil))))
        (pss_cons (ps_set (i := 5) sc_law.nd rfl (Or.inl rfl) (pe_call GP (hr.mono (by decide)) (by rfl) gP FP.kp bP .nil pass0 (pa_cons (pv 1) (pa_cons (Mq.pe_ls (pa_cons (pe_tup (pa_cons (pv 3) (pa_cons (pv 4) pa_nil))) (pa_cons (pe_tup (pa_cons (pv 3) (pa_cons (pe_slice sl_tupN (pv 4) (po_some pe_int) po_none) pa_nil))) (pa_cons (pe_tup (pa_cons pe_str (pa_cons (pe_call GF (hr.mono (by decide)) (by rfl) gF FF.kp bF .nil pass0 (pa_cons (pv 1) (pa_cons pe_str pa_nil))) pa_nil))) pa_nil)))) pa_nil))))
        (pss_cons (ps_if (PW.pt (pw_or (pt_not (pt_val (pe_callG GM gA (hr.mono (by decide)) (by rfl) gM FM.kp bM pass0 (pa_cons (pv 3) (pa_cons (pv 4) pa_nil))))) (pw_or1 (pt_not (pt_val (pe_callG GK gA (hr.mono (by decide)) (by rfl) gK FK.kp bK pass0 (pa_cons (pv 3) (pa_cons (pv 4) (pa_cons (pv 5) pa_nil))))))))) (pss_one ps_dead) pss_nil)
        (pss_cons (ps_for (passes_of rfl) rfl (pi_range1 (by rfl) B.range (pa_cons pe_int pa_nil)) (pg_name (i := 6) sc_law.nd rfl (Or.inl rfl))
          (pss_cons (ps_set (i := 7) sc_law.nd rfl (Or.inl rfl) (pe_call GB3 (hr.mono (by decide)) (by rfl) gB FB.kp bB .nil pass0 (pa_cons (pv 1) (pa_cons (pe_tup (pa_cons (pv 3) (pa_cons (pv 4) pa_nil))) pa_nil))))
          (pss_one (ps_if (PW.pt (pw_and (pt_val (pe_callB call_isi (by rfl) B.isi (by decide +kernel) (pa_cons (pv 7) (pa_cons (pe_bltn (v := .ty "tuple") (by rfl) B.tuple (by decide +kernel) rfl) pa_nil)))) (pw_and (pt_cmpR op_eq (pe_callB call_len_seq (by rfl) B.len (by decide +kernel) (pa_cons (pv 7) pa_nil)) pe_int (nomark _)) (pw_and1 (pt_not (pt_val (pe_callG GM gA (hr.mono (by decide)) (by rfl) gM FM.kp bM pass0 (pa_cons (pe_ix ix_tup (pv 7) pe_int (fun _ _ => rfl)) (pa_cons (pe_ix ix_tup (pv 7) pe_int (fun _ _ => rfl)) pa_nil))))))))) (pss_one ps_dead) pss_nil))))
        (pss_one (ps_if (PW.pt (pw_or (pt_not (pt_val (pe_callG GM gA (hr.mono (by decide)) (by rfl) gM FM.kp bM pass0 (pa_cons (pe_call GO (hr.mono (by decide)) (by rfl) gO FO.kp bO .nil pass0 (pa_cons (pv 1) (pa_cons (pv 3) pa_nil))) (pa_cons (pv 4) pa_nil))))) (pw_or1 (pt_not (pt_val (pe_callG GM gA (hr.mono (by decide)) (by rfl) gM FM.kp bM pass0 (pa_cons (pv 3) (pa_cons (pe_call GB2 (hr.mono (by decide)) (by rfl) gB FB.kp bB .nil pass0 (pa_cons (pv 1) (pa_cons (pv 4) pa_nil))) pa_nil)))))))) (pss_one ps_dead) pss_nil))))))))
      (pss_one (ps_ret (pe_callG0 GW gA (hr.mono (by decide)) (by rfl) gW FW.kp bW pass0))))), ?_⟩
    refine ⟨_, rfl, a, ns0, rfl, ha, hn0, fun H1 D Cc s1 dk1 => ?_⟩
    refine ⟨4, rfl, by decide, by decide, ?_⟩
    refine for_it (walk_rng (n := 4)) (fun go σ H' => DeckAt D Cc (300 * go) H' ∧ ∃ o2 o3 o4 o5 o6 o7, σ = [some (.ref a), some (.ref D), o2, o3, o4, o5, o6, o7]) ⟨dk1, _, _, _, _, _, _, rfl⟩ (fun _ _ _ _ _ => trivial) ?_ ?_
    · rintro go x0 σ H2 H2' hgo ⟨dk2, o2, o3, o4, o5, o6, o7, rfl⟩ ⟨rfl, rfl⟩
      refine ⟨_, rfl, sz_le (n := 7) (by decide), fun p hp _ => ?_⟩
      have t3 := same_new (o := HO.lst (txs menu7)) hp
      obtain ⟨pD, pC⟩ := new_ne dk2 hp
      rw [menu_is]
      refine ⟨D, Cc, 300 * go, .ref p, rfl, dk2.same t3, by omega, Or.inr ⟨p, _, rfl, upd_same, pC, by decide, by decide, fun H3 v hv dk3 off3 => ?_⟩⟩
      obtain ⟨sg, hsg, rfl⟩ := List.mem_map.mp hv
      obtain ⟨hlet, h5, _⟩ := menu_ok sg hsg
      have hs := sg_ok hlet (by omega : sg.length ≤ 100000)
      refine ⟨_, rfl, _, rfl, D, Cc, _, sg, rfl, dk3, by omega, hsg, fun H4 fa xs fs hok hfl hfa hall dk4 off4 => ?_⟩
      have p1 : Pts K H4 sg fs fa xs := ⟨hfa, hall, hok, hs, by omega, by omega⟩
      clear off3 off4 hfa hall
      -- the mates
      refine ⟨_, rfl, _, rfl, _, rfl, sz_le (n := 2) (by decide), fun m1 hm1 => ?_⟩
      have u1 := same_new (o := HO.tup [V.str (S sg), V.ref fa]) hm1
      have k1 : SqT K (upd H4 m1 (.tup [V.str (S sg), V.ref fa])) m1 [V.str (S sg), V.ref fa] := Or.inl (Or.inl upd_same)
      have p1 := p1.same u1
      have dk5 := dk4.same u1
      generalize upd H4 m1 (.tup [V.str (S sg), V.ref fa]) = G1 at k1 p1 dk5 ⊢
      have mt1 : MateAt K G1 (.ref m1) := ⟨m1, sg, fs, fa, xs, rfl, k1, p1⟩
      clear u1 hm1 dk4 k1
      refine ⟨_, rfl, _, rfl, _, rfl, fa, _, rfl, p1.fa, fun fb G2 t2 z2 => ?_⟩
      rw [show cutV xs (some 1) none = xs.drop 1 from cut_back xs 1] at z2
      have p1 := p1.same t2
      have pb : Pts K G2 sg (fs.drop 1) fb (xs.drop 1) := ⟨z2, p1.all.drop1, hok.drop1, hs, by rw [List.length_drop]; omega, by omega⟩
      refine ⟨sz_le (n := 2) (by decide), fun m2 hm2 => ?_⟩
      have u2 := same_new (o := HO.tup [V.str (S sg), V.ref fb]) hm2
      have k2 : SqT K (upd G2 m2 (.tup [V.str (S sg), V.ref fb])) m2 [V.str (S sg), V.ref fb] := Or.inl (Or.inl upd_same)
      have tu := Same.trans t2 u2
      have p1 := p1.same u2
      have mt1 := mt1.kp (KpT.same tu)
      have mt2 : MateAt K (upd G2 m2 (.tup [V.str (S sg), V.ref fb])) (.ref m2) := ⟨m2, sg, _, fb, _, rfl, k2, pb.same u2⟩
      have dk6 := dk5.same tu
      generalize upd G2 m2 (.tup [V.str (S sg), V.ref fb]) = G3 at p1 mt1 mt2 dk6 ⊢
      clear u2 k2 pb hm2 dk5 tu t2 z2
      refine ⟨_, rfl, ?_⟩
      dsimp only [tNil, tCons, tC]
      show spFolds K [.ref D, .str "ab"] _ _ _
      refine ⟨D, Cc, _, [97, 98], rfl, dk6, by omega, by decide, fun G4 fc xc fsc hokc hflc hfac hallc dk7 off7 => ?_⟩
      have kp7 : KpT K G3 G4 := KpT.off off7 dk6
      have p1 := p1.kp kp7
      have mt1 := mt1.kp kp7
      have mt2 := mt2.kp kp7
      have hsc : SgOk [97, 98] := sg_ok (menu_ok [97, 98] (by decide)).1 (by decide)
      have pc : Pts K G4 [97, 98] fsc fc xc := ⟨hfac, hallc, hokc, hsc, by omega, by decide⟩
      clear kp7 off7 dk6 hfac hallc
      refine ⟨sz_le (n := 2) (by decide), fun m3 hm3 => ?_⟩
      have u3 := same_new (o := HO.tup [V.str "ab", V.ref fc]) hm3
      have k3 : SqT K (upd G4 m3 (.tup [V.str "ab", V.ref fc])) m3 [V.str (S [97, 98]), V.ref fc] := Or.inl (Or.inl upd_same)
      have p1 := p1.same u3
      have mt1 := mt1.kp (KpT.same u3)
      have mt2 := mt2.kp (KpT.same u3)
      have mt3 : MateAt K (upd G4 m3 (.tup [V.str "ab", V.ref fc])) (.ref m3) := ⟨m3, _, _, fc, _, rfl, k3, pc.same u3⟩
      have dk8 := dk7.same u3
      generalize upd G4 m3 (.tup [V.str "ab", V.ref fc]) = G5 at p1 mt1 mt2 mt3 dk8 ⊢
      clear u3 k3 pc hm3 dk7
      refine ⟨sz_le (n := 3) (by decide), fun ml hml _ => ?_⟩
      have u4 := same_new (o := HO.lst [V.ref m1, .ref m2, .ref m3]) hml
      have mts : ∀ v ∈ [V.ref m1, .ref m2, .ref m3], MateAt K (upd G5 ml (.lst [V.ref m1, .ref m2, .ref m3])) v := by
        intro v hv
        simp only [List.mem_cons, List.not_mem_nil, or_false] at hv
        rcases hv with rfl | rfl | rfl
        · exact mt1.kp (KpT.same u4)
        · exact mt2.kp (KpT.same u4)
        · exact mt3.kp (KpT.same u4)
      have p1 := p1.same u4
      have nml := new_ne dk8 hml
      have dk9 := dk8.same u4
      refine ⟨D, Cc, _, .ref ml, rfl, dk9, by omega, Or.inr ⟨ml, _, rfl, upd_same, nml.2, Nat.zero_lt_succ _, (by show 3 ≤ 1000; decide), fun H5 mv hmv dk10 off10 => ?_⟩⟩
      have kp10 : KpT K _ H5 := KpT.off off10 dk9
      have p1 := p1.kp kp10
      obtain ⟨m, sg', fs', fa', xs', rfl, hm, p2⟩ := (mts mv hmv).kp kp10
      clear kp10 mts nml dk9 off10 u4 mt1 mt2 mt3 hml dk8 hmv
      -- made, kept
      have okS : OkD 210 2 (.str (S sg)) := p1.okS.mono (by decide) (by decide)
      refine ⟨_, rfl, _, rfl, .str (S sg), .ref fa, _, _, 210, 2, rfl, .str _, p1.td.dg, okS, p1.okF, by decide, by decide, fun H6 s6 => ⟨_, rfl, ifF rfl ?_⟩⟩
      have p1 := p1.same s6
      refine ⟨_, rfl, _, rfl, _, rfl, sg, sg', fs, fs', fa, fa', m, xs, xs', rfl, p1, Same.tup s6 hm, p2.same s6, fun H7 s7 => ⟨_, rfl, ifF rfl ?_⟩⟩
      have p1 := p1.same s7
      have dk11 := (dk10.same s6).same s7
      clear hm p2 dk10 s6 s7
      refine ⟨4, rfl, by decide, by decide, ?_⟩
      refine for_it (walk_rng (n := 4)) (fun tn σ H' => DeckAt D Cc (300 * go + 150 + 20 * tn) H' ∧ Pts K H' sg fs fa xs ∧ ∃ o6 o7, σ = [some (.ref a), some (.ref D), some (.int (go : Nat)), some (.str (S sg)), some (.ref fa), some (.ref m), o6, o7]) ⟨dk11.mono (by omega), p1, _, _, rfl⟩ (fun _ _ _ _ _ => trivial) ?_ ?_
      · rintro tn x1 σ H8 H8' htn ⟨dk12, p1, o6, o7, rfl⟩ ⟨rfl, rfl⟩
        refine ⟨_, rfl, _, rfl, _, rfl, sz_le (n := 2) (by decide), fun pp hpp => ?_⟩
        have u1 := same_new (o := HO.tup [V.str (S sg), V.ref fa]) hpp
        have k1 : SqT K (upd H8' pp (.tup [V.str (S sg), V.ref fa])) pp [V.str (S sg), V.ref fa] := Or.inl (Or.inl upd_same)
        have p1 := p1.same u1
        have okP : OkD 460 3 (.tuple [.str (S sg), .tuple (fs.map fdD)]) := ((LsOk.cons okS (LsOk.cons p1.okF (LsOk.nil (w := 0)))).tup).mono (by decide) (by decide)
        have hwP : (PyData.tuple [.str (S sg), .tuple (fs.map fdD)]).weight ≤ 460 := okP.gs.we
        refine ⟨D, Cc, _, .ref pp, .tuple [.str (S sg), .tuple (fs.map fdD)], rfl, dk12.same u1, by omega, Td.two' k1 (.str _) p1.td, okP.exact, by omega, by decide, fun H9 u T9 hT9 dk13 off13 od => ?_⟩
        have p1 := p1.kp (KpT.off off13 (dk12.same u1))
        obtain ⟨d', dv, oku⟩ := od
        have oku : OkD 1600 6 d' := oku.mono (by omega) (by decide)
        have hdg := dv.dg
        have next : ∀ H10, Same H9 H10 → DeckAt D Cc (300 * go + 150 + 20 * (tn + 1)) H10 ∧ Pts K H10 sg fs fa xs := fun H10 s10 => ⟨(dk13.same s10).mono (by omega), p1.same s10⟩
        rcases dg_tup hdg with ⟨pt, ys, ds, rfl, rfl, hpt, hda⟩ | ⟨⟨b, tb, mb, nb⟩, nx⟩
        rotate_left
        · obtain ⟨g1, g2⟩ := next H9 (Same.refl _)
          exact ⟨_, rfl, _, .ty "tuple", _, _, false, rfl, .ty _, tb, kit_noT mb nb, false, rfl, ifF rfl (ifF rfl ⟨g1, g2, _, _, rfl⟩)⟩
        refine ⟨_, rfl, _, .ty "tuple", _, _, true, rfl, .ty _, ty_tup hpt, kit_ty (by decide +kernel), true, rfl, ifT rfl ?_⟩
        refine ⟨_, rfl, _, _, rfl, Or.inr hpt, rfl, _, rfl, ?_⟩
        by_cases h2 : ys.length = 2
        rotate_left
        · obtain ⟨g1, g2⟩ := next H9 (Same.refl _)
          refine ifF (decide_eq_false fun z => h2 ?_) (ifF rfl ⟨g1, g2, _, _, rfl⟩)
          have z2 : ((ys.length : Nat) : Int) = 2 := V.int.inj z
          omega
        refine ifT (by rw [h2]; rfl) ?_
        obtain ⟨y1, y2, e1, e2, rfl, rfl, g1, g2⟩ := two_of h2 hda
        obtain ⟨m6, em6, lo⟩ := oku.tup
        have o1 := lo.mem (d := e1) (by simp)
        have o2' := lo.mem (d := e2) (by simp)
        refine ⟨_, rfl, pt, _, 0, _, rfl, rfl, hpt, atI_nat (j := 0) rfl, _, rfl, pt, _, 1, _, rfl, rfl, hpt, atI_nat (j := 1) rfl, y1, y2, e1, e2, 1600, m6, rfl, g1, g2, o1, o2', by decide, by omega, fun H10 s10 => ⟨_, rfl, ifF rfl ?_⟩⟩
        obtain ⟨g1, g2⟩ := next H10 s10
        exact ⟨g1, g2, _, _, rfl⟩
      · rintro σ H8 ⟨dk12, p1, o6, o7, rfl⟩
        have hwS : (PyData.str (S sg)).weight ≤ 30 := p1.okS.gs.we
        have hwF : (PyData.tuple (fs.map fdD)).weight ≤ 210 := p1.okF.gs.we
        refine ⟨_, rfl, _, rfl, D, Cc, _, .str (S sg), .str (S sg), 0, rfl, dk12, by omega, .str _, p1.okS.exact, by omega, fun H9 u dk13 off13 od => ?_⟩
        have p1 := p1.kp (KpT.off off13 dk12)
        obtain ⟨d', dv, oku⟩ := od
        refine ⟨_, rfl, u, .ref fa, d', _, 300, 3, rfl, dv.dg, p1.td.dg, oku.mono (by omega) (by decide), p1.okF.mono (by decide) (by decide), by decide, by decide, fun H10 s10 => ⟨_, rfl, ifF rfl ?_⟩⟩
        have p1 := p1.same s10
        refine ⟨_, rfl, _, rfl, _, rfl, D, Cc, _, .ref fa, _, rfl, dk13.same s10, by omega, p1.td, p1.okF.exact, by omega, by decide, fun H11 u2 T11 hT11 dk14 off14 od2 => ?_⟩
        have p1 := p1.kp (KpT.off off14 (dk13.same s10))
        obtain ⟨d2, dv2, oku2⟩ := od2
        refine ⟨.str (S sg), u2, _, d2, 900, 5, rfl, .str _, dv2.dg, okS.mono (by decide) (by decide), oku2.mono (by omega) (by decide), by decide, by decide, fun H12 s12 => ⟨_, rfl, ifF rfl ?_⟩⟩
        exact ⟨(dk14.same s12).mono (by omega), _, _, _, _, _, _, rfl⟩
    · rintro σ H2 ⟨dk2, o2, o3, o4, o5, o6, o7, rfl⟩
      exact ⟨rfl, q⟩
end
end Lw

namespace Mq
open PySem PySem.Spec PyProof.Rows L2
/-! ### properties among the head's facts; whole numbers and kinds at the top -/
/-- where the getter of the property m of the class x stands -/
def pgA (K : PySem.W.Frag) (x m : Str) : Addr :=
  match PySem.W.recIn K (He.ma K (He.ga K x) m) "property" with
  | some (.ref g :: _) => g
  | _ => 0
def fnRd (K : PySem.W.Frag) (f : Addr) : He.FnV :=
  match K.lookup f with
  | some ⟨_, _, .func fd, _⟩ => some (fd.name, fd.qualname, fd.params, fd.body, fd.scope, fd.globals, fd.closure, fd.defaults, fd.builtins)
  | _ => none
def prObs (K : PySem.W.Frag) (p : Str × Option Str) : He.FnV :=
  match p.2 with
  | some m => fnRd K (pgA K p.1 m)
  | none => none
theorem fnRd_ok {K : PySem.W.Frag} {f : Addr} {nm q : Str} {a : Arguments} {b : List Stmt} {s : Scope} (h : fnRd K f = some (nm, q, a, FuncBody.stmts b, s, mainGlobals, [], Value.none, builtinsNs)) :
    ∃ (oc : Value) (od : Option Addr) (osl : Array (Option Value)) (kV doc pm : Value) (an : Option Addr) (cdv ct : Value), K.lookup f = some ⟨oc, od, .func (PySem.W.fnOf nm q a b s .none kV doc pm an cdv ct), osl⟩ := by
  unfold fnRd at h
  split at h
  · rename_i oc od fd osl e
    obtain ⟨n1, n2, n3, n4, n5, n6, n7, n8, n9, n10, n11, n12, n13, n14, n15⟩ := fd
    simp only [Option.some.injEq, Prod.mk.injEq] at h
    obtain ⟨rfl, rfl, rfl, rfl, rfl, rfl, rfl, rfl, rfl⟩ := h
    exact ⟨oc, od, osl, _, _, _, _, _, _, e⟩
  · cases h
theorem prop_def {K : PySem.W.Frag} {pr : List He.FnD} (h : pr.map (fun d => prObs K d.at_) = pr.map He.FnD.val) (i : Nat) {x m nm q : Str} {a : Arguments} {b : List Stmt} {s : Scope} (e : pr[i]? = some ⟨(x, some m), nm, q, a, b, s⟩) :
    ∃ (oc : Value) (od : Option Addr) (osl : Array (Option Value)) (kV doc pm : Value) (an : Option Addr) (cdv ct : Value), K.lookup (pgA K x m) = some ⟨oc, od, .func (PySem.W.fnOf nm q a b s .none kV doc pm an cdv ct), osl⟩ := by
  have h1 := congrArg (fun l => l[i]?) h
  simp only [List.getElem?_map, e, Option.map_some, Option.some.injEq] at h1
  exact fnRd_ok h1
def recB (K : PySem.W.Frag) (p : Addr) : Bool :=
  match PySem.W.recIn K p "property" with
  | some (.ref _ :: _) => true
  | _ => false
def fProp (x m : Str) : PySem.W.Frag → Bool := fun K => He.eqO (PySem.W.findIn K (.ref (He.ga K x)) m) (some (some (.ref (He.ma K (He.ga K x) m)))) &&
  (He.eqO (PySem.W.specialIn K (.ref (He.ma K (He.ga K x) m)) "__get__") (some (some (.builtin "property.__get__"))) && (decide (PySem.W.takesIn K (.ref (He.ma K (He.ga K x) m)) = some true) && recB K (He.ma K (He.ga K x) m)))
theorem prop_of {K : PySem.W.Frag} {x m : Str} (h : fProp x m K = true) : PropOf K (He.ga K x) m (He.ma K (He.ga K x) m) (pgA K x m) := by
  obtain ⟨a, h⟩ := Bool.and_eq_true_iff.mp h
  obtain ⟨b, h⟩ := Bool.and_eq_true_iff.mp h
  obtain ⟨c, d⟩ := Bool.and_eq_true_iff.mp h
  refine ⟨He.eqO_ok a, He.eqO_ok b, of_decide_eq_true c, ?_⟩
  unfold recB at d
  unfold pgA
  split at d
  · rename_i g rest e
    rw [e]
    exact ⟨rest, rfl⟩
  · cases d
def fPrc (x m q : Str) : PySem.W.Frag → Bool := fun K =>
  match K.lookup (pgA K x m) with
  | some ⟨_, _, .func fd, _⟩ => PySem.W.codeIn K fd.code q
  | _ => false
theorem prc_of {K : PySem.W.Frag} {x m q : Str} {oc : Value} {od : Option Addr} {fd : FuncData} {osl : Array (Option Value)} (h : fPrc x m q K = true) (e : K.lookup (pgA K x m) = some ⟨oc, od, .func fd, osl⟩) : PySem.W.codeIn K fd.code q = true := by
  unfold fPrc at h
  rw [e] at h
  exact h
def fInt (x : Str) (v : Int) : PySem.W.Frag → Bool := fun K => match PySem.W.nsIn K mainGlobals x with
  | some (some (.int y _)) => decide (y = v)
  | _ => false
theorem int_of {K : PySem.W.Frag} {x : Str} {v : Int} (h : fInt x v K = true) : ∃ t, PySem.W.nsIn K mainGlobals x = some (some (.int v t)) := by
  unfold fInt at h
  split at h
  · rename_i y t e
    have := of_decide_eq_true h
    subst this
    exact ⟨t, e⟩
  · cases h
def fKitT (x : Str) (T : String) (b : Bool) : PySem.W.Frag → Bool := fun K => decide (PySem.W.kitOne K (.ref (He.ga K x)) (.type T) = some b)
theorem kitT_of {K : PySem.W.Frag} {x : Str} {T : String} {b : Bool} (h : fKitT x T b K = true) : PySem.W.kitOne K (.ref (He.ga K x)) (.type T) = some b := of_decide_eq_true h
abbrev AlP := (He.Al × Bool) × List He.FnV
def obsP (n : Nat) (fn pr : List He.FnD) (fs : List (PySem.W.Frag → Bool)) (g : Addr → Option Obj) : AlP :=
  (obsM n fn fs g, pr.map fun d => prObs (He.frG g (He.asG g n)) d.at_)
def hookP (n : Nat) (fn pr : List He.FnD) (fs : List (PySem.W.Frag → Bool)) : PySem.W.Hook where
  α := (He.Al × Bool) × List He.FnV
  obs := fun s => obsP n fn pr fs s.heap.get?
  val := fun _ => ((He.valE fn, true), pr.map He.FnD.val)
  says := fun _ h => ∃ K : PySem.W.Frag, K.In h ∧ He.SaysE [] fn K ∧ exB fs K = true ∧ pr.map (fun d => prObs K d.at_) = pr.map He.FnD.val
  of := fun w s e => ⟨He.frG s.heap.get? (He.asG s.heap.get? n), He.frG_in, congrArg (fun z : AlP => z.1.1) e, congrArg (fun z : AlP => z.1.2) e, congrArg Prod.snd e⟩
  keeps := fun w h h' ⟨K, a, b, c⟩ k => ⟨K, a.keeps k, b, c⟩
theorem obsP_eq {n : Nat} {fn pr : List He.FnD} {fs : List (PySem.W.Frag → Bool)} {g : Addr → Option Obj} {s : Shared} (h : ∀ a, g a = s.heap.get? a) : obsP n fn pr fs g = (hookP n fn pr fs).obs s := by
  have e : g = s.heap.get? := funext h
  rw [e]
  rfl
end Mq

namespace Mq
open PySem PySem.Spec PyProof.Rows L2
/-! ### classmethods among the head's facts -/
def cmA (K : PySem.W.Frag) (x m : Str) : Addr :=
  match PySem.W.recIn K (He.ma K (He.ga K x) m) "classmethod" with
  | some (.ref g :: _) => g
  | _ => 0
def cmObs (K : PySem.W.Frag) (p : Str × Option Str) : He.FnV :=
  match p.2 with
  | some m => fnRd K (cmA K p.1 m)
  | none => none
theorem cm_def {K : PySem.W.Frag} {pr : List He.FnD} (h : pr.map (fun d => cmObs K d.at_) = pr.map He.FnD.val) (i : Nat) {x m nm q : Str} {a : Arguments} {b : List Stmt} {s : Scope} (e : pr[i]? = some ⟨(x, some m), nm, q, a, b, s⟩) :
    ∃ (oc : Value) (od : Option Addr) (osl : Array (Option Value)) (kV doc pm : Value) (an : Option Addr) (cdv ct : Value), K.lookup (cmA K x m) = some ⟨oc, od, .func (PySem.W.fnOf nm q a b s .none kV doc pm an cdv ct), osl⟩ := by
  have h1 := congrArg (fun l => l[i]?) h
  simp only [List.getElem?_map, e, Option.map_some, Option.some.injEq] at h1
  exact fnRd_ok h1
def recC (K : PySem.W.Frag) (p : Addr) : Bool :=
  match PySem.W.recIn K p "classmethod" with
  | some (.ref _ :: _) => true
  | _ => false
def fRead (x : Str) : PySem.W.Frag → Bool := fun K => PySem.W.readsIn K (He.ga K x) (.type "type") && He.eqO (PySem.W.specialIn K (.ref (He.ga K x)) "__getattribute__") (some (some (.builtin "type.__getattribute__")))
theorem read_of {K : PySem.W.Frag} {x : Str} (h : fRead x K = true) : ClX.CRead K (He.ga K x) (.type "type") := by
  obtain ⟨a, b⟩ := Bool.and_eq_true_iff.mp h
  exact ⟨a, He.eqO_ok b⟩
def fCm (x m : Str) : PySem.W.Frag → Bool := fun K =>
  (match PySem.W.findCls K (.ref (He.ga K x)) (.type "type") m with
  | some (.get (.builtin t) (.ref q) .none (.ref c)) => decide (t = "classmethod.__get__") && (decide (q = He.ma K (He.ga K x) m) && decide (c = He.ga K x))
  | _ => false) && (recC K (He.ma K (He.ga K x) m) && PySem.W.fnIn K (cmA K x m))
theorem cm_of {K : PySem.W.Frag} {x m : Str} (h : fCm x m K = true) : ClX.CMet K (He.ga K x) (.type "type") m (He.ma K (He.ga K x) m) (cmA K x m) := by
  obtain ⟨a, h⟩ := Bool.and_eq_true_iff.mp h
  obtain ⟨b, c⟩ := Bool.and_eq_true_iff.mp h
  refine ⟨?_, ?_, c⟩
  · split at a
    · rename_i t q d e
      obtain ⟨a1, a2⟩ := Bool.and_eq_true_iff.mp a
      obtain ⟨a2, a3⟩ := Bool.and_eq_true_iff.mp a2
      rw [e, of_decide_eq_true a1, of_decide_eq_true a2, of_decide_eq_true a3]
    · cases a
  · unfold recC at b
    unfold cmA
    split at b
    · rename_i g rest e
      rw [e]
      exact ⟨rest, rfl⟩
    · cases b
def fCmc (x m q : Str) : PySem.W.Frag → Bool := fun K =>
  match K.lookup (cmA K x m) with
  | some ⟨_, _, .func fd, _⟩ => PySem.W.codeIn K fd.code q
  | _ => false
theorem cmc_of {K : PySem.W.Frag} {x m q : Str} {oc : Value} {od : Option Addr} {fd : FuncData} {osl : Array (Option Value)} (h : fCmc x m q K = true) (e : K.lookup (cmA K x m) = some ⟨oc, od, .func fd, osl⟩) : PySem.W.codeIn K fd.code q = true := by
  unfold fCmc at h
  rw [e] at h
  exact h
/-- the fragment, the statics among it -/
def frC (g : Addr → Option Obj) (n : Nat) : PySem.W.Frag := He.frG g (cStatics :: He.asG g n)
def obsC (n : Nat) (fn pr : List He.FnD) (fs : List (PySem.W.Frag → Bool)) (g : Addr → Option Obj) : AlP :=
  ((He.obsE [] fn (frC g n), exB fs (frC g n)), pr.map fun d => cmObs (frC g n) d.at_)
def hookC (n : Nat) (fn pr : List He.FnD) (fs : List (PySem.W.Frag → Bool)) : PySem.W.Hook where
  α := (He.Al × Bool) × List He.FnV
  obs := fun s => obsC n fn pr fs s.heap.get?
  val := fun _ => ((He.valE fn, true), pr.map He.FnD.val)
  says := fun _ h => ∃ K : PySem.W.Frag, K.In h ∧ He.SaysE [] fn K ∧ exB fs K = true ∧ pr.map (fun d => cmObs K d.at_) = pr.map He.FnD.val
  of := fun w s e => ⟨frC s.heap.get? n, He.frG_in, congrArg (fun z : AlP => z.1.1) e, congrArg (fun z : AlP => z.1.2) e, congrArg Prod.snd e⟩
  keeps := fun w h h' ⟨K, a, b, c⟩ k => ⟨K, a.keeps k, b, c⟩
theorem obsC_eq {n : Nat} {fn pr : List He.FnD} {fs : List (PySem.W.Frag → Bool)} {g : Addr → Option Obj} {s : Shared} (h : ∀ a, g a = s.heap.get? a) : obsC n fn pr fs g = (hookC n fn pr fs).obs s := by
  have e : g = s.heap.get? := funext h
  rw [e]
  rfl
end Mq

namespace Lw
open PySem PySem.Spec PyProof.Rows L2 Mq
open SX (S)
theorem all_mk {P : Program} {w : World} {K : PySem.W.Frag} {h : Heap} {mg : Str → Option Value} {fa CM : Addr} (X : K.In h) (G : h.Ns mainGlobals mg) (hfa : mg "law" = some (.ref fa))
    (aM : PySem.W.nsIn K mainGlobals "MillError" = some (some (.ref CM)))
    (mill : PySem.W.isClsIn K CM = true ∧ PySem.W.typeIn K (.ref CM) = some (.type "type"))
    (sp : PySem.W.specialIn K (.builtin "object.__class__") "__get__" = some (some (.builtin "getset_descriptor.__get__")))
    (tk : PySem.W.takesIn K (.builtin "object.__class__") = some true)
    {CB : Addr}
    (aB : PySem.W.nsIn K mainGlobals "Book" = some (some (.ref CB)))
    (owB : PySem.W.plainGet K CB Str.empty = true ∧ PySem.W.hasDictIn K CB = true ∧ PySem.W.plainOver K CB = true ∧ PySem.W.makesIn K CB = true ∧ PySem.W.keepIn K (.ref CB) = true)
    (saB : PySem.W.findIn K (.ref CB) "__setattr__" = some (some (.builtin "object.__setattr__")))
    (caB : PySem.W.findIn K (.ref CB) "__class__" = some (some (.builtin "object.__class__")))
    (moB : PySem.W.mroIn K CB (.type "object") = some true)
    (kiB : PySem.W.kitOne K (.ref CB) (.ref CB) = some true)
    (nB_letters : PySem.W.findIn K (.ref CB) "letters" = some none)
    (nB_folds : PySem.W.findIn K (.ref CB) "folds" = some none)
    (nB_table : PySem.W.findIn K (.ref CB) "table" = some none)
    {finit : Addr} {odinit aninit : Option Addr} {slinit : Array (Option Value)} {ocinit kVinit dcinit pminit cdinit ctinit : Value}
    (minit : PySem.W.findIn K (.ref CB) "__init__" = some (some (.ref finit)) ∧ PySem.W.isFn K (.ref finit) = true)
    (linit : K.lookup finit = some ⟨ocinit, odinit, .func (PySem.W.fnOf "__init__" "Book.__init__" (defArgs s_Book___init__) (defBody s_Book___init__) (defScope s_Book___init__) .none kVinit dcinit pminit aninit cdinit ctinit), slinit⟩)
    (cinit : PySem.W.codeIn K cdinit "Book.__init__" = true)
    {feq : Addr} {odeq aneq : Option Addr} {sleq : Array (Option Value)} {oceq kVeq dceq pmeq cdeq cteq : Value}
    (meq : PySem.W.findIn K (.ref CB) "__eq__" = some (some (.ref feq)) ∧ PySem.W.isFn K (.ref feq) = true)
    (leq : K.lookup feq = some ⟨oceq, odeq, .func (PySem.W.fnOf "__eq__" "Book.__eq__" (defArgs s_Book___eq__) (defBody s_Book___eq__) (defScope s_Book___eq__) .none kVeq dceq pmeq aneq cdeq cteq), sleq⟩)
    (ceq : PySem.W.codeIn K cdeq "Book.__eq__" = true)
    {fst : Addr} {odst anst : Option Addr} {slst : Array (Option Value)} {ocst kVst dcst pmst cdst ctst : Value}
    (mst : PySem.W.findIn K (.ref CB) "__str__" = some (some (.ref fst)) ∧ PySem.W.isFn K (.ref fst) = true)
    (lst : K.lookup fst = some ⟨ocst, odst, .func (PySem.W.fnOf "__str__" "Book.__str__" (defArgs s_Book___str__) (defBody s_Book___str__) (defScope s_Book___str__) .none kVst dcst pmst anst cdst ctst), slst⟩)
    (cst : PySem.W.codeIn K cdst "Book.__str__" = true)
    {fln : Addr} {odln anln : Option Addr} {slln : Array (Option Value)} {ocln kVln dcln pmln cdln ctln : Value}
    (mln : PySem.W.findIn K (.ref CB) "__len__" = some (some (.ref fln)) ∧ PySem.W.isFn K (.ref fln) = true)
    (lln : K.lookup fln = some ⟨ocln, odln, .func (PySem.W.fnOf "__len__" "Book.__len__" (defArgs s_Book___len__) (defBody s_Book___len__) (defScope s_Book___len__) .none kVln dcln pmln anln cdln ctln), slln⟩)
    (cln : PySem.W.codeIn K cdln "Book.__len__" = true)
    {flf : Addr} {odlf anlf : Option Addr} {sllf : Array (Option Value)} {oclf kVlf dclf pmlf cdlf ctlf : Value}
    (mlf : PySem.W.findIn K (.ref CB) "left_of" = some (some (.ref flf)) ∧ PySem.W.isFn K (.ref flf) = true)
    (llf : K.lookup flf = some ⟨oclf, odlf, .func (PySem.W.fnOf "left_of" "Book.left_of" (defArgs s_Book_left_of) (defBody s_Book_left_of) (defScope s_Book_left_of) .none kVlf dclf pmlf anlf cdlf ctlf), sllf⟩)
    (clf : PySem.W.codeIn K cdlf "Book.left_of" = true)
    {CT FT : Addr}
    (aT : PySem.W.nsIn K mainGlobals "BadBook" = some (some (.ref CT)))
    (xT : ClsAt K CM CT)
    (gaT : PySem.W.findIn K (.ref CT) "__getattribute__" = some (some (.builtin "BaseException.__getattribute__")))
    (ggT : PySem.W.findIn K (.ref CT) "__getattr__" = some none)
    (caT : PySem.W.findIn K (.ref CT) "__class__" = some (some (.builtin "object.__class__")))
    (wsT : PySem.W.findIn K (.ref CT) "__setattr__" = some (some (.builtin "object.__setattr__")))
    (ntT : PySem.W.findIn K (.ref CT) "part" = some none)
    (wiT : PySem.W.findIn K (.ref CT) "__init__" = some (some (.ref FT)))
    {odET anET : Option Addr} {slET : Array (Option Value)} {dcET pmET cdET ctET : Value}
    (lET : K.lookup FT = some ⟨.type "function", odET, .func (PySem.W.fnOf "__init__" "BadBook.__init__" (MqE_part.iA ⟨6, 17, 6, 21⟩ ⟨6, 23, 6, 27⟩) (MqE_part.iB ⟨7, 8, 7, 12⟩ ⟨7, 8, 7, 17⟩ ⟨7, 20, 7, 24⟩ ⟨7, 8, 7, 24⟩) MqE_part.iS .none .none dcET pmET anET cdET ctET), slET⟩)
    (cET : PySem.W.codeIn K cdET "BadBook.__init__" = true)
    (oeB : OwnEqK K CB)
    {f0 : Addr} {od0 an0 : Option Addr} {sl0 : Array (Option Value)} {oc0 kV0 dc0 pm0 cd0 ct0 : Value}
    (a0 : PySem.W.nsIn K mainGlobals "is_letters" = some (some (.ref f0)))
    (l0 : K.lookup f0 = some ⟨oc0, od0, .func (PySem.W.fnOf "is_letters" "is_letters" (defArgs s_is_letters) (defBody s_is_letters) (defScope s_is_letters) .none kV0 dc0 pm0 an0 cd0 ct0), sl0⟩)
    (c0 : PySem.W.codeIn K cd0 "is_letters" = true)
    {f1 : Addr} {od1 an1 : Option Addr} {sl1 : Array (Option Value)} {oc1 kV1 dc1 pm1 cd1 ct1 : Value}
    (a1 : PySem.W.nsIn K mainGlobals "is_letter" = some (some (.ref f1)))
    (l1 : K.lookup f1 = some ⟨oc1, od1, .func (PySem.W.fnOf "is_letter" "is_letter" (defArgs s_is_letter) (defBody s_is_letter) (defScope s_is_letter) .none kV1 dc1 pm1 an1 cd1 ct1), sl1⟩)
    (c1 : PySem.W.codeIn K cd1 "is_letter" = true)
    {f2 : Addr} {od2 an2 : Option Addr} {sl2 : Array (Option Value)} {oc2 kV2 dc2 pm2 cd2 ct2 : Value}
    (a2 : PySem.W.nsIn K mainGlobals "is_ascending" = some (some (.ref f2)))
    (l2 : K.lookup f2 = some ⟨oc2, od2, .func (PySem.W.fnOf "is_ascending" "is_ascending" (defArgs s_is_ascending) (defBody s_is_ascending) (defScope s_is_ascending) .none kV2 dc2 pm2 an2 cd2 ct2), sl2⟩)
    (c2 : PySem.W.codeIn K cd2 "is_ascending" = true)
    {f3 : Addr} {od3 an3 : Option Addr} {sl3 : Array (Option Value)} {oc3 kV3 dc3 pm3 cd3 ct3 : Value}
    (a3 : PySem.W.nsIn K mainGlobals "is_fold" = some (some (.ref f3)))
    (l3 : K.lookup f3 = some ⟨oc3, od3, .func (PySem.W.fnOf "is_fold" "is_fold" (defArgs s_is_fold) (defBody s_is_fold) (defScope s_is_fold) .none kV3 dc3 pm3 an3 cd3 ct3), sl3⟩)
    (c3 : PySem.W.codeIn K cd3 "is_fold" = true)
    {f4 : Addr} {od4 an4 : Option Addr} {sl4 : Array (Option Value)} {oc4 kV4 dc4 pm4 cd4 ct4 : Value}
    (a4 : PySem.W.nsIn K mainGlobals "_law_deck" = some (some (.ref f4)))
    (l4 : K.lookup f4 = some ⟨oc4, od4, .func (PySem.W.fnOf "_law_deck" "_law_deck" (defArgs s__law_deck) (defBody s__law_deck) (defScope s__law_deck) .none kV4 dc4 pm4 an4 cd4 ct4), sl4⟩)
    (c4 : PySem.W.codeIn K cd4 "_law_deck" = true)
    {f5 : Addr} {od5 an5 : Option Addr} {sl5 : Array (Option Value)} {oc5 kV5 dc5 pm5 cd5 ct5 : Value}
    (a5 : PySem.W.nsIn K mainGlobals "_law_draw" = some (some (.ref f5)))
    (l5 : K.lookup f5 = some ⟨oc5, od5, .func (PySem.W.fnOf "_law_draw" "_law_draw" (defArgs s__law_draw) (defBody s__law_draw) (defScope s__law_draw) .none kV5 dc5 pm5 an5 cd5 ct5), sl5⟩)
    (c5 : PySem.W.codeIn K cd5 "_law_draw" = true)
    {f6 : Addr} {od6 an6 : Option Addr} {sl6 : Array (Option Value)} {oc6 kV6 dc6 pm6 cd6 ct6 : Value}
    (a6 : PySem.W.nsIn K mainGlobals "_law_pick" = some (some (.ref f6)))
    (l6 : K.lookup f6 = some ⟨oc6, od6, .func (PySem.W.fnOf "_law_pick" "_law_pick" (defArgs s__law_pick) (defBody s__law_pick) (defScope s__law_pick) .none kV6 dc6 pm6 an6 cd6 ct6), sl6⟩)
    (c6 : PySem.W.codeIn K cd6 "_law_pick" = true)
    {f7 : Addr} {od7 an7 : Option Addr} {sl7 : Array (Option Value)} {oc7 kV7 dc7 pm7 cd7 ct7 : Value}
    (a7 : PySem.W.nsIn K mainGlobals "_law_folds" = some (some (.ref f7)))
    (l7 : K.lookup f7 = some ⟨oc7, od7, .func (PySem.W.fnOf "_law_folds" "_law_folds" (defArgs s__law_folds) (defBody s__law_folds) (defScope s__law_folds) .none kV7 dc7 pm7 an7 cd7 ct7), sl7⟩)
    (c7 : PySem.W.codeIn K cd7 "_law_folds" = true)
    {f8 : Addr} {od8 an8 : Option Addr} {sl8 : Array (Option Value)} {oc8 kV8 dc8 pm8 cd8 ct8 : Value}
    (a8 : PySem.W.nsIn K mainGlobals "_law_are_letters" = some (some (.ref f8)))
    (l8 : K.lookup f8 = some ⟨oc8, od8, .func (PySem.W.fnOf "_law_are_letters" "_law_are_letters" (defArgs s__law_are_letters) (defBody s__law_are_letters) (defScope s__law_are_letters) .none kV8 dc8 pm8 an8 cd8 ct8), sl8⟩)
    (c8 : PySem.W.codeIn K cd8 "_law_are_letters" = true)
    {f9 : Addr} {od9 an9 : Option Addr} {sl9 : Array (Option Value)} {oc9 kV9 dc9 pm9 cd9 ct9 : Value}
    (a9 : PySem.W.nsIn K mainGlobals "_law_is_fold" = some (some (.ref f9)))
    (l9 : K.lookup f9 = some ⟨oc9, od9, .func (PySem.W.fnOf "_law_is_fold" "_law_is_fold" (defArgs s__law_is_fold) (defBody s__law_is_fold) (defScope s__law_is_fold) .none kV9 dc9 pm9 an9 cd9 ct9), sl9⟩)
    (c9 : PySem.W.codeIn K cd9 "_law_is_fold" = true)
    {f10 : Addr} {od10 an10 : Option Addr} {sl10 : Array (Option Value)} {oc10 kV10 dc10 pm10 cd10 ct10 : Value}
    (a10 : PySem.W.nsIn K mainGlobals "_law_due" = some (some (.ref f10)))
    (l10 : K.lookup f10 = some ⟨oc10, od10, .func (PySem.W.fnOf "_law_due" "_law_due" (defArgs s__law_due) (defBody s__law_due) (defScope s__law_due) .none kV10 dc10 pm10 an10 cd10 ct10), sl10⟩)
    (c10 : PySem.W.codeIn K cd10 "_law_due" = true)
    {f11 : Addr} {od11 an11 : Option Addr} {sl11 : Array (Option Value)} {oc11 kV11 dc11 pm11 cd11 ct11 : Value}
    (a11 : PySem.W.nsIn K mainGlobals "_law_odd" = some (some (.ref f11)))
    (l11 : K.lookup f11 = some ⟨oc11, od11, .func (PySem.W.fnOf "_law_odd" "_law_odd" (defArgs s__law_odd) (defBody s__law_odd) (defScope s__law_odd) .none kV11 dc11 pm11 an11 cd11 ct11), sl11⟩)
    (c11 : PySem.W.codeIn K cd11 "_law_odd" = true)
    {f12 : Addr} {od12 an12 : Option Addr} {sl12 : Array (Option Value)} {oc12 kV12 dc12 pm12 cd12 ct12 : Value}
    (a12 : PySem.W.nsIn K mainGlobals "_law_bent" = some (some (.ref f12)))
    (l12 : K.lookup f12 = some ⟨oc12, od12, .func (PySem.W.fnOf "_law_bent" "_law_bent" (defArgs s__law_bent) (defBody s__law_bent) (defScope s__law_bent) .none kV12 dc12 pm12 an12 cd12 ct12), sl12⟩)
    (c12 : PySem.W.codeIn K cd12 "_law_bent" = true)
    {f13 : Addr} {od13 an13 : Option Addr} {sl13 : Array (Option Value)} {oc13 kV13 dc13 pm13 cd13 ct13 : Value}
    (a13 : PySem.W.nsIn K mainGlobals "_law_heard" = some (some (.ref f13)))
    (l13 : K.lookup f13 = some ⟨oc13, od13, .func (PySem.W.fnOf "_law_heard" "_law_heard" (defArgs s__law_heard) (defBody s__law_heard) (defScope s__law_heard) .none kV13 dc13 pm13 an13 cd13 ct13), sl13⟩)
    (c13 : PySem.W.codeIn K cd13 "_law_heard" = true)
    {f14 : Addr} {od14 an14 : Option Addr} {sl14 : Array (Option Value)} {oc14 kV14 dc14 pm14 cd14 ct14 : Value}
    (a14 : PySem.W.nsIn K mainGlobals "_law_made_right" = some (some (.ref f14)))
    (l14 : K.lookup f14 = some ⟨oc14, od14, .func (PySem.W.fnOf "_law_made_right" "_law_made_right" (defArgs s__law_made_right) (defBody s__law_made_right) (defScope s__law_made_right) .none kV14 dc14 pm14 an14 cd14 ct14), sl14⟩)
    (c14 : PySem.W.codeIn K cd14 "_law_made_right" = true)
    {f15 : Addr} {od15 an15 : Option Addr} {sl15 : Array (Option Value)} {oc15 kV15 dc15 pm15 cd15 ct15 : Value}
    (a15 : PySem.W.nsIn K mainGlobals "_law_kept_right" = some (some (.ref f15)))
    (l15 : K.lookup f15 = some ⟨oc15, od15, .func (PySem.W.fnOf "_law_kept_right" "_law_kept_right" (defArgs s__law_kept_right) (defBody s__law_kept_right) (defScope s__law_kept_right) .none kV15 dc15 pm15 an15 cd15 ct15), sl15⟩)
    (c15 : PySem.W.codeIn K cd15 "_law_kept_right" = true)
    {f16 : Addr} {od16 an16 : Option Addr} {sl16 : Array (Option Value)} {oc16 kV16 dc16 pm16 cd16 ct16 : Value}
    (a16 : PySem.W.nsIn K mainGlobals "_law_wide_right" = some (some (.ref f16)))
    (l16 : K.lookup f16 = some ⟨oc16, od16, .func (PySem.W.fnOf "_law_wide_right" "_law_wide_right" (defArgs s__law_wide_right) (defBody s__law_wide_right) (defScope s__law_wide_right) .none kV16 dc16 pm16 an16 cd16 ct16), sl16⟩)
    (c16 : PySem.W.codeIn K cd16 "_law_wide_right" = true)
    {f17 : Addr} {od17 an17 : Option Addr} {sl17 : Array (Option Value)} {oc17 kV17 dc17 pm17 cd17 ct17 : Value}
    (a17 : PySem.W.nsIn K mainGlobals "law" = some (some (.ref f17)))
    (l17 : K.lookup f17 = some ⟨oc17, od17, .func (PySem.W.fnOf "law" "law" (defArgs s_law) (defBody s_law) (defScope s_law) .none kV17 dc17 pm17 an17 cd17 ct17), sl17⟩)
    (c17 : PySem.W.codeIn K cd17 "law" = true)
    (b_len : PySem.W.nsIn K mainGlobals "len" = some none)
    (b_range : PySem.W.nsIn K mainGlobals "range" = some none)
    (b_isinstance : PySem.W.nsIn K mainGlobals "isinstance" = some none)
    (b_all : PySem.W.nsIn K mainGlobals "all" = some none)
    (b_any : PySem.W.nsIn K mainGlobals "any" = some none)
    (b_int : PySem.W.nsIn K mainGlobals "int" = some none)
    (b_str : PySem.W.nsIn K mainGlobals "str" = some none)
    (b_bool : PySem.W.nsIn K mainGlobals "bool" = some none)
    (b_tuple : PySem.W.nsIn K mainGlobals "tuple" = some none)
    (b_list : PySem.W.nsIn K mainGlobals "list" = some none)
    (b_repr : PySem.W.nsIn K mainGlobals "repr" = some none)
    (b_enumerate : PySem.W.nsIn K mainGlobals "enumerate" = some none)
    (b_sorted : PySem.W.nsIn K mainGlobals "sorted" = some none)
    (b_set : PySem.W.nsIn K mainGlobals "set" = some none)
    (t_ALPHABET : ∃ t, PySem.W.nsIn K mainGlobals "ALPHABET" = some (some (.str "abcdefghijklmnopqrstuvwxyz" t))) :
    ∃ fd : FuncData, (∀ (s : Shared) (u : Value), BindsTo s fd ⟨[u], []⟩ [("_law_script", u)]) ∧ ∀ base : Heap, K.In base → base.Ns mainGlobals mg → FnG P w K mg base CX0 9 fa fd ["_law_script"] (spLaw K) := by
  have e := hfa.symm.trans (PySem.W.mg_of X G a17)
  cases e
  have B : Blt mg := ⟨PySem.W.mg_none_of X G b_len, PySem.W.mg_none_of X G b_range, PySem.W.mg_none_of X G b_isinstance, PySem.W.mg_none_of X G b_all, PySem.W.mg_none_of X G b_any, PySem.W.mg_none_of X G b_int, PySem.W.mg_none_of X G b_str, PySem.W.mg_none_of X G b_bool, PySem.W.mg_none_of X G b_tuple, PySem.W.mg_none_of X G b_list, PySem.W.mg_none_of X G b_repr, PySem.W.mg_none_of X G b_enumerate⟩
  have n_sorted : mg "sorted" = none := PySem.W.mg_none_of X G b_sorted
  have n_set : mg "set" = none := PySem.W.mg_none_of X G b_set
  have U0 := fun_mk (st := s_is_letters) l0 c0 (keep_fn l0)
  have g0 := PySem.W.mg_of X G a0
  have b0 := U0.binds (ps := ["thing"]) fun _ _ _ _ _ _ us hl => match us, hl with | [_], _ => rfl
  have U1 := fun_mk (st := s_is_letter) l1 c1 (keep_fn l1)
  have g1 := PySem.W.mg_of X G a1
  have b1 := U1.binds (ps := ["letters", "thing"]) fun _ _ _ _ _ _ us hl => match us, hl with | [_, _], _ => rfl
  have U2 := fun_mk (st := s_is_ascending) l2 c2 (keep_fn l2)
  have g2 := PySem.W.mg_of X G a2
  have b2 := U2.binds (ps := ["parts"]) fun _ _ _ _ _ _ us hl => match us, hl with | [_], _ => rfl
  have U3 := fun_mk (st := s_is_fold) l3 c3 (keep_fn l3)
  have g3 := PySem.W.mg_of X G a3
  have b3 := U3.binds (ps := ["letters", "thing"]) fun _ _ _ _ _ _ us hl => match us, hl with | [_, _], _ => rfl
  have U4 := fun_mk (st := s__law_deck) l4 c4 (keep_fn l4)
  have g4 := PySem.W.mg_of X G a4
  have b4 := U4.binds (ps := ["_law_script"]) fun _ _ _ _ _ _ us hl => match us, hl with | [_], _ => rfl
  have U5 := fun_mk (st := s__law_draw) l5 c5 (keep_fn l5)
  have g5 := PySem.W.mg_of X G a5
  have b5 := U5.binds (ps := ["_law_deck_here", "_law_below"]) fun _ _ _ _ _ _ us hl => match us, hl with | [_, _], _ => rfl
  have U6 := fun_mk (st := s__law_pick) l6 c6 (keep_fn l6)
  have g6 := PySem.W.mg_of X G a6
  have b6 := U6.binds (ps := ["_law_deck_here", "_law_some"]) fun _ _ _ _ _ _ us hl => match us, hl with | [_, _], _ => rfl
  have U7 := fun_mk (st := s__law_folds) l7 c7 (keep_fn l7)
  have g7 := PySem.W.mg_of X G a7
  have b7 := U7.binds (ps := ["_law_deck_here", "_law_letters"]) fun _ _ _ _ _ _ us hl => match us, hl with | [_, _], _ => rfl
  have U8 := fun_mk (st := s__law_are_letters) l8 c8 (keep_fn l8)
  have g8 := PySem.W.mg_of X G a8
  have b8 := U8.binds (ps := ["_law_it"]) fun _ _ _ _ _ _ us hl => match us, hl with | [_], _ => rfl
  have U9 := fun_mk (st := s__law_is_fold) l9 c9 (keep_fn l9)
  have g9 := PySem.W.mg_of X G a9
  have b9 := U9.binds (ps := ["_law_letters", "_law_it"]) fun _ _ _ _ _ _ us hl => match us, hl with | [_, _], _ => rfl
  have U10 := fun_mk (st := s__law_due) l10 c10 (keep_fn l10)
  have g10 := PySem.W.mg_of X G a10
  have b10 := U10.binds (ps := ["_law_letters", "_law_folds_here"]) fun _ _ _ _ _ _ us hl => match us, hl with | [_, _], _ => rfl
  have U11 := fun_mk (st := s__law_odd) l11 c11 (keep_fn l11)
  have g11 := PySem.W.mg_of X G a11
  have b11 := U11.binds (ps := ["_law_deck_here", "_law_it"]) fun _ _ _ _ _ _ us hl => match us, hl with | [_, _], _ => rfl
  have U12 := fun_mk (st := s__law_bent) l12 c12 (keep_fn l12)
  have g12 := PySem.W.mg_of X G a12
  have b12 := U12.binds (ps := ["_law_deck_here", "_law_it"]) fun _ _ _ _ _ _ us hl => match us, hl with | [_, _], _ => rfl
  have U13 := fun_mk (st := s__law_heard) l13 c13 (keep_fn l13)
  have g13 := PySem.W.mg_of X G a13
  have b13 := U13.binds (ps := ["_law_letters", "_law_folds_here", "_law_is_named"]) fun _ _ _ _ _ _ us hl => match us, hl with | [_, _, _], _ => rfl
  have U14 := fun_mk (st := s__law_made_right) l14 c14 (keep_fn l14)
  have g14 := PySem.W.mg_of X G a14
  have b14 := U14.binds (ps := ["_law_letters", "_law_folds_here"]) fun _ _ _ _ _ _ us hl => match us, hl with | [_, _], _ => rfl
  have U15 := fun_mk (st := s__law_kept_right) l15 c15 (keep_fn l15)
  have g15 := PySem.W.mg_of X G a15
  have b15 := U15.binds (ps := ["_law_letters", "_law_folds_here", "_law_mate"]) fun _ _ _ _ _ _ us hl => match us, hl with | [_, _, _], _ => rfl
  have U16 := fun_mk (st := s__law_wide_right) l16 c16 (keep_fn l16)
  have g16 := PySem.W.mg_of X G a16
  have b16 := U16.binds (ps := []) fun _ _ _ _ _ _ us hl => match us, hl with | [], _ => rfl
  have U17 := fun_mk (st := s_law) l17 c17 (keep_fn l17)
  have g17 := PySem.W.mg_of X G a17
  have b17 := U17.binds (ps := ["_law_script"]) fun _ _ _ _ _ _ us hl => match us, hl with | [_], _ => rfl
  have gCB := PySem.W.mg_of X G aB
  have Uinit := fun_mk (st := s_Book___init__) linit cinit (keep_fn linit)
  have binit := Uinit.binds (ps := ["self", "letters", "folds"]) fun _ _ _ _ _ _ us hl => match us, hl with | [_, _, _], _ => rfl
  have Minit : Meth K CB "__init__" finit := ⟨minit.1, minit.2, keep_fn linit⟩
  have Ueq := fun_mk (st := s_Book___eq__) leq ceq (keep_fn leq)
  have beq := Ueq.binds (ps := ["self", "other"]) fun _ _ _ _ _ _ us hl => match us, hl with | [_, _], _ => rfl
  have Meq : Meth K CB "__eq__" feq := ⟨meq.1, meq.2, keep_fn leq⟩
  have Ust := fun_mk (st := s_Book___str__) lst cst (keep_fn lst)
  have bst := Ust.binds (ps := ["self"]) fun _ _ _ _ _ _ us hl => match us, hl with | [_], _ => rfl
  have Mst : Meth K CB "__str__" fst := ⟨mst.1, mst.2, keep_fn lst⟩
  have Uln := fun_mk (st := s_Book___len__) lln cln (keep_fn lln)
  have bln := Uln.binds (ps := ["self"]) fun _ _ _ _ _ _ us hl => match us, hl with | [_], _ => rfl
  have Mln : Meth K CB "__len__" fln := ⟨mln.1, mln.2, keep_fn lln⟩
  have Ulf := fun_mk (st := s_Book_left_of) llf clf (keep_fn llf)
  have blf := Ulf.binds (ps := ["self", "last", "laid"]) fun _ _ _ _ _ _ us hl => match us, hl with | [_, _, _], _ => rfl
  have Mlf : Meth K CB "left_of" flf := ⟨mlf.1, mlf.2, keep_fn llf⟩
  have gCT := PySem.W.mg_of X G aT
  have YT : ClsF K CM CT := ⟨xT, gaT, ggT, caT⟩
  have TT : MqE_part.Txt K mg "BadBook" "BadBook.__init__" CT FT := ⟨gCT, YT.at_.keep, YT.at_.init, YT.at_.over, YT.at_.has, NoAttr.taker ntT, wsT, wiT, (by simp [PySem.W.typeIn, lET]), YT.base, YT.at_.ty, _, _, _, _, _, _, _, _, _, _, _, _, _, _, lET, cET⟩
  refine ⟨PySem.W.fnOf "law" "law" (defArgs s_law) (defBody s_law) (defScope s_law) .none kV17 dc17 pm17 an17 cd17 ct17, fun s u => .of_eq rfl, fun base _ _ => ?_⟩
  have R : BkC K CB := ⟨⟨owB.1, owB.2.1, owB.2.2.1, saB⟩, nB_letters, nB_folds, nB_table⟩
  have MK : Mk K CB finit := ⟨owB.2.2.2.1, minit.1, minit.2, owB.2.2.2.2⟩
  have EQ : EqT K mg CB := ⟨gCB, fun H a dx fs e => .base (.ins e R.cls caB sp tk moB), kiB, oeB⟩
  have ET : ErrP K mg CT CM FT := ⟨TT, YT.xf, ntT, YT.held sp tk, PySem.W.mg_of X G aM, YT.at_.mill mill.1 mill.2, exm_own YT⟩
  obtain ⟨tA, aA⟩ := t_ALPHABET
  have kI : KBn K _ ["self", "letters", "folds"] 1 ["folds", "letters"] app2r app2r := kbn_1r2 Uinit fun _ _ _ _ _ _ _ _ _ => rfl
  have kL : KBn K _ ["self", "last", "laid"] 1 ["laid", "last"] app2r app2r := kbn_1r2 Ulf fun _ _ _ _ _ _ _ _ _ => rfl
  have Glets : FnOk P w K mg base CX0 2 f0 _ ["thing"] (spLetters K) := ok_is_letters U0 B U2 g2 b2 ⟨tA, PySem.W.mg_of X G aA⟩
  have Gfold : FnOk P w K mg base CX0 2 f3 _ ["letters", "thing"] (spFoldA K) := ok_foldA U3 B U1 g1 b1
  have Gini : FnOk P w K mg base (L2.CX P w) 3 finit _ ["self", "letters", "folds"] (spBookA K CB CT) := ok_bookA Uinit B R U0 g0 b0 Glets U3 g3 b3 Gfold TT
  have Geq : FnOk P w K mg base CX0 3 feq _ ["self", "other"] (spEqA K CB) := ok_eq Ueq B R EQ
  have Gstr : FnOk P w K mg base CX0 1 fst _ ["self"] (spStr K CB) := ok_str Ust R
  have Glen : FnOk P w K mg base CX0 1 fln _ ["self"] (spLen CB) := ok_len Uln B R
  have Glef : FnOk P w K mg base CX0 1 flf _ ["self", "last", "laid"] (spLeft CB) := ok_left Ulf R
  have Gdec : FnOk P w K mg base CX0 1 f4 _ ["_law_script"] (spDeck K) := ok_deck U4 B
  have Gdra : FnOk P w K mg base CX0 1 f5 _ ["_law_deck_here", "_law_below"] spDraw := ok_draw U5 B
  have Gpic : FnOk P w K mg base CX0 2 f6 _ ["_law_deck_here", "_law_some"] spPick := ok_pick U6 B U5 g5 b5
  have Gfds : FnOk P w K mg base CX0 3 f7 _ ["_law_deck_here", "_law_letters"] (spFolds K) := ok_folds U7 B U6 g6 b6 Gpic
  have Gare : FnOk P w K mg base CX0 1 f8 _ ["_law_it"] (spAre K) := ok_are U8 B n_sorted n_set
  have Gisf : FnOk P w K mg base CX0 1 f9 _ ["_law_letters", "_law_it"] (spIsFold K) := ok_is_foldL U9 B
  have Gdue : FnOk P w K mg base CX0 2 f10 _ ["_law_letters", "_law_folds_here"] (spDue K) := ok_due U10 B U8 g8 b8 Gare U9 g9 b9 Gisf
  have Gher : FnG P w K mg base CX0 6 f13 _ ["_law_letters", "_law_folds_here", "_law_is_named"] (spHeard K) := ok_heard U13 B ET R gCB MK binit kI Gini Mln bln Glen
  have Gmad : FnG P w K mg base CX0 7 f14 _ ["_law_letters", "_law_folds_here"] (spMade K) := ok_made U14 B U10 g10 b10 Gdue U13 g13 b13 Gher
  have Gkep : FnG P w K mg base CX0 7 f15 _ ["_law_letters", "_law_folds_here", "_law_mate"] (spKept K) := ok_kept U15 B R EQ MK binit Gini Meq beq Geq Mst bst Gstr Mlf blf kL Glef
  have Godd : FnOk P w K mg base CX0 3 f11 _ ["_law_deck_here", "_law_it"] (spOdd K) := ok_odd U11 B U6 g6 b6 Gpic
  have Gben : ∀ k : Nat, FnOk P w K mg base CX0 (4 + k) f12 _ ["_law_deck_here", "_law_it"] (spBent K k) := ok_bent U12 B U5 g5 b5 Gdra U11 g11 b11 Godd g12 b12
  have Gwid : FnG P w K mg base CX0 8 f16 _ [] spWide := ok_wide U16 B R EQ U14 g14 b14 Gmad MK binit Gini Mln bln Glen Mlf blf Glef
  exact ok_law U17 B U4 g4 b4 Gdec U6 g6 b6 Gpic U7 g7 b7 Gfds U14 g14 b14 Gmad U15 g15 b15 Gkep U12 g12 b12 Gben U11 g11 b11 Godd U16 g16 b16 Gwid
end Lw

namespace Lw
open PySem PySem.Spec PyProof.Rows L2 Mq
open SX (S)
def fnL : List He.FnD := [⟨("Book", some "__init__"), "__init__", "Book.__init__", defArgs s_Book___init__, defBody s_Book___init__, defScope s_Book___init__⟩,
  ⟨("Book", some "__eq__"), "__eq__", "Book.__eq__", defArgs s_Book___eq__, defBody s_Book___eq__, defScope s_Book___eq__⟩,
  ⟨("Book", some "__str__"), "__str__", "Book.__str__", defArgs s_Book___str__, defBody s_Book___str__, defScope s_Book___str__⟩,
  ⟨("Book", some "__len__"), "__len__", "Book.__len__", defArgs s_Book___len__, defBody s_Book___len__, defScope s_Book___len__⟩,
  ⟨("Book", some "left_of"), "left_of", "Book.left_of", defArgs s_Book_left_of, defBody s_Book_left_of, defScope s_Book_left_of⟩,
  ⟨("BadBook", some "__init__"), "__init__", "BadBook.__init__", MqE_part.iA ⟨6, 17, 6, 21⟩ ⟨6, 23, 6, 27⟩, MqE_part.iB ⟨7, 8, 7, 12⟩ ⟨7, 8, 7, 17⟩ ⟨7, 20, 7, 24⟩ ⟨7, 8, 7, 24⟩, MqE_part.iS⟩,
  ⟨("is_letters", none), "is_letters", "is_letters", defArgs s_is_letters, defBody s_is_letters, defScope s_is_letters⟩,
  ⟨("is_letter", none), "is_letter", "is_letter", defArgs s_is_letter, defBody s_is_letter, defScope s_is_letter⟩,
  ⟨("is_ascending", none), "is_ascending", "is_ascending", defArgs s_is_ascending, defBody s_is_ascending, defScope s_is_ascending⟩,
  ⟨("is_fold", none), "is_fold", "is_fold", defArgs s_is_fold, defBody s_is_fold, defScope s_is_fold⟩,
  ⟨("_law_deck", none), "_law_deck", "_law_deck", defArgs s__law_deck, defBody s__law_deck, defScope s__law_deck⟩,
  ⟨("_law_draw", none), "_law_draw", "_law_draw", defArgs s__law_draw, defBody s__law_draw, defScope s__law_draw⟩,
  ⟨("_law_pick", none), "_law_pick", "_law_pick", defArgs s__law_pick, defBody s__law_pick, defScope s__law_pick⟩,
  ⟨("_law_folds", none), "_law_folds", "_law_folds", defArgs s__law_folds, defBody s__law_folds, defScope s__law_folds⟩,
  ⟨("_law_are_letters", none), "_law_are_letters", "_law_are_letters", defArgs s__law_are_letters, defBody s__law_are_letters, defScope s__law_are_letters⟩,
  ⟨("_law_is_fold", none), "_law_is_fold", "_law_is_fold", defArgs s__law_is_fold, defBody s__law_is_fold, defScope s__law_is_fold⟩,
  ⟨("_law_due", none), "_law_due", "_law_due", defArgs s__law_due, defBody s__law_due, defScope s__law_due⟩,
  ⟨("_law_odd", none), "_law_odd", "_law_odd", defArgs s__law_odd, defBody s__law_odd, defScope s__law_odd⟩,
  ⟨("_law_bent", none), "_law_bent", "_law_bent", defArgs s__law_bent, defBody s__law_bent, defScope s__law_bent⟩,
  ⟨("_law_heard", none), "_law_heard", "_law_heard", defArgs s__law_heard, defBody s__law_heard, defScope s__law_heard⟩,
  ⟨("_law_made_right", none), "_law_made_right", "_law_made_right", defArgs s__law_made_right, defBody s__law_made_right, defScope s__law_made_right⟩,
  ⟨("_law_kept_right", none), "_law_kept_right", "_law_kept_right", defArgs s__law_kept_right, defBody s__law_kept_right, defScope s__law_kept_right⟩,
  ⟨("_law_wide_right", none), "_law_wide_right", "_law_wide_right", defArgs s__law_wide_right, defBody s__law_wide_right, defScope s__law_wide_right⟩,
  ⟨("law", none), "law", "law", defArgs s_law, defBody s_law, defScope s_law⟩]
def fs0 : List (PySem.W.Frag → Bool) := [fGlo "MillError",
  fMill,
  fSp,
  fTk,
  fGlo "Book",
  fOwn "Book",
  fFind "Book" "__setattr__" (some (.builtin "object.__setattr__")),
  fFind "Book" "__class__" (some (.builtin "object.__class__")),
  fMro "Book",
  fKit "Book" "Book" true,
  fFind "Book" "letters" none,
  fFind "Book" "folds" none,
  fFind "Book" "table" none,
  fMeth "Book" "__init__",
  fMeth "Book" "__eq__",
  fMeth "Book" "__str__",
  fMeth "Book" "__len__",
  fMeth "Book" "left_of",
  fGlo "BadBook",
  fCls "BadBook",
  fFind "BadBook" "__getattribute__" (some (.builtin "BaseException.__getattribute__")),
  fFind "BadBook" "__getattr__" none,
  fFind "BadBook" "__class__" (some (.builtin "object.__class__")),
  fFind "BadBook" "__setattr__" (some (.builtin "object.__setattr__")),
  fFind "BadBook" "part" none,
  fInit "BadBook",
  fFn "BadBook",
  fOwnEq "Book",
  fGlo "is_letters",
  fGlo "is_letter"]
def fs1 : List (PySem.W.Frag → Bool) := [fGlo "is_ascending",
  fGlo "is_fold",
  fGlo "_law_deck",
  fGlo "_law_draw",
  fGlo "_law_pick",
  fGlo "_law_folds",
  fGlo "_law_are_letters",
  fGlo "_law_is_fold",
  fGlo "_law_due",
  fGlo "_law_odd",
  fGlo "_law_bent",
  fGlo "_law_heard",
  fGlo "_law_made_right",
  fGlo "_law_kept_right",
  fGlo "_law_wide_right",
  fGlo "law",
  fFree "len",
  fFree "range",
  fFree "isinstance",
  fFree "all",
  fFree "any",
  fFree "int",
  fFree "str",
  fFree "bool",
  fFree "tuple",
  fFree "list",
  fFree "repr",
  fFree "enumerate",
  fFree "sorted",
  fFree "set"]
def fs2 : List (PySem.W.Frag → Bool) := [fTxt "ALPHABET" "abcdefghijklmnopqrstuvwxyz"]
def fsL : List (PySem.W.Frag → Bool) := fs0 ++ fs1 ++ fs2
def prL : List He.FnD := []
theorem facts {P : Program} {w : World} {K : PySem.W.Frag} {h : Heap} {mg : Str → Option Value} {fa : Addr} (X : K.In h) (G : h.Ns mainGlobals mg) (hfa : mg ("law" : Str) = some (.ref fa)) (c : He.SaysE [] fnL K) (hx : exB fsL K = true) (hp : prL.map (fun d => cmObs K d.at_) = prL.map He.FnD.val) :
    ∃ fd : FuncData, (∀ (s : Shared) (u : Value), BindsTo s fd ⟨[u], []⟩ [("_law_script", u)]) ∧ ∀ base : Heap, K.In base → base.Ns mainGlobals mg → FnG P w K mg base CX0 9 fa fd ["_law_script"] (spLaw K) := by
  obtain ⟨_, _, _, _, _, _, _, _, _, linit, cinit⟩ := c.def_ 0 rfl
  obtain ⟨_, _, _, _, _, _, _, _, _, leq, ceq⟩ := c.def_ 1 rfl
  obtain ⟨_, _, _, _, _, _, _, _, _, lst, cst⟩ := c.def_ 2 rfl
  obtain ⟨_, _, _, _, _, _, _, _, _, lln, cln⟩ := c.def_ 3 rfl
  obtain ⟨_, _, _, _, _, _, _, _, _, llf, clf⟩ := c.def_ 4 rfl
  obtain ⟨_, _, _, _, _, _, _, _, _, lET, cET⟩ := c.def_ 5 rfl
  obtain ⟨rfl, rfl⟩ := fnB_ok (exAt hx 26 (f := fFn "BadBook") rfl) lET
  obtain ⟨_, _, _, _, _, _, _, _, _, l0, c0⟩ := c.def_ 6 rfl
  obtain ⟨_, _, _, _, _, _, _, _, _, l1, c1⟩ := c.def_ 7 rfl
  obtain ⟨_, _, _, _, _, _, _, _, _, l2, c2⟩ := c.def_ 8 rfl
  obtain ⟨_, _, _, _, _, _, _, _, _, l3, c3⟩ := c.def_ 9 rfl
  obtain ⟨_, _, _, _, _, _, _, _, _, l4, c4⟩ := c.def_ 10 rfl
  obtain ⟨_, _, _, _, _, _, _, _, _, l5, c5⟩ := c.def_ 11 rfl
  obtain ⟨_, _, _, _, _, _, _, _, _, l6, c6⟩ := c.def_ 12 rfl
  obtain ⟨_, _, _, _, _, _, _, _, _, l7, c7⟩ := c.def_ 13 rfl
  obtain ⟨_, _, _, _, _, _, _, _, _, l8, c8⟩ := c.def_ 14 rfl
  obtain ⟨_, _, _, _, _, _, _, _, _, l9, c9⟩ := c.def_ 15 rfl
  obtain ⟨_, _, _, _, _, _, _, _, _, l10, c10⟩ := c.def_ 16 rfl
  obtain ⟨_, _, _, _, _, _, _, _, _, l11, c11⟩ := c.def_ 17 rfl
  obtain ⟨_, _, _, _, _, _, _, _, _, l12, c12⟩ := c.def_ 18 rfl
  obtain ⟨_, _, _, _, _, _, _, _, _, l13, c13⟩ := c.def_ 19 rfl
  obtain ⟨_, _, _, _, _, _, _, _, _, l14, c14⟩ := c.def_ 20 rfl
  obtain ⟨_, _, _, _, _, _, _, _, _, l15, c15⟩ := c.def_ 21 rfl
  obtain ⟨_, _, _, _, _, _, _, _, _, l16, c16⟩ := c.def_ 22 rfl
  obtain ⟨_, _, _, _, _, _, _, _, _, l17, c17⟩ := c.def_ 23 rfl
  exact all_mk X G hfa (glo_of (exAt hx 0 (f := fGlo "MillError") rfl)) (mill_of (exAt hx 1 (f := fMill) rfl)) (sp_of (exAt hx 2 (f := fSp) rfl)) (tk_of (exAt hx 3 (f := fTk) rfl)) (glo_of (exAt hx 4 (f := fGlo "Book") rfl)) (own_of (exAt hx 5 (f := fOwn "Book") rfl)) (find_of (exAt hx 6 (f := fFind "Book" "__setattr__" (some (.builtin "object.__setattr__"))) rfl)) (find_of (exAt hx 7 (f := fFind "Book" "__class__" (some (.builtin "object.__class__"))) rfl)) (mro_of (exAt hx 8 (f := fMro "Book") rfl)) (kit_of (exAt hx 9 (f := fKit "Book" "Book" true) rfl)) (find_of (exAt hx 10 (f := fFind "Book" "letters" none) rfl)) (find_of (exAt hx 11 (f := fFind "Book" "folds" none) rfl)) (find_of (exAt hx 12 (f := fFind "Book" "table" none) rfl)) (meth_of (exAt hx 13 (f := fMeth "Book" "__init__") rfl)) linit cinit (meth_of (exAt hx 14 (f := fMeth "Book" "__eq__") rfl)) leq ceq (meth_of (exAt hx 15 (f := fMeth "Book" "__str__") rfl)) lst cst (meth_of (exAt hx 16 (f := fMeth "Book" "__len__") rfl)) lln cln (meth_of (exAt hx 17 (f := fMeth "Book" "left_of") rfl)) llf clf (glo_of (exAt hx 18 (f := fGlo "BadBook") rfl)) (cls_of (exAt hx 19 (f := fCls "BadBook") rfl)) (find_of (exAt hx 20 (f := fFind "BadBook" "__getattribute__" (some (.builtin "BaseException.__getattribute__"))) rfl)) (find_of (exAt hx 21 (f := fFind "BadBook" "__getattr__" none) rfl)) (find_of (exAt hx 22 (f := fFind "BadBook" "__class__" (some (.builtin "object.__class__"))) rfl)) (find_of (exAt hx 23 (f := fFind "BadBook" "__setattr__" (some (.builtin "object.__setattr__"))) rfl)) (find_of (exAt hx 24 (f := fFind "BadBook" "part" none) rfl)) (init_of (exAt hx 25 (f := fInit "BadBook") rfl)) lET cET (ownEq_of (exAt hx 27 (f := fOwnEq "Book") rfl)) (glo_of (exAt hx 28 (f := fGlo "is_letters") rfl)) l0 c0 (glo_of (exAt hx 29 (f := fGlo "is_letter") rfl)) l1 c1 (glo_of (exAt hx 30 (f := fGlo "is_ascending") rfl)) l2 c2 (glo_of (exAt hx 31 (f := fGlo "is_fold") rfl)) l3 c3 (glo_of (exAt hx 32 (f := fGlo "_law_deck") rfl)) l4 c4 (glo_of (exAt hx 33 (f := fGlo "_law_draw") rfl)) l5 c5 (glo_of (exAt hx 34 (f := fGlo "_law_pick") rfl)) l6 c6 (glo_of (exAt hx 35 (f := fGlo "_law_folds") rfl)) l7 c7 (glo_of (exAt hx 36 (f := fGlo "_law_are_letters") rfl)) l8 c8 (glo_of (exAt hx 37 (f := fGlo "_law_is_fold") rfl)) l9 c9 (glo_of (exAt hx 38 (f := fGlo "_law_due") rfl)) l10 c10 (glo_of (exAt hx 39 (f := fGlo "_law_odd") rfl)) l11 c11 (glo_of (exAt hx 40 (f := fGlo "_law_bent") rfl)) l12 c12 (glo_of (exAt hx 41 (f := fGlo "_law_heard") rfl)) l13 c13 (glo_of (exAt hx 42 (f := fGlo "_law_made_right") rfl)) l14 c14 (glo_of (exAt hx 43 (f := fGlo "_law_kept_right") rfl)) l15 c15 (glo_of (exAt hx 44 (f := fGlo "_law_wide_right") rfl)) l16 c16 (glo_of (exAt hx 45 (f := fGlo "law") rfl)) l17 c17 (free_of (exAt hx 46 (f := fFree "len") rfl)) (free_of (exAt hx 47 (f := fFree "range") rfl)) (free_of (exAt hx 48 (f := fFree "isinstance") rfl)) (free_of (exAt hx 49 (f := fFree "all") rfl)) (free_of (exAt hx 50 (f := fFree "any") rfl)) (free_of (exAt hx 51 (f := fFree "int") rfl)) (free_of (exAt hx 52 (f := fFree "str") rfl)) (free_of (exAt hx 53 (f := fFree "bool") rfl)) (free_of (exAt hx 54 (f := fFree "tuple") rfl)) (free_of (exAt hx 55 (f := fFree "list") rfl)) (free_of (exAt hx 56 (f := fFree "repr") rfl)) (free_of (exAt hx 57 (f := fFree "enumerate") rfl)) (free_of (exAt hx 58 (f := fFree "sorted") rfl)) (free_of (exAt hx 59 (f := fFree "set") rfl)) (txt_of (exAt hx 60 (f := fTxt "ALPHABET" "abcdefghijklmnopqrstuvwxyz") rfl))
end Lw

namespace Lw
open PySem PySem.W PySem.Calls PyProof.Rows Mq
abbrev RR : OpenRow := OpenLaw.row PySem.Challenge.rw_millhands_k01_books_of_any_values
def nm0 : List PySem.Str := ["MillError", "BadBook", "BadText", "is_letters", "is_letter", "is_ascending", "text_parts", "Book", "is_fold", "fold_read", "_law_deck", "_law_draw", "_law_pick", "_law_folds", "_law_are_letters", "_law_is_fold", "_law_due", "_law_odd", "_law_bent", "_law_heard", "_law_made_right", "_law_kept_right", "_law_wide_right", "ALPHABET"]
abbrev nmL : List PySem.Str := nm0
abbrev hk : Hook := hookC 5 fnL prL fsL
def ob (s : SharedT) : AlP := obsC 5 fnL prL fsL (HandSHeadRun.getT s)
theorem ob_eq (s : SharedT) : ob s = hk.obs s.abs := obsC_eq (HandSHeadRun.getT_eq s)
theorem run (w : World) : HandSHeadRun.RunEq RR (view RR.prog [28]) hk ob 9600 nmL w := by
  intro os
  kernel_rfl
end Lw

open PySem PySem.W PySem.Calls PyProof.Rows
theorem PySem.Challenge.cw_millhands_k01_books_of_any_values_holds : PySem.Challenge.rw_millhands_k01_books_of_any_values.Holds := by
  w_on; o_law
  refine HandSHeadRun.head_any (r := OpenLaw.row PySem.Challenge.rw_millhands_k01_books_of_any_values) (q := view (OpenLaw.row PySem.Challenge.rw_millhands_k01_books_of_any_values).prog [28]) (H := Lw.hk) (ob := Lw.ob) (M := 9600) (loose := Lw.nmL) (d := HandSHeadRun.topDef (OpenLaw.row PySem.Challenge.rw_millhands_k01_books_of_any_values).prog 28) (kwd := []) Lw.ob_eq
    (by kernel_rfl) (fun s => by kernel_rfl) Lw.run (by kernel_rfl) (by kernel_rfl) (by kernel_rfl) (by rfl) (by first | assumption | decide +kernel) (by decide +kernel) ⟨rfl, rfl, rfl, rfl, rfl, by decide +kernel⟩ ?hw ?hc
  case hw => w_witness2
  case hc =>
    refine Mq.walk_ofGE (l := PySem.Challenge.rw_millhands_k01_books_of_any_values) (n := 63) (k := 9) (x := "_law_script") (CX := L2.CX0) rfl (by decide) (by kernel_rfl) ⟨rfl, by decide, by decide⟩ ?F (fun _ _ _ _ z => z)
    intro w mg fa h Y G hmg0
    obtain ⟨K, KX, c, hx, hpr⟩ := Y
    have hmg : mg ("law" : PySem.Str) = some (.ref fa) := by
      have e : (HandSHeadRun.topDef (OpenLaw.row PySem.Challenge.rw_millhands_k01_books_of_any_values).prog 28).name = ("law" : PySem.Str) := by kernel_rfl
      rw [← e]
      exact hmg0
    obtain ⟨fd, hb, hF⟩ := Lw.facts (P := (PySem.Challenge.rw_millhands_k01_books_of_any_values).prog) (w := w) KX G hmg c hx hpr
    exact ⟨K, fd, Lw.spLaw K, KX, hb, fun H a ns hl _ hS => ⟨a, ns, rfl, hS, hl, fun _ => rfl⟩, hF⟩

