import PyProof.Rows.All
import Wide.All
import OpenK.AllK
import Wide.FinOn
import PyProof.EqAt
import PyProof.EqKinds
import PyProof.TupleCall
import PyProof.ReprReads
import KE.KExcInit
import HandS.ForMost
import HandS.ForExc
import HandS.ExcField
import HandS.Flow
import HandS.Style
import PyProof.ReprRoads
import HandS.ExcIs
import KE.KExcIs
import HandS.Defaults
import HandS.Walk
import HandS.IsInst
import HandS.Codes
import HandS.StrMore
import KE.GoesMore
import HandS.CallLocal
import HandS.More
import PyProof.StrOps2
import PySem.Challenge.RW_millhands_k66_weavings
import HandS.Replace
import KE.KSortTupG
import KE.KDictSum
import HandS.Iter
import HandS.Dict
import HandS.Conv
import HandS.TupLe
import HandS.Star
import HandS.Text
import HandS.ExcValue
import HandS.Property
import HandS.MakeKwOnly
import HandS.TryMany
import HandS.HeadEnd
import HandS.Head0
import HandS.Head1
import HandS.Head2
import HandS.HeadHook1
import HandS.HeadHook2
set_option Elab.async false
set_option linter.all false
set_option maxRecDepth 100000
set_option maxHeartbeats 0
namespace Mq
open PySem PySem.Spec PyProof.Rows L2

/-! ### defs that are entered where no repr is under way -/
def Still (A : Around) : Prop := A.guards = some []

structure FnG (P : Program) (w : World) (K : PySem.W.Frag) (mg : Str → Option Value)
    (base : Heap) (CX : CXT) (k : Nat) (f : Addr) (fd : FuncData) (ps : List Str) (sp : Sp) : Prop where
  many : ∀ vs H Q E, sp vs H Q E → vs.length = ps.length
  go : ∀ (A : Around) (outer : List Env) (s : Shared) (H : Hp) (args : Args)
    (us : List Value) (vs : List V) (Q : VK) (E : XK), Still A → Room k A →
    Env0 P w K mg base A outer s H → BindsTo s fd args (ps.zip us) → Vals vs us → sp vs H Q E →
    codeAny (model P w) A (.call (.ref f) args) (CR CX outer P w H s Q E) s

theorem FnG.of {P : Program} {w : World} {K : PySem.W.Frag} {mg : Str → Option Value}
    {base : Heap} {CX : CXT} {k : Nat} {f : Addr} {fd : FuncData} {ps : List Str} {sp : Sp}
    (F : FnOk P w K mg base CX k f fd ps sp) : FnG P w K mg base CX k f fd ps sp :=
  ⟨F.len, fun A outer s H args us vs Q E _ => F.run A outer s H args us vs Q E⟩

section
variable {P : Program} {w : World} {K : PySem.W.Frag} {mg : Str → Option Value} {base : Heap}

theorem Fun.okG {CX : CXT} {x qual : Str} {st : Stmt} {f : Addr} {fd : FuncData} {N ps : List Str}
    {k : Nat} {sp : Sp} (F : L2.Fun K x qual st f fd) (S : FnScope N ps (defScope st))
    (many : ∀ vs H Q E, sp vs H Q E → vs.length = ps.length)
    (body : ∀ (cdv : Value) (A : Around) (outer : List Env) (s : Shared) (H : Hp) (vs : List V) (Q : VK) (E : XK),
      Still (A.deeper (envOfC qual (defScope st) s.heap.objs.size f cdv)) →
      Room k (A.deeper (envOfC qual (defScope st) s.heap.objs.size f cdv)) → sp vs H Q E →
      ∃ t, PSs (cxOf CX P w K mg base N qual (defScope st) f cdv A outer s H E) (defBody st) t ∧
        t { nx := fun _ H' => Q .non H', rt := Q } (start N vs) H) :
    FnG P w K mg base CX (k + 1) f fd ps sp := by
  obtain ⟨oc, od, kV, doc, pm, an, cdv, ct, osl, rfl, lk, hcd⟩ := F.ex
  refine ⟨many, fun A outer s H args us vs Q E gA hr e0 hb r h => ?_⟩
  have old : ∀ b o, base.get? b = some o → s.heap.get? b = some o := fun b o e => (e0.bs b o e).1
  have KX := e0.mod.kin.keeps old
  have lim := e0.mod.nolimit.keeps old
  have hlen := many _ _ _ _ h
  have kinds : ∀ y ∈ ps.zip us, (defScope st).names.lookup y.1 = some .local ∨
      ((defScope st).names.lookup y.1 = some .cell ∧
        ((cellsFrom (s.heap.objs.size + 1) (defScope st).names []).lookup y.1).isSome = true) := by
    rintro ⟨n, v⟩ hy
    rcases S.par n (List.of_mem_zip hy).1 with q | q
    · exact Or.inl q
    · exact Or.inr ⟨q, PySem.W.cellsFrom_some _ _ _ (Or.inl q)⟩
  refine codeAny_call_function hr.depth (KX _ _ lk) rfl S.co S.gen rfl
    (PySem.W.codeRec_of KX hcd) (hb _ _ _ _ ?_)
  refine wpAny_newFunctionEnv_cells S.kind kinds (fun env he s1 x => ?_)
  subst he
  refine ⟨lim.keeps x.toInCall.keep, codeAny_func ?_⟩
  obtain ⟨t, ht, hq⟩ := body cdv A outer s H vs Q E gA (hr.deeper _) h
  have I := inv_start (CX := CX) (E := E) S hr.hd e0 hlen r x
  refine wpAny_mono (ht.run [] s1 (start N vs) H _ I hq) (fun fl s' hs => ?_) (fun e s' hs => hs)
  cases fl with
  | ret u =>
    obtain ⟨v, σ', H', J, rv, q⟩ := hs
    exact ⟨v, H', J.os, J.bare, J.base, J.hok, rv, q⟩
  | next =>
    obtain ⟨σ', H', J, q⟩ := hs
    exact ⟨V.non, H', J.os, J.bare, J.base, J.hok, rfl, q⟩
  | brk =>
    obtain ⟨_, _, _, q⟩ := hs
    exact q.elim
  | cont =>
    obtain ⟨_, _, _, q⟩ := hs
    exact q.elim
end

section
variable {X : Cx} {CX : CXT} {k : Nat} {f : Addr} {fd : FuncData} {ps : List Str} {sp : Sp}
  {E : XK} {x : Str} {p pos : Pos} {e : Expr} {es : List Expr} {t : TA}

theorem run_G {pins : List (Addr × Obj)} {σ : L2.St} {H : Hp} {s : Shared} {Q : VK} {us : List Value} {vs : List V}
    (F : FnG X.prog X.w X.K X.mg X.base CX k f fd ps sp) (gA : Still X.A) (hr : Room k X.A)
    (hb : Binds X.K fd ps []) (hx : Passes CX X E) (I : Inv X pins σ H s) (r : Vals vs us) (h : sp vs H Q E) :
    wpAny (model X.prog X.w) X.A (call (.ref f) us) (EP X pins σ Q) X.xe s := by
  have hl : us.length = ps.length := by rw [← r.length]; exact F.many _ _ _ _ h
  have b := hb s us I.kIn (by rw [List.append_nil]; exact hl)
  rw [List.append_nil] at b
  refine wpAny_call (codeAny_mono (F.go X.A X.stack s H ⟨us, []⟩ us vs Q E gA hr I.env0 b r h) (fun r s' hq => ?_))
  match r, hq with
  | .error er, hq => exact hx pins σ H s er s' I hq
  | .ok (.ret u), hq => exact I.after hq
  | .ok .next, hq => exact hq.elim
  | .ok .brk, hq => exact hq.elim
  | .ok .cont, hq => exact hq.elim

/-- f(e, ..) where no repr is under way -/
theorem pe_callG (F : FnG X.prog X.w X.K X.mg X.base CX k f fd ps sp) (gA : Still X.A) (hr : Room k X.A)
    (hg : Gl X x) (hm : X.mg x = some (.ref f)) (hk : PySem.W.keepIn X.K (.ref f) = true)
    (hb : Binds X.K fd ps []) (hx : Passes CX X E) (ha : PA X (e :: es) t)
    (hdb : (x == ("__debug__" : Str)) = false := by decide)
    (he : starEach (e :: es) X.env = (false, eval e X.env) :: starEach es X.env := by rfl)
    (hpl : (backTo pos (starEach es X.env)).any (·.1) = false := by rfl) :
    PE X (.Call (.Name x p) (e :: es) [] pos) (tCall sp [] E t) := by
  refine ⟨fun pins s σ H Q I h => wpAny_Call_Name_kw (ld_glob I hg hm ?_ hdb)⟩
  refine PySem.W.callWith_K (h₀ := X.base) I.ok.mod.kin hk (thn (ha.run pos pins s σ H _ I h) ?_) he hpl
  rintro us s1 ⟨vs, H1, I1, r, q⟩
  rw [List.append_nil] at q
  exact ⟨I1.kIn, run_G F gA hr hb hx I1 r q⟩
end

/-! ### the law's own call -/
theorem law_callG {P : Program} {w : World} {K : PySem.W.Frag} {mg mb : Str → Option Value} {CX : CXT} {k : Nat}
    {fa a : Addr} {fd : FuncData} {x : Str} {sp : Sp} {s₁ : Shared} {vs : List Value} {ns : List Int}
    (KX : K.In s₁.heap) (hns : s₁.heap.Ns mainGlobals mg) (hb : s₁.heap.Ns builtinsNs mb)
    (hbb : ∀ x : Str, x ≠ "__name__" → mb x = bootBuiltins x) (hlim : s₁.heap.NoLimit) (hg : s₁.gens = #[])
    (ha : s₁.heap.get? a = some { cls := .type "list", data := .seq vs.toArray }) (hi : IntsAre vs ns)
    (hl : ns.length ≤ sizeLine) (hr : Room k callerA)
    (F : ∀ base : Heap, K.In base → base.Ns mainGlobals mg → FnG P w K mg base CX k fa fd [x] sp)
    (hbind : ∀ (s : Shared) (u : Value), BindsTo s fd ⟨[u], []⟩ [(x, u)])
    (hsp : ∀ H : Hp, Only H → SqL K H a (ns.map V.int) → sp [.ref a] H (fun v _ => v = .bl true) fun _ _ _ => False)
    (hCX : ∀ H e s', CX [] H s₁ (fun _ _ _ => False) e s' → False) :
    codeAny (model P w) callerA (.call (.ref fa) ⟨[.ref a], []⟩)
      (fun r s' => r = .ok (.ret (.bool true)) ∧ OldK s₁.heap s'.heap ∧ s'.os = s₁.os ∧ AllBare s'.gens) s₁ := by
  have rv := vals_ints hi
  have core : ∀ H : Hp, Only H → SqL K H a (ns.map V.int) → HOk P w H s₁.heap →
      (∀ b, H b ≠ none → b = a) → (H a ≠ none → K.lookup a = none) →
      codeAny (model P w) callerA (.call (.ref fa) ⟨[.ref a], []⟩)
        (fun r s' => r = .ok (.ret (.bool true)) ∧ OldK s₁.heap s'.heap ∧ s'.os = s₁.os ∧ AllBare s'.gens) s₁ := by
    intro H hO hS hok hA hK
    have only : ∀ {b : Addr} {u : HO}, H b = some u → b = a := fun {b u} q => hA b (by rw [q]; exact fun z => by cases z)
    have noD : ∀ {b : Addr} {o : Obj} {es : Array DictEntry} {ep : Nat}, s₁.heap.get? b = some o →
        o.data = .dict es ep → H b = none := by
      intro b o es ep e d
      cases q : H b with
      | none => rfl
      | some u =>
        have e' := only q
        subst e'
        rw [ha] at e
        cases e
        cases d
    have nsK : ∀ {b : Addr} {m : Str → Option Value}, s₁.heap.Ns b m → (hidT s₁.heap H).Ns b m := by
      rintro b m ⟨o, es, ep, e, d, r⟩
      exact ⟨o, es, ep, hidT_get e (noD e d), d, r⟩
    have hKb : K.In (hidT s₁.heap H) := by
      intro b o e
      refine hidT_get (KX b o e) ?_
      cases q : H b with
      | none => rfl
      | some u =>
        have e' := only q
        subst e'
        rw [hK (by rw [q]; exact fun z => by cases z)] at e
        cases e
    obtain ⟨mc, l1, l2⟩ := hlim
    have hM : Mod K mg (hidT s₁.heap H) := ⟨hKb, nsK hns, ⟨mb, nsK hb, hbb⟩, ⟨mc, nsK l1, l2⟩⟩
    have nil : ∀ {b : Addr}, b ∉ ([] : List Addr) := fun h => by cases h
    have e0 : Env0 P w K mg (hidT s₁.heap H) callerA [] s₁ H :=
      ⟨rfl, hM, fun b o e => of_hidT e, Nat.le_of_eq (hidT_size _ _), trivial, fun b hb => (nil hb).elim, hok, .of_eq hg⟩
    refine codeAny_mono ((F _ hKb (nsK hns)).go callerA [] s₁ H ⟨[.ref a], []⟩ [.ref a] [.ref a] _ _ rfl hr e0
      (hbind s₁ (.ref a)) (.cons rfl .nil) (hsp H hO hS)) (fun r s' h => ?_)
    match r, h with
    | .error e, h => exact (hCX H e s' h).elim
    | .ok .next, h => exact h.elim
    | .ok .brk, h => exact h.elim
    | .ok .cont, h => exact h.elim
    | .ok (.ret u), h =>
      obtain ⟨v, H', os, bare, un, hok', r', q⟩ := h
      have q' : v = .bl true := q
      subst q'
      cases (show u = Value.bool true from r')
      refine ⟨rfl, OldK.of_keep (fun b o e => ?_), os, bare⟩
      rcases hO b with z | ⟨ob, xs, z⟩
      · exact un.keep b o e z nil nil
      · obtain ⟨e1, _⟩ := hok b _ z
        obtain ⟨e2, _⟩ := hok' b _ (un.frzs b ob _ z)
        rw [e] at e1
        cases e1
        exact e2
  cases hk : K.lookup a with
  | some o =>
    have e := KX a o hk
    rw [ha] at e
    cases e
    refine core (fun _ => none) (fun _ => Or.inl rfl) (Or.inr ⟨_, vs.toArray, _, hk, rfl, rfl, rfl, ?_, by simpa using rv⟩)
      (fun b u z => by cases (show (none : Option HO) = some u from z)) (fun b z => (z rfl).elim) (fun z => (z rfl).elim)
    rw [List.size_toArray, hi.length]
    exact hl
  | none =>
    let o0 : Obj := { cls := .type "list", data := .seq vs.toArray }
    refine core (fun b => if b = a then some (.frz o0 (.lst (ns.map V.int))) else none) (fun b => ?_)
      (Or.inl (Or.inr ⟨o0, if_pos rfl⟩)) (fun b u z => ?_) (fun b z => ?_) (fun _ => hk)
    · by_cases hb : b = a
      · exact Or.inr ⟨_, _, if_pos hb⟩
      · exact Or.inl (if_neg hb)
    · by_cases hb : b = a
      · cases (if_pos hb).symm.trans z
        subst hb
        exact ⟨ha, by rw [List.length_map]; exact hl, vs, _, rv, ha⟩
      · cases (if_neg hb).symm.trans z
    · by_cases hb : b = a
      · exact hb
      · exact (z (if_neg hb)).elim

theorem walk_ofG {l : PySem.W.OpenLaw} {n k : Nat} {q : Program} {loose : List Str}
    {XP : (Str → Option Value) → Heap → Prop} {YP : World → Heap → Prop} {d : DefRec}
    {K : Params → PySem.W.Frag} {CX : World → CXT} {sp : World → Sp} {x : Str}
    (hn : l.most = some n) (hn2 : n ≤ sizeLine) (hdf : d.params.defaults = []) (hr : Room k callerA)
    (hY : ∀ (w : World) (h : Heap), YP w h → (K w.params).In h)
    (F : ∀ (w : World) (mg : Str → Option Value) (fa : Addr) (h : Heap), (K w.params).In h →
      h.Ns mainGlobals mg → mg d.name = some (.ref fa) →
      ∃ fd : FuncData, (∀ (s : Shared) (u : Value), BindsTo s fd ⟨[u], []⟩ [(x, u)]) ∧
        ∀ base : Heap, (K w.params).In base → base.Ns mainGlobals mg →
          FnG l.prog w (K w.params) mg base (CX w) k fa fd [x] (sp w))
    (hsp : ∀ (w : World) (H : Hp) (a : Addr) (ns : List Int), ns.length ≤ n → Only H →
      SqL (K w.params) H a (ns.map V.int) → sp w [.ref a] H (fun v _ => v = .bl true) fun _ _ _ => False)
    (hCX : ∀ (w : World) (H : Hp) (s : Shared) (e : Value) (s' : Shared), CX w [] H s (fun _ _ _ => False) e s' → False) :
    PySem.W.WalkO q loose XP YP l.row.toRowW d [] (fun f vs => PySem.call f vs) := by
  refine Att.attach_call hn hdf ?_
  intro w s₀ s₁ mg mb fa o pm cd doc a vs ns G Y ho hd hcd hmg hobj hints hlen hg
  obtain ⟨fd, hb, hF⟩ := F w mg fa _ (hY w _ Y) G.T.g hmg
  exact law_callG (hY w _ Y) G.T.g G.T.b G.T.builtins G.T.nolimit hg hobj hints (Nat.le_trans hlen hn2) hr hF hb
    (fun H hO hS => hsp w H a ns hlen hO hS) (fun H e s' => hCX w H s₁ e s')
end Mq

namespace Mq
open PySem PySem.Spec PyProof.Rows L2

/-! ### repr of data, dicts among them -/
def keyD : Key → PyData
  | .inl i => .int i
  | .inr x => .str x
mutual
inductive Dg (K : PySem.W.Frag) (H : Hp) : V → PyData → Prop
  | non : Dg K H .non .none
  | bl (b : Bool) : Dg K H (.bl b) (.bool b)
  | int (i : Int) : Dg K H (.int i) (.int i)
  | str (x : Str) : Dg K H (.str x) (.str x)
  | lst {a : Addr} {xs : List V} {ds : List PyData} : a ≠ sysModules → SqL K H a xs → DgAll K H xs ds → Dg K H (.ref a) (.list ds)
  | tup {a : Addr} {xs : List V} {ds : List PyData} : SqT K H a xs → DgAll K H xs ds → Dg K H (.ref a) (.tuple ds)
  | dct {a : Addr} {kvs : List (Key × V)} {ds : List (PyData × PyData)} : H a = some (.dK kvs) → DgKv K H kvs ds → Dg K H (.ref a) (.dict ds)
inductive DgAll (K : PySem.W.Frag) (H : Hp) : List V → List PyData → Prop
  | nil : DgAll K H [] []
  | cons {v : V} {vs : List V} {d : PyData} {ds : List PyData} : Dg K H v d → DgAll K H vs ds → DgAll K H (v :: vs) (d :: ds)
inductive DgKv (K : PySem.W.Frag) (H : Hp) : List (Key × V) → List (PyData × PyData) → Prop
  | nil : DgKv K H [] []
  | cons {k : Key} {v : V} {vs : List (Key × V)} {d : PyData} {ds : List (PyData × PyData)} : Dg K H v d → DgKv K H vs ds → DgKv K H ((k, v) :: vs) ((keyD k, d) :: ds)
end
section
variable {X : Cx} {pins : List (Addr × Obj)} {σ : L2.St} {H : Hp} {s : Shared}
theorem reads_key {h : Heap} {k : Key} {u : Value} (e : keyIs k u = true) : Reads h u (keyD k) [] := by
  rcases keyIs_shape e with ⟨i, t, rfl, rfl⟩ | ⟨x, t, rfl, rfl⟩
  · exact Reads.int i t
  · exact Reads.str x t
mutual
theorem Dg.rd (I : Inv X pins σ H s) : ∀ {d : PyData} {v : V} {u : Value}, Dg X.K H v d → RelV v u →
    ∃ as, Reads s.heap u d as ∧ sysModules ∉ as
  | _, _, _, .non, r => by cases r; exact ⟨[], .none, fun h => by cases h⟩
  | _, _, _, .bl b, r => by cases r; exact ⟨[], .bool b, fun h => by cases h⟩
  | _, _, _, .int i, r => by obtain ⟨t, rfl⟩ := r; exact ⟨[], .int i t, fun h => by cases h⟩
  | _, _, _, .str x, r => by obtain ⟨t, rfl⟩ := r; exact ⟨[], .str x t, fun h => by cases h⟩
  | _, _, _, .lst ne hs ha, r => by
    cases r
    obtain ⟨its, rv, ⟨o, n, ho, hc, _, hd⟩, _⟩ := I.list hs
    obtain ⟨as, hr, hn⟩ := DgAll.rd I ha rv
    refine ⟨_, Reads.list ho hc hd hr, fun hm => ?_⟩
    rcases List.mem_cons.mp hm with e | e
    · exact ne e.symm
    · exact hn e
  | _, _, _, .tup hs ha, r => by
    cases r
    obtain ⟨its, rv, ⟨o, ho, hc, n, hd⟩, _⟩ := I.tuple hs
    obtain ⟨as, hr, hn⟩ := DgAll.rd I ha rv
    exact ⟨_, Reads.tuple ho hc hd hr, hn⟩
  | _, _, _, .dct (a := a) hs ha, r => by
    cases r
    obtain ⟨_, ns, us, rk, o, es, ep, ho, hx, hd, _, hp, _⟩ := I.hok a _ hs
    obtain ⟨as, bs, r1, r2, n1, n2⟩ := DgKv.rd I ha rk hp
    refine ⟨_, Reads.dict ho hx.1 hd r1 r2, fun hm => ?_⟩
    rcases List.mem_append.mp hm with hm | hm
    · rcases List.mem_cons.mp hm with e | e
      · rw [← e] at ns
        simp at ns
      · exact n1 e
    · exact n2 hm
theorem DgAll.rd (I : Inv X pins σ H s) : ∀ {ds : List PyData} {vs : List V} {us : List Value}, DgAll X.K H vs ds → Vals vs us →
    ∃ as, ReadsAll s.heap us ds as ∧ sysModules ∉ as
  | _, _, _, .nil, r => by cases r; exact ⟨[], .nil, fun h => by cases h⟩
  | _, _, _, .cons h1 h2, r => by
    cases r with
    | cons r1 r2 =>
      obtain ⟨as, q1, n1⟩ := Dg.rd I h1 r1
      obtain ⟨bs, q2, n2⟩ := DgAll.rd I h2 r2
      exact ⟨_, ReadsAll.cons q1 q2, fun hm => (List.mem_append.mp hm).elim n1 n2⟩
theorem DgKv.rd (I : Inv X pins σ H s) : ∀ {ds : List (PyData × PyData)} {vs : List (Key × V)} {us : List (Key × Value)} {es : List DictEntry}, DgKv X.K H vs ds → KV vs us →
    Pairs (mixKind X.prog X.w) es us →
    ∃ as bs, ReadsAll s.heap (es.map (·.key)) (ds.map (·.1)) as ∧ ReadsAll s.heap (es.map (·.val)) (ds.map (·.2)) bs ∧ sysModules ∉ as ∧ sysModules ∉ bs
  | _, _, _, _, .nil, r, p => by
    cases r
    cases p
    exact ⟨[], [], ReadsAll.nil, ReadsAll.nil, (fun h => by cases h), (fun h => by cases h)⟩
  | _, _, _, _, .cons h1 h2, r, p => by
    cases r with
    | cons r1 r2 =>
      cases p with
      | cons p3 p4 p2 =>
        obtain ⟨e1, e2⟩ := r1
        obtain ⟨as, q1, n1⟩ := Dg.rd I h1 e2
        obtain ⟨bs, cs, q2, q3, n2, n3⟩ := DgKv.rd I h2 r2 p2
        rw [← p4] at q1
        have p3' := p3
        rw [← e1] at p3'
        exact ⟨_, _, ReadsAll.cons (reads_key p3') q2, ReadsAll.cons q1 q3, fun hm => (List.mem_append.mp hm).elim (fun z => by cases z) n2,
          fun hm => (List.mem_append.mp hm).elim n1 n3⟩
end
/-- repr(v), v data -/
def rRep (K : PySem.W.Frag) : List V → Hp → VK → Prop := fun xs H Q => ∃ v d, xs = [v] ∧ Dg K H v d ∧ d.showable = true ∧
  d.depth ≤ 40 ∧ d.shown.length ≤ sizeLine ∧ Q (.str d.shown) H
theorem call_rep {k : Nat} (hr : Room k X.A) (gA : Still X.A) : CallR X (.builtin "repr") (rRep X.K) := by
  intro pins s σ H xs us Q I r h
  obtain ⟨v, d, rfl, hd, hs, hz, hl, q⟩ := h
  cases r with
  | cons rx rr =>
    cases rr
    have hu := hr.units
    obtain ⟨as, rd, hn⟩ := Dg.rd I hd rx
    have leaf : ∀ {d : PyData} {t : Tok}, Q (.str d.shown) H → EP X pins σ Q (.str d.shown t) { s with toks := s.toks + 1 } :=
      fun {d t} q => ⟨.str d.shown, H, I.tok _, ⟨_, rfl⟩, q⟩
    cases hd with
    | non =>
      cases rx
      exact PySem.P.repr_of_none (leaf (d := .none) q)
    | bl b =>
      cases rx
      exact PySem.P.repr_of_bool (leaf (d := .bool b) q)
    | int i =>
      obtain ⟨t, rfl⟩ := rx
      exact PySem.P.repr_of_int (by simpa [PyData.showable] using hs) (leaf (d := .int i) q)
    | str x =>
      obtain ⟨t, rfl⟩ := rx
      refine PySem.P.repr_of_str (leaf (d := .str x) q) ?_
      simpa only [PyData.shown] using hl
    | lst ne h1 h2 =>
      cases rx
      exact repr_of_reads' rd hs (fun _ => hn) gA (by omega) (fun _ _ e => e) (fun h' u tk k => ⟨.str _, H, I.kept k, ⟨_, rfl⟩, q⟩) hl
    | tup h1 h2 =>
      cases rx
      exact repr_of_reads' rd hs (fun _ => hn) gA (by omega) (fun _ _ e => e) (fun h' u tk k => ⟨.str _, H, I.kept k, ⟨_, rfl⟩, q⟩) hl
    | dct h1 h2 =>
      cases rx
      exact repr_of_reads' rd hs (fun _ => hn) gA (by omega) (fun _ _ e => e) (fun h' u tk k => ⟨.str _, H, I.kept k, ⟨_, rfl⟩, q⟩) hl
/-- no new object stands where the modules stand -/
theorem Inv.low (I : Inv X pins σ H s) : sysModules < s.heap.objs.size := by
  have h1 := I.mod.glob.lt
  have h2 := I.ok.bsz
  have h3 := I.sz
  have h4 : sysModules < mainGlobals := by decide
  exact Nat.lt_of_lt_of_le (Nat.lt_trans h4 h1) (Nat.le_trans h2 h3)
/-- a list display, told to stand elsewhere than the modules -/
def tLs (t : TA) : TE := fun σ H Q => t σ H fun xs H1 => xs.length ≤ sizeLine ∧ ∀ p, H1 p = none → p ≠ sysModules → Q (.ref p) (upd H1 p (.lst xs))
theorem pe_ls {es : List Expr} {t : TA} {pos : Pos} (h : PA X es t) : PE X (.List es pos) (tLs t) := by
  refine ⟨fun pins s σ H Q I hq => wpAny_List_spliced (thn (h.run pos pins s σ H _ I hq) ?_)⟩
  rintro us s1 ⟨xs, H1, I1, r, z, q⟩
  have hz : us.length ≤ sizeLine := by rw [← r.length]; exact z
  have nw : H1 s1.heap.objs.size = none := I1.hok.fresh (Nat.le_refl _)
  refine ⟨hz, .ref s1.heap.objs.size, upd H1 s1.heap.objs.size (.lst xs), ?_, rfl, q _ nw (Nat.ne_of_gt (Inv.low I1))⟩
  exact I1.laid (t' := s1.toks) (fun b u e => Heap.get?_push_of_some _ e) (Nat.le_refl _) ⟨z, us, 0, r, Heap.get?_push_size _ rfl⟩
end
end Mq

namespace Mq
open PySem PySem.Spec PyProof.Rows L2
open PySem.W (Frag)
open PySem.Builtin.ObjectAttr
/-! ### own errors over Exception, with one field -/
abbrev exTail : List Value := [.type "Exception", .type "BaseException", .type "object"]
section
variable {prog : Program} {w : World} {A : Around} {E : Value → Shared → Prop} {R : Result → Shared → Prop}
  {hp : Heap} {g : Array GenState} {d : Drawn} {t : Nat} {os : OsState} {K : Frag}
theorem osa_first {name : Str} {tk : Tok} {v : Value} {x C t1 : Addr} (X : K.In hp)
    (hx : hp.get? x = some (PySem.W.excObj C t1 none .none)) (ho : PySem.W.excOver K C exTail = true)
    (hh : PySem.W.hasDictIn K C = true) (ht : PySem.W.takerIn K C name = some none)
    (hq : ∀ h' tk' dx, (∀ b o, b ≠ x → hp.get? b = some o → h'.get? b = some o) → hp.objs.size ≤ dx → dx ≠ x →
      h'.get? x = some (PySem.W.excObj C t1 (some dx) .none) → h'.Ns1 dx (fun y => if y = name then some v else none) →
      R (.ok (.ret .none)) ⟨h', g, d, tk', os⟩) :
    codeAny (model prog w) A (.call (.builtin "object.__setattr__") ⟨[.ref x, .str name tk, v], []⟩) R ⟨hp, g, d, t, os⟩ := by
  refine PySem.W.osa_openX (od := none) (s := ⟨hp, g, d, t, os⟩) F.store_Exception X ⟨hx, rfl, rfl, trivial⟩ ho ht (fun b => ?_)
  obtain ⟨cd, hc, hd'⟩ := PySem.W.any_some hh
  refine wpAny_bind (wpAny_pure (wpAny_bind (PySem.W.instanceDict_exc hx (PySem.W.looks_clsIn X hc) hd' ?_)))
  show wpAny _ _ (storeInDict hp.objs.size (.str name tk) name v) _ _ _
  have hxs : x ≠ hp.objs.size := Nat.ne_of_lt (Heap.lt_size hx)
  have hx1 : (hp.push (PySem.W.dictOf [] 0)).get? x = some (PySem.W.excObj C t1 none .none) := Heap.get?_push_of_some _ hx
  refine PySem.HandSPX.store_in_new ?_ ?_
  · exact ⟨_, #[], _, (Heap.get?_update_ne _ _ _ _ hxs.symm).trans (Heap.get?_push_at rfl rfl), rfl, (fun e he => absurd he (by simp)), fun _ => rfl⟩
  · intro h' tk' hn' hs
    refine hq h' tk' hp.objs.size (fun b o hb ho => ?_) (Nat.le_refl _) hxs.symm ?_ hn'
    · exact (hs.2 b (Nat.ne_of_lt (Heap.lt_size ho))).trans ((Heap.get?_update_ne _ _ _ _ hb).trans (Heap.get?_push_of_some _ ho))
    · exact (hs.2 x hxs).trans (Heap.get?_update_self _ hx1 rfl)
end
end Mq

namespace Mq
open PySem PySem.Spec PyProof.Rows L2
/-! ### the error that a suite holds: its class, its field -/
/-- what the class at D says, so that isinstance asks its errors rightly -/
structure HeldC (K : PySem.W.Frag) (D : Addr) : Prop where
  cl : (PySem.W.clsIn K D).isSome = true
  ga : PySem.W.findIn K (.ref D) "__getattribute__" = some (some (.builtin "BaseException.__getattribute__"))
  gg : PySem.W.findIn K (.ref D) "__getattr__" = some none
  sb : PySem.W.subIn K (.ref D) (.type "BaseException") = some true
  ca : PySem.W.findIn K (.ref D) "__class__" = some (some (.builtin "object.__class__"))
  sp : PySem.W.specialIn K (.builtin "object.__class__") "__get__" = some (some (.builtin "getset_descriptor.__get__"))
  tk : PySem.W.takesIn K (.builtin "object.__class__") = some true
  mo : PySem.W.mroIn K D (.type "object") = some true
/-- isinstance(e, c), e the error at a -/
def rHeld (K : PySem.W.Frag) (D a : Addr) (d : Option Addr) : List V → Hp → VK → Prop := fun xs H Q => ∃ (dd c : Addr) (fs : List (Str × V)) (b : Bool),
  xs = [.ref a, .ref c] ∧ d = some dd ∧ H dd = some (.xd fs) ∧ PySem.W.kitOne K (.ref D) (.ref c) = some b ∧ Q (.bl b) H
theorem call_held {X : Cx} {a D : Addr} {oe : Obj} {d : Option Addr} {pn : List (Addr × Obj)} (C : HeldC X.K D) (hz : Zc (.ref D) d oe)
    (hf : ∃ vs, oe.data = .fields vs) : CallR (X.suite a ((a, oe) :: pn)) (.builtin "isinstance") (rHeld X.K D a d) := by
  intro pins s σ H xs us Q I r h
  obtain ⟨dd, c, fs, b, rfl, rfl, hd, e, q⟩ := h
  cases r with
  | cons rx rr =>
    cases rr with
    | cons rt rr =>
      cases rr
      cases rx
      cases rt
      obtain ⟨hget, _⟩ := I.pin (a, oe) (List.mem_append.mpr (Or.inl List.mem_cons_self))
      obtain ⟨vs, hv⟩ := hf
      obtain ⟨mA, ⟨od, es, ep, ho, _⟩, _⟩ := (show ObjOk X.prog X.w H s.heap dd (.xd fs) from I.hok dd _ hd)
      have J : PySem.W.InstAt s.heap a oe D (some od) := by
        refine ⟨hget, hz.1, ?_, ?_⟩
        · unfold PySem.W.notCls
          rw [hv]
        · rw [hz.2]
          exact ho
      refine PySem.W.kia_one (PySem.W.kitx_exc C.cl C.ga C.gg C.sb C.ca C.sp C.tk C.mo) I.kIn J e (fun z => by cases z) (fun tk => ?_)
      exact ⟨.bl b, H, I.kept (t' := tk) (fun _ _ z => z), rfl, q⟩
/-! ### methods that raise, called within a try -/
section
variable {X : Cx} {CX : CXT} {k : Nat} {f C : Addr} {fd : FuncData} {ps : List Str} {sp : Sp}
  {E : L2.St → XK} {m : Str} {pos apos : Pos} {e o : Expr} {es : List Expr} {kws : List Keyword} {ta : TE} {t tk : TA}
def tMethT (C : Addr) (m : Str) (sp : Sp) (E : L2.St → XK) (ta : TE) (t : TA) : TE := fun σ H Q => ta σ H fun x H1 => ∃ a dx fs,
  x = .ref a ∧ H1 a = some (.ins C dx fs) ∧ fs.lookup m = none ∧ t σ H1 fun vs H2 => sp (x :: vs) H2 Q (E σ)
theorem pe_methT {pl : Sem Bool} (he : PE X o ta) (c : Cls X.K C) (hm : Meth X.K C m f)
    (F : FnOk X.prog X.w X.K X.mg X.base CX k f fd ps sp) (hr : Room k X.A) (hb : Binds X.K fd ps [])
    (hx : ∀ σ, PassesAt CX X σ (E σ)) (ha : PA X (e :: es) t)
    (hst : starEach (e :: es) X.env = (false, eval e X.env) :: starEach es X.env := by rfl)
    (hpl : (backTo pos (starEach es X.env)).any (·.1) = false := by rfl)
    (ht : eval (.Call (.Attribute o m apos) (e :: es) [] pos) X.env = (do
      let ov ← eval o X.env
      standAt apos.atName
      let (f, first) ← holding [ov] (getMethod ov m pl)
      callWith pos f first (backTo pos (starEach (e :: es) X.env)) (backToKw pos (keywordEach [] X.env))) := by rfl) :
    PE X (.Call (.Attribute o m apos) (e :: es) [] pos) (tMethT C m sp E ta t) := by
  refine ⟨fun pins s σ H Q I h => PySem.W.methodCall_KW (pl := pl) (thn (he.run pins s σ H _ I h) ?_) ht⟩
  rintro u s1 ⟨x, H1, I1, rx, a, dx, fs, rfl, ea, l, q⟩
  cases rx
  refine getmeth_ok I1 ea c hm l ?_
  refine PySem.W.callWith_K (first := [.ref a]) (h₀ := X.base) I.ok.mod.kin hm.kp (thn (ha.run pos pins s1 σ H1 _ I1 q) ?_) hst hpl
  rintro us s2 ⟨vs, H2, I2, r, q2⟩
  exact ⟨I2.kIn, run_fnS (us := .ref a :: us) (vs := .ref a :: vs) F hr hb (hx σ) I2 (.cons rfl r) q2⟩
end
end Mq
namespace Mq
open PySem PySem.Spec PyProof.Rows L2
section
variable {X : Cx} {CX : CXT} {k : Nat} {f C : Addr} {fd : FuncData} {ps ks : List Str} {sp : Sp}
  {E : L2.St → XK} {m : Str} {pos apos : Pos} {o : Expr} {kws : List Keyword} {ta : TE} {tk : TA}
  {g : List Value → List Value → List Value} {gV : List V → List V → List V}
def tMethK (C : Addr) (m : Str) (many : Nat) (sp : Sp) (gV : List V → List V → List V) (E : L2.St → XK) (ta : TE) (tk : TA) : TE := fun σ H Q => ta σ H fun x H1 => ∃ a dx fs,
  x = .ref a ∧ H1 a = some (.ins C dx fs) ∧ fs.lookup m = none ∧ tk σ H1 fun zs H2 => zs.length = many ∧ sp (gV [x] zs) H2 Q (E σ)
/-- o.m(k = v, ..), what is raised being wished for at the slots as they stand -/
theorem pe_methK {pl : Sem Bool} (he : PE X o ta) (c : Cls X.K C) (hm : Meth X.K C m f)
    (F : FnOk X.prog X.w X.K X.mg X.base CX k f fd ps sp) (hr : Room k X.A) (hb : KBn X.K fd ps 1 ks g gV)
    (hx : ∀ σ, PassesAt CX X σ (E σ)) (hkw : PK X kws tk)
    (hall : (backToKw pos (keywordEach kws X.env)).all (·.1.isSome) = true := by rfl)
    (hks : (backToKw pos (keywordEach kws X.env)).filterMap (·.1) = ks := by rfl)
    (hpl : ((backTo pos (starEach [] X.env)).any (·.1) || (backToKw pos (keywordEach kws X.env)).any (·.1.isNone)) = false := by rfl)
    (ht : eval (.Call (.Attribute o m apos) [] kws pos) X.env = (do
      let ov ← eval o X.env
      standAt apos.atName
      let (f, first) ← holding [ov] (getMethod ov m pl)
      callWith pos f first (backTo pos (starEach [] X.env)) (backToKw pos (keywordEach kws X.env))) := by rfl) :
    PE X (.Call (.Attribute o m apos) [] kws pos) (tMethK C m ks.length sp gV E ta tk) := by
  refine ⟨fun pins s σ H Q I h => PySem.W.methodCall_KW (pl := pl) (thn (he.run pins s σ H _ I h) ?_) ht⟩
  rintro u s1 ⟨x, H1, I1, rx, a, dx, fs, rfl, ea, l, q⟩
  cases rx
  refine getmeth_ok I1 ea c hm l ?_
  refine PySem.W.callWith_KW0 (first := [.ref a]) (h₀ := X.base) I.ok.mod.kin hm.kp hall (thn (hkw.run pos pins s1 σ H1 _ I1 q) ?_) hpl
  rintro ws s2 ⟨zs, H2, I2, rz, hl, q2⟩
  refine ⟨I2.kIn, ?_⟩
  rw [hks]
  have r1 : Vals [V.ref a] [Value.ref a] := .cons rfl .nil
  have r2 := hb.rel r1 rz
  have lw : ws.length = ks.length := rz.length.symm.trans hl
  show wpAny _ _ (call (.ref f) [.ref a] (ks.zip ws)) _ _ _
  refine wpAny_call (codeAny_mono (F.run X.A X.stack s2 H2 ⟨[.ref a], ks.zip ws⟩ (g [.ref a] ws) (gV [.ref a] zs) Q (E σ) hr I2.env0
    (hb.to s2 [.ref a] ws I2.kIn rfl lw) r2 q2) (fun r s' hq => ?_))
  match r, hq with
  | .error er, hq => exact hx σ pins H2 s2 er s' I2 hq
  | .ok (.ret u), hq => exact I2.after hq
  | .ok .next, hq => exact hq.elim
  | .ok .brk, hq => exact hq.elim
  | .ok .cont, hq => exact hq.elim
end
end Mq

namespace Mq
open PySem PySem.Spec PyProof.Rows L2
open SX (S)
/-! ### what the module leaves of the built-in names -/
structure Blt (mg : Str → Option Value) : Prop where
  len : mg "len" = none
  range : mg "range" = none
  isi : mg "isinstance" = none
  all : mg "all" = none
  any : mg "any" = none
  int : mg "int" = none
  str : mg "str" = none
  bool : mg "bool" = none
  tuple : mg "tuple" = none
  list : mg "list" = none
  repr : mg "repr" = none
  enumerate : mg "enumerate" = none
/-! ### heaps that keep what was told -/
theorem same_new {H : Hp} {p : Addr} {o : HO} (h : H p = none) : Same H (upd H p o) := fun b u e => by
  rw [upd_ne (ne_of_none e h)]
  exact e
theorem Same.tup {K : PySem.W.Frag} {H H' : Hp} {a : Addr} {xs : List V} (e : Same H H') (h : SqT K H a xs) : SqT K H' a xs := by
  rcases h with (h | ⟨o, h⟩) | h
  · exact Or.inl (Or.inl (e _ _ h))
  · exact Or.inl (Or.inr ⟨o, e _ _ h⟩)
  · exact Or.inr h
mutual
theorem Dg.same {K : PySem.W.Frag} {H H' : Hp} (e : Same H H') : ∀ {v : V} {d : PyData}, Dg K H v d → Dg K H' v d
  | _, _, .non => .non
  | _, _, .bl b => .bl b
  | _, _, .int i => .int i
  | _, _, .str x => .str x
  | _, _, .lst n h a => .lst n (e.seq h) (DgAll.same e a)
  | _, _, .tup h a => .tup (Same.tup e h) (DgAll.same e a)
  | _, _, .dct h a => .dct (e _ _ h) (DgKv.same e a)
theorem DgAll.same {K : PySem.W.Frag} {H H' : Hp} (e : Same H H') : ∀ {v : List V} {d : List PyData}, DgAll K H v d → DgAll K H' v d
  | _, _, .nil => .nil
  | _, _, .cons a b => .cons (Dg.same e a) (DgAll.same e b)
theorem DgKv.same {K : PySem.W.Frag} {H H' : Hp} (e : Same H H') : ∀ {v : List (Key × V)} {d : List (PyData × PyData)}, DgKv K H v d → DgKv K H' v d
  | _, _, .nil => .nil
  | _, _, .cons a b => .cons (Dg.same e a) (DgKv.same e b)
end
mutual
theorem Dp.same {K : PySem.W.Frag} {H H' : Hp} (e : Same H H') : ∀ {v : V} {d : PyData}, Dp K H v d → Dp K H' v d
  | _, _, .non => .non
  | _, _, .bl b => .bl b
  | _, _, .int i => .int i
  | _, _, .str x => .str x
  | _, _, .lst h a => .lst (e.seq h) (DpAll.same e a)
  | _, _, .tup h a => .tup (Same.tup e h) (DpAll.same e a)
theorem DpAll.same {K : PySem.W.Frag} {H H' : Hp} (e : Same H H') : ∀ {v : List V} {d : List PyData}, DpAll K H v d → DpAll K H' v d
  | _, _, .nil => .nil
  | _, _, .cons a b => .cons (Dp.same e a) (DpAll.same e b)
end
/-! ### the kind of a value -/
def kindOf : PyData → String
  | .none => "NoneType"
  | .bool _ => "bool"
  | .int _ => "int"
  | .str _ => "str"
  | .list _ => "list"
  | .tuple _ => "tuple"
  | .dict _ => "dict"
theorem ty_list {K : PySem.W.Frag} {H : Hp} {a : Addr} {xs : List V} (h : SqL K H a xs) : TyX K H (.ref a) (.type "list") := by
  rcases h with (h | ⟨o, h⟩) | ⟨o, its, n, h, hc, _⟩
  · exact .base (.lst h)
  · exact .base (.frz h)
  · exact .kList h hc
theorem ty_tup {K : PySem.W.Frag} {H : Hp} {a : Addr} {xs : List V} (h : SqT K H a xs) : TyX K H (.ref a) (.type "tuple") := by
  rcases h with (h | ⟨o, h⟩) | ⟨o, its, n, h, hc, _⟩
  · exact .base (.tup h)
  · exact .fTuple h
  · exact .kTuple h hc
theorem Dg.ty {K : PySem.W.Frag} {H : Hp} {v : V} {d : PyData} (h : Dg K H v d) : TyX K H v (.type (kindOf d)) := by
  cases h with
  | non => exact .base .non
  | bl b => exact .base (.bl b)
  | int i => exact .base (.int i)
  | str x => exact .base (.str x)
  | lst _ h _ => exact ty_list h
  | tup h _ => exact ty_tup h
  | dct h _ => exact .base (.dK h)
theorem Dp.ty {K : PySem.W.Frag} {H : Hp} {v : V} {d : PyData} (h : Dp K H v d) : TyX K H v (.type (kindOf d)) := by
  cases h with
  | non => exact .base .non
  | bl b => exact .base (.bl b)
  | int i => exact .base (.int i)
  | str x => exact .base (.str x)
  | lst h _ => exact ty_list h
  | tup h _ => exact ty_tup h
/-- isinstance(x, T), T a built-in class -/
theorem isi_ty {K : PySem.W.Frag} {x : V} {a b : String} {r : Bool} {H : Hp} {Q : VK} (h : TyX K H x (.type a)) (e : kitB a b = some r) (q : Q (.bl r) H) :
    rIsi K [x, .ty b] H Q := ⟨x, .ty b, _, _, r, rfl, .ty b, h, kit_ty e, q⟩
theorem kit_known (a b : String) (ha : a ∈ ["NoneType", "bool", "int", "str", "list", "tuple", "dict"]) (hb : b ∈ ["str", "tuple", "list", "bool", "dict"]) :
    kitB a b = some (decide (a = b)) := by
  have h : (["NoneType", "bool", "int", "str", "list", "tuple", "dict"].all fun a => ["str", "tuple", "list", "bool", "dict"].all fun b =>
      decide (kitB a b = some (decide (a = b)))) = true := by decide +kernel
  have h1 := List.all_eq_true.mp h a ha
  have h2 := List.all_eq_true.mp h1 b hb
  exact of_decide_eq_true h2
theorem kind_in (d : PyData) : kindOf d ∈ ["NoneType", "bool", "int", "str", "list", "tuple", "dict"] := by
  cases d <;> simp [kindOf]
/-! ### comprehensions whose turns change nothing -/
theorem walk_rng {n : Nat} : Walk (Itr 0 n) n (fun _ => True) (YFn fun i => .int (i : Nat)) :=
  walk_range.mono (fun _ h => h) (fun i H x H' _ _ y => ⟨y.1, by rw [y.2]; show V.int (0 + (i : Int)) = V.int (i : Int); rw [Int.zero_add]⟩)
theorem lc_map {wi : TI} {J : It} {n : Nat} {G : Hp → Prop} {Y : Nat → Hp → V → Hp → Prop} (w : Walk J n G Y) {g : TG} {te : TE} {vs : List Nat} {σ : L2.St} {H0 : Hp} {Q : VK}
    (f : Nat → V) (hn : n ≤ 1000000) (hw : ∀ R : It → Hp → Prop, (∀ H, Same H0 H → G H → R J H) → wi σ H0 R) (hG : ∀ H H', Same H0 H → G H → Same H H' → G H')
    (hs : ∀ i x H H' (R : V → Hp → Prop), i < n → Same H0 H → Y i H x H' → (∀ H4, Same H H4 → R (f i) H4) →
      g x (wipe σ vs) H' fun σ2 H2 => wipe σ2 vs = wipe σ vs ∧ te σ2 H2 R)
    (hd : ∀ D H', H0 D = none → Same H0 H' → H' D = some (.lst ((List.range n).map f)) → Q (.ref D) H') : tLc wi g tYes te vs σ H0 Q := by
  refine hw _ (fun H sm0 hg0 D hD => ?_)
  have hD0 := sm0.free hD
  let Nx : Nat → Hp → Prop := fun i H' => Same H H' ∧ H' D = some (.lst ((List.range i).map f))
  refine ⟨fun i m H' => m = n - i ∧ i ≤ n ∧ Nx i H', ⟨n, by simp, Nat.zero_le _, same_new hD, upd_same⟩, ?_⟩
  rintro i m H' ⟨rfl, hi, sm, hl⟩
  have hg := hG H H' sm0 hg0 sm
  have sm' := sm0.trans sm
  by_cases hlt : i < n
  · refine Or.inr ⟨w.goes i H' hlt hg, Nx (i + 1), fun H'' p => ⟨n - (i + 1), by omega, rfl, hlt, p⟩, fun x H'' y => ?_⟩
    refine hs i x H' H'' _ hlt sm' (w.yields i H' x H'' hlt hg y) (fun H4 s4 => ?_)
    refine ⟨_, s4 D _ hl, ?_, fun b o e => ?_, ?_⟩
    · rw [List.length_map, List.length_range]
      exact Nat.lt_of_lt_of_le (Nat.lt_of_lt_of_le hlt hn) (by decide)
    · rw [upd_ne (ne_of_none e hD)]
      exact s4 b o (sm b o e)
    · rw [upd_same, List.range_succ, List.map_append]
      rfl
  · have e : i = n := by omega
    subst e
    exact Or.inl ⟨w.stops H' hg, hd D H' hD0 sm' hl⟩
end Mq

namespace Mq
open PySem PySem.Spec PyProof.Rows L2
/-! ### enumerate(v), v a tuple -/
theorem meets_enumT (l : Addr) (items : Array Value) :
    Meets (Builtin.«enumerate.__new__» ⟨[.type "enumerate", .ref l], []⟩) (fun _ R s => s.heap.IsTuple l items ∧
      R (.ok (.ret (.ref (s.heap.push { cls := .type "tuple_iterator", data := .fields #[.ref l, .int 0 0] }).objs.size)))
        { s with heap := (s.heap.push { cls := .type "tuple_iterator", data := .fields #[.ref l, .int 0 0] }).push { cls := .type "enumerate", data := .fields #[.none, .bool false, .ref s.heap.objs.size, rawInt 0, .none, .none] } }) :=
  .of_wp fun prog w A R s h => by
    obtain ⟨hp, g, d, tk, os⟩ := s; obtain ⟨hl, h⟩ := h
    have hsub := sub_enumerate
    have hL : Heap.IsTuple (Shared.heap ⟨hp, g, d, tk, os⟩) l items := hl
    obtain ⟨o, ho, _⟩ := id hl
    wp_walk using AutoSeq1.wpAny_loadPart' ho
    refine wpAny_stack_any fun st => wpAny_pure ?_
    split
    · rename_i c _ _ _ _ _
      cases (c == Value.type "enumerate")
      · wp_walk using AutoSeq1.wpAny_loadPart' ho, wpAny_pyIter_tuple hL
        exact ⟨_, rfl, h⟩
      · wp_walk using AutoSeq1.wpAny_loadPart' ho, wpAny_pyIter_tuple hL
        exact ⟨_, rfl, h⟩
    · wp_walk using AutoSeq1.wpAny_loadPart' ho, wpAny_pyIter_tuple hL
      exact ⟨_, rfl, h⟩
theorem call_enumT {prog : Program} {w : World} {A : Around} {E : Value → Shared → Prop} {s : Shared} {l : Addr} {items : Array Value} {Q : Value → Shared → Prop} (hL : s.heap.IsTuple l items)
    (h : ∀ h', IsEnum h' (s.heap.objs.size + 1) s.heap.objs.size 0 .none → h'.IsTupleIter s.heap.objs.size l 0 → h'.objs.size = s.heap.objs.size + 2 →
      (∀ b o, s.heap.get? b = some o → h'.get? b = some o) → Q (.ref (s.heap.objs.size + 1)) { s with heap := h' }) :
    wpAny (model prog w) A (call (.type "enumerate") [.ref l]) Q E s := by
  refine callType_new F.called_enumerate (by decide) (F.typeCall_enumerate_1 _) (F.newCall_enumerate_1 _) (fun obj => F.args_object_init_2 obj _) F.entry_enumerate_new
    (meets_enumT l items) ⟨hL, ?_⟩
  have hz : (s.heap.push { cls := .type "tuple_iterator", data := .fields #[.ref l, .int 0 0] }).objs.size = s.heap.objs.size + 1 := Heap.size_push ..
  show _ ∧ _
  rw [hz]
  have he : IsEnum ((s.heap.push { cls := .type "tuple_iterator", data := .fields #[.ref l, .int 0 0] }).push
      { cls := .type "enumerate", data := .fields #[.none, .bool false, .ref s.heap.objs.size, rawInt 0, .none, .none] }) (s.heap.objs.size + 1) s.heap.objs.size 0 .none := by
    have := Heap.get?_push_size (s.heap.push { cls := .type "tuple_iterator", data := .fields #[.ref l, .int 0 0] })
      (o := { cls := .type "enumerate", data := .fields #[.none, .bool false, .ref s.heap.objs.size, rawInt 0, .none, .none] }) rfl
    rw [hz] at this; exact this
  refine ⟨⟨_, he, rfl⟩, h _ he ⟨_, Heap.get?_push_of_some _ (Heap.get?_push_size _ rfl), rfl, rfl⟩ (by rw [Heap.size_push, hz]) fun b o x => Heap.get?_push_of_some _ (Heap.get?_push_of_some _ x)⟩
/-- the tuple at a, each item in a new pair -/
def Iee (K : PySem.W.Frag) (a : Addr) : It :=
  ⟨fun i H => ∃ (xs : List V) (x : V), SqT K H a xs ∧ xs[i]? = some x, fun i H v H' => ∃ T x, v = .ref T ∧ H T = none ∧ H' = upd H T (.tup [.int (i : Nat), x]) ∧ ∀ xs, SqT K H a xs → xs[i]? = some x, fun i H => ∃ xs : List V, SqT K H a xs ∧ xs.length ≤ i⟩
theorem turn_enumT {P : Program} {w : World} {K : PySem.W.Frag} {elts : List Expr} {kk : Nat} {tpos : Pos} (a e it : Addr) (ha : a ≠ it) (hae : a ≠ e) :
    Turn P w K (.Tuple elts kk tpos) (Iee K a) [e, it] e (fun i h => (∃ old, IsEnum h e it ((i : Nat) : Int) old) ∧ h.IsTupleIter it a i ∧ e ≠ it) where
  mem := by simp
  obj := fun i h st b hb => by
    obtain ⟨⟨old, he⟩, ⟨o, ho, hc, hd⟩, _⟩ := st
    have e' : b = e ∨ b = it := by simpa using hb
    rcases e' with z | z
    · rw [z]; exact ⟨_, he, fun v q => nomatch q⟩
    · rw [z]; exact ⟨o, ho, fun v q => by rw [hd] at q; cases q⟩
  keep := fun i h h' st k => let ⟨⟨old, he⟩, hi, hne⟩ := st; ⟨⟨old, k e (by simp) _ he⟩, hi.at fun o q => k it (by simp) o q, hne⟩
  item := by
    intro X hP hw hK hc i pins s σ H E I hf st hg
    subst hP hw hK
    obtain ⟨⟨old, he⟩, hit, hne⟩ := st
    obtain ⟨xs, x, hq, hx⟩ := hg
    obtain ⟨its, rv, p, hz⟩ := I.tuple hq
    obtain ⟨u, hu, ru⟩ := rv.get hx
    have hel : e < s.heap.objs.size := Heap.lt_size he
    have hil : it < s.heap.objs.size := by obtain ⟨_, q, _⟩ := hit; exact Heap.lt_size q
    have hp : s.heap.IsTuple a its.toArray := p
    have hu' : its.toArray[i]? = some u := by simpa using hu
    have hlt : i < its.toArray.size := by
      rw [List.size_toArray]
      rcases Nat.lt_or_ge i its.length with h | h
      · exact h
      · rw [List.getElem?_eq_none h] at hu
        cases hu
    refine wpAny_pyNext_enum_itemD (n := its.toArray.size) (Draws.tuple (show X.A.in1.handled = none from I.ok.hd hc) it a ha its.toArray) he ⟨hit, hp⟩ hlt hne (by simp only [List.mem_cons, List.not_mem_nil, or_false, not_or]; exact ⟨hne, fun z => hae z.symm⟩) fun x' h' tk hP' ho hst' hT hsz hk => ?_
    have ex : x' = u := by
      have h1 : some x' = some u := by rw [← hP', hu']
      exact Option.some.inj h1
    subst ex
    refine ⟨_, rfl, wpAny_letOwnedTupleGo_enum (s := { s with heap := h', toks := tk + 1 }) ho fun h'' he' sb => ?_⟩
    have hT2 : h''.get? s.heap.objs.size = some { cls := .type "tuple", data := .seq #[.int i tk, x'] } := (sb.2 _ (Nat.ne_of_gt hel)).trans hT
    have new : ObjOk X.prog X.w (upd H s.heap.objs.size (.tup [.int (i : Nat), x])) h'' s.heap.objs.size (.tup [.int (i : Nat), x]) :=
      ⟨by show 2 ≤ sizeLine; decide, [.int i tk, x'], .cons ⟨_, rfl⟩ (.cons ru .nil), ⟨_, hT2, rfl, _, rfl⟩⟩
    have I1 : Inv X pins σ (upd H s.heap.objs.size (.tup [.int (i : Nat), x])) { s with heap := h'', toks := tk + 1 } :=
      I.turnedNew (ch := [e, it]) (fun b ob hb q => (sb.2 b (fun z => hb (by simp [z]))).trans (hk b ob (fun z => hb (by simp [z])) (fun z => hb (by simp [z])) q)) hf (Nat.le_refl _) new
    refine ⟨.ref s.heap.objs.size, _, I1, rfl, ⟨_, x, rfl, I.hok.fresh (Nat.le_refl _), rfl, fun ys hy => by rw [I.tuple_inj hy hq]; exact hx⟩, ⟨⟨x', ?_⟩, hst'.1.at fun o q => (sb.2 it (Ne.symm hne)).trans q, hne⟩, fun b hb => ?_⟩
    · have e1 : ((i + 1 : Nat) : Int) = (i : Int) + 1 := by omega
      rw [e1]; exact he'
    · have hb' : b < s.heap.objs.size := by
        have e' : b = e ∨ b = it := by simpa using hb
        rcases e' with z | z
        · rw [z]; exact hel
        · rw [z]; exact hil
      rw [upd_ne (Nat.ne_of_lt hb')]
      exact (hf b hb).1
  done := by
    intro X hP hw hK hc i pins s σ H E I hf st hg
    subst hP hw hK
    obtain ⟨⟨old, he⟩, hit, hne⟩ := st
    obtain ⟨xs, hq, hx⟩ := hg
    obtain ⟨its, rv, p, hz⟩ := I.tuple hq
    obtain ⟨f0, f1, f2, f3, f4, f5⟩ := hf it (by simp)
    have hl := rv.length
    have hp : s.heap.IsTuple a its.toArray := p
    have D : Draws X.prog X.w X.A.in1 it [it, a] i (fun _ _ => False) (fun j h => j = i ∧ h.IsTupleIter it a i ∧ h.IsTuple a its.toArray) :=
      { live := fun _ _ st => let ⟨o, ho, _⟩ := st.2.1; ⟨o, ho⟩
        frame := fun _ _ _ st hk => ⟨st.1, st.2.1.at fun o e => hk it (by simp) o e, st.2.2.at fun o e => hk a (by simp) o e⟩
        item := fun j s Q E hi st hQ => absurd hi (by rw [st.1]; exact Nat.lt_irrefl i)
        done := fun s Q E st hE => wpAny_nextOf_tuple_end (show X.A.in1.handled = none from I.ok.hd hc) st.2.1 st.2.2 (by simp; omega) hE }
    exact wpAny_pyNext_enum_endD D he ⟨rfl, hit, hp⟩ fun h' eb => ⟨rfl, I.turned (t' := s.toks) (fun b o hb q => eb b o hb q) f0 f1 f3 f4 f5⟩
  self := fun A i s Q E st h => let ⟨⟨_, he⟩, _⟩ := st; wpAny_pyIter_enum he h
def iEnumT (K : PySem.W.Frag) (ta : TA) : TI := fun σ H R => ta σ H fun vs H1 => ∃ a xs, vs = [.ref a] ∧ SqT K H1 a xs ∧ R (Iee K a) H1
theorem pi_enumT {X : Cx} {e : Expr} {ta : TA} {p pos tpos : Pos} {elts : List Expr} {kk : Nat} (hg : Gl X "enumerate") (hm : X.mg "enumerate" = none) (ha : PA X [e] ta) (hs : starEach [e] X.env = [(false, eval e X.env)] := by rfl) :
    PI X (.Tuple elts kk tpos) (.Call (.Name "enumerate" p) [e] [] pos) (iEnumT X.K ta) := by
  refine ⟨fun pins s σ H R I h => ?_⟩
  refine Call_ (ld_blt I hg hm boot_enumerate (PyProof.Rows.callWith_type1 (thn (ha.run pos pins s σ H _ I h) fun us s1 ⟨vs, H1, I1, r1, q1⟩ => ?_) hs rfl))
  obtain ⟨a, xs, ex, hq, q⟩ := q1
  subst ex
  cases r1 with
  | cons r rr =>
    cases rr
    cases r
    obtain ⟨its, rv, p', hz⟩ := I1.tuple hq
    have hp : s1.heap.IsTuple a its.toArray := p'
    have hal : a < s1.heap.objs.size := by obtain ⟨_, q, _⟩ := hp; exact Heap.lt_size q
    refine call_enumT hp fun h' he hit hsz hk => wpAny_pyIter_enum he ?_
    have I2 : Inv X pins σ H1 { s1 with heap := h' } := I1.kept (t' := s1.toks) hk
    refine ⟨s1.heap.objs.size + 1, [s1.heap.objs.size + 1, s1.heap.objs.size], _, _, H1, rfl, I2, turn_enumT a (s1.heap.objs.size + 1) s1.heap.objs.size (Nat.ne_of_lt hal) (Nat.ne_of_lt (Nat.lt_succ_of_lt hal)), ⟨⟨.none, he⟩, hit, Nat.succ_ne_self _⟩, fun b hb => ?_, q⟩
    have e' : b = s1.heap.objs.size + 1 ∨ b = s1.heap.objs.size := by simpa using hb
    have hle : s1.heap.objs.size ≤ b := by
      rcases e' with z | z
      · rw [z]; exact Nat.le_add_right _ _
      · rw [z]; exact Nat.le_refl _
    exact I1.fpOk hle (I1.hok.fresh hle)
/-- the same, where what is walked is laid on the way -/
theorem lc_mapJ {wi : TI} {n : Nat} {Y : Nat → Hp → V → Hp → Prop} {g : TG} {te : TE} {vs : List Nat} {σ : L2.St} {H0 : Hp} {Q : VK}
    (f : Nat → V) (hn : n ≤ 1000000) (hw : ∀ R : It → Hp → Prop, (∀ (J : It) (G : Hp → Prop) (H : Hp), Walk J n G Y → (∀ H', G H → Same H H' → G H') → Same H0 H → G H → R J H) → wi σ H0 R)
    (hs : ∀ i x H H' (R : V → Hp → Prop), i < n → Same H0 H → Y i H x H' → (∀ H4, Same H H4 → R (f i) H4) →
      g x (wipe σ vs) H' fun σ2 H2 => wipe σ2 vs = wipe σ vs ∧ te σ2 H2 R)
    (hd : ∀ D H', H0 D = none → Same H0 H' → H' D = some (.lst ((List.range n).map f)) → Q (.ref D) H') : tLc wi g tYes te vs σ H0 Q := by
  refine hw _ (fun J G H w hG sm0 hg0 D hD => ?_)
  have hD0 := sm0.free hD
  let Nx : Nat → Hp → Prop := fun i H' => Same H H' ∧ H' D = some (.lst ((List.range i).map f))
  refine ⟨fun i m H' => m = n - i ∧ i ≤ n ∧ Nx i H', ⟨n, by simp, Nat.zero_le _, same_new hD, upd_same⟩, ?_⟩
  rintro i m H' ⟨rfl, hi, sm, hl⟩
  have hg := hG H' hg0 sm
  have sm' := sm0.trans sm
  by_cases hlt : i < n
  · refine Or.inr ⟨w.goes i H' hlt hg, Nx (i + 1), fun H'' p => ⟨n - (i + 1), by omega, rfl, hlt, p⟩, fun x H'' y => ?_⟩
    refine hs i x H' H'' _ hlt sm' (w.yields i H' x H'' hlt hg y) (fun H4 s4 => ?_)
    refine ⟨_, s4 D _ hl, ?_, fun b o e => ?_, ?_⟩
    · rw [List.length_map, List.length_range]
      exact Nat.lt_of_lt_of_le (Nat.lt_of_lt_of_le hlt hn) (by decide)
    · rw [upd_ne (ne_of_none e hD)]
      exact s4 b o (sm b o e)
    · rw [upd_same, List.range_succ, List.map_append]
      rfl
  · have e : i = n := by omega
    subst e
    exact Or.inl ⟨w.stops H' hg, hd D H' hD0 sm' hl⟩
end Mq

namespace Mq
open PySem PySem.Spec PyProof.Rows L2
/-- a comprehension without a test over what w walks -/
theorem lc_yes {J : It} {n : Nat} {G : Hp → Prop} {Y : Nat → Hp → V → Hp → Prop} (w : Walk J n G Y) {g : TG} {te : TE} {vs : List Nat} {σ : L2.St} {H1 : Hp} {D : Addr} {Qd : Hp → Prop} (Pv : Nat → Hp → Prop)
    (h0 : Pv 0 (upd H1 D (.lst []))) (hG : ∀ i H, i ≤ n → Pv i H → G H)
    (hs : ∀ i x H H', i < n → Pv i H → Y i H x H' → g x (wipe σ vs) H' fun σ2 H2 => wipe σ2 vs = wipe σ vs ∧ te σ2 H2 fun y H4 => ∃ acc, H4 D = some (.lst acc) ∧ acc.length < sizeLine ∧ Pv (i + 1) (upd H4 D (.lst (acc ++ [y]))))
    (hd : ∀ H, Pv n H → Qd H) :
    ∃ W : Nat → Nat → Hp → Prop, (∃ m, W 0 m (upd H1 D (.lst []))) ∧ ∀ i m H, W i m H →
      (J.stop i H ∧ Qd H) ∨ (J.go i H ∧ ∃ Nx : Hp → Prop, (∀ H', Nx H' → ∃ m', m' < m ∧ W (i + 1) m' H') ∧ ∀ x H', J.yld i H x H' → g x (wipe σ vs) H' fun σ2 H2 => wipe σ2 vs = wipe σ vs ∧ tYes σ2 H2 fun b H3 =>
        if b = true then te σ2 H3 fun y H4 => ∃ acc, H4 D = some (.lst acc) ∧ acc.length < sizeLine ∧ Nx (upd H4 D (.lst (acc ++ [y]))) else Nx H3) :=
  lc_it (tt := tYes) w Pv h0 hG hs hd
end Mq

namespace Mq
open PySem PySem.Spec PyProof.Rows L2
/-- isinstance(e, c), the held error's class being told among the values -/
theorem call_heldX {X : Cx} {a D : Addr} {oe : Obj} {cls : Value} {d : Option Addr} {pn : List (Addr × Obj)} (C : HeldC X.K D) (hz : Zc cls d oe)
    (hf : ∃ vs, oe.data = .fields vs) : CallR (X.suite a ((a, oe) :: pn)) (.builtin "isinstance") (fun xs H Q => cls = .ref D ∧ rHeld X.K D a d xs H Q) := by
  intro pins s σ H xs us Q I r h
  obtain ⟨rfl, h⟩ := h
  exact call_held C hz hf pins s σ H xs us Q I r h
/-! ### lists whose items are equal, told by != and == -/
theorem op_neFl {X : Cx} (hu : X.A.units + 64 < cLine) : OpR X (compareOp .NotEq) (fun x y H Q => ∃ a b xs, x = .ref a ∧ y = .ref b ∧ SqL X.K H a xs ∧ SqL X.K H b xs ∧ (∀ v ∈ xs, flatB v = true) ∧ Q (.bl false) H) := by
  intro pins s σ H x y v u Q I rx ry h
  obtain ⟨a, b, xs, rfl, rfl, ha, hb, hf, q⟩ := h
  cases (show v = Value.ref a from rx)
  cases (show u = Value.ref b from ry)
  obtain ⟨us, r1, p1, _⟩ := I.list ha
  obtain ⟨ws, r2, p2, _⟩ := I.list hb
  have hsz : us.toArray.size = ws.toArray.size := by
    rw [List.size_toArray, List.size_toArray, ← r1.length, ← r2.length]
  have he : ∀ j (h1 : j < us.toArray.size) (h2 : j < ws.toArray.size), SeqAt.EqAt X.A.in1 s us.toArray[j] ws.toArray[j] true := by
    intro j h1 h2
    have h1' : j < us.length := by simpa using h1
    have h2' : j < ws.length := by simpa using h2
    have e1 : xs.length = us.length := r1.length
    obtain ⟨u1, g1, k1⟩ := r1.get (i := j) (x := xs[j]'(by omega)) (List.getElem?_eq_getElem (by omega))
    obtain ⟨u2, g2, k2⟩ := r2.get (i := j) (x := xs[j]'(by omega)) (List.getElem?_eq_getElem (by omega))
    rw [List.getElem?_eq_getElem h1'] at g1
    rw [List.getElem?_eq_getElem h2'] at g2
    have k := eqAt_same (A := X.A.in1) (s := s) k1 k2 (hf _ (List.getElem_mem _))
    cases g1
    cases g2
    simpa using k
  have k := SeqAt.RcNeAt.lists (A := X.A) (s := s) (e := fun _ => true) p1.isList p2.isList hsz (by omega) he
  have z : (!(List.range us.toArray.size).all fun _ => true) = false := by rw [show ((List.range us.toArray.size).all fun _ => true) = true from List.all_eq_true.mpr fun _ _ => rfl]; rfl
  rw [z] at k
  exact k X.prog X.w _ _ ⟨.bl false, H, I, rfl, q⟩
/-- list(v), v a tuple: the new list is told to stand elsewhere than the modules -/
theorem call_lsN {X : Cx} : CallR X (.type "list") (fun xs H Q => ∃ p ys, xs = [.ref p] ∧ SqT X.K H p ys ∧ ∀ l, H l = none → l ≠ sysModules → Q (.ref l) (upd H l (.lst ys))) := by
  intro pins s σ H xs us Q I r hw
  obtain ⟨t, ys, rfl, ht, k⟩ := hw
  cases r with
  | cons r0 rr =>
    cases rr
    cases r0
    obtain ⟨its, rv, pl, hz⟩ := I.tuple ht
    have hlen := rv.length
    obtain ⟨o, ho, hc, n, hd⟩ := pl
    refine call_list_seq t (.inr rfl) ho hc hd (fun h2 c2 kp e => ?_) (by rw [List.size_toArray]; omega)
    have new : ObjOk X.prog X.w (upd H s.heap.objs.size (.lst ys)) h2 s.heap.objs.size (.lst ys) := ⟨hz, its, c2, rv, e⟩
    refine ⟨.ref _, upd H s.heap.objs.size (.lst ys), ?_, rfl, ?_⟩
    · exact I.laid (t' := s.toks) kp (Nat.le_refl _) new
    · exact k _ (I.hok.fresh (Nat.le_refl _)) (Nat.ne_of_gt (Inv.low I))
/-! ### how long what is shown can be -/
theorem small_short : ∀ n : Nat, n ≤ 1000 → (PyData.int (n : Nat)).shown.length ≤ 13 ∧ (PyData.int (n : Nat)).showable = true ∧ (PyData.int (n : Nat)).weight ≤ 20 := by
  have h : ((List.range 1001).all fun n => decide ((PyData.int (n : Nat)).shown.length ≤ 13) && ((PyData.int (n : Nat)).showable && decide ((PyData.int (n : Nat)).weight ≤ 20))) = true := by decide +kernel
  intro n hn
  have h1 := List.all_eq_true.mp h n (List.mem_range.mpr (by omega))
  obtain ⟨a, b⟩ := Bool.and_eq_true_iff.mp h1
  obtain ⟨b, c⟩ := Bool.and_eq_true_iff.mp b
  exact ⟨of_decide_eq_true a, b, of_decide_eq_true c⟩
theorem shown_fits {d : PyData} (h1 : d.canLay0 = true) (h2 : d.depth ≤ 64) (h3 : d.weight ≤ 1000000) (h4 : d.intsShort 13 = true) : d.shown.length ≤ sizeLine := by
  have h5 : d.weight ≤ 2 ^ 20 := Nat.le_trans h3 (by decide)
  have hl : PyData.layable0 d = true := by
    unfold PyData.layable0
    rw [h1, decide_eq_true h2, decide_eq_true h5]
    rfl
  exact Nat.le_trans (PyProof.Rows.shown_le13 hl h4) (by decide)
end Mq

namespace Mq
open PySem PySem.Spec PyProof.Rows L2
/-! ### a text, so many times -/
def repS (x : Str) (n : Nat) : Str := ⟨(List.replicate n x.cps).foldl (· ++ ·) #[]⟩
theorem op_mulS {X : Cx} : OpR X (binaryOp .Mult) (fun x y H Q => ∃ (z : Str) (n : Nat), x = .str z ∧ y = .int (n : Nat) ∧ 2 ≤ n ∧ n ≤ 1000 ∧ 1 ≤ z.length ∧ z.length ≤ 1000 ∧ (repS z n).length ≤ sizeLine ∧ Q (.str (repS z n)) H) := by
  intro pins s σ H x y v u Q I rx ry h
  obtain ⟨z, n, rfl, rfl, h1, h2, h3, h4, h5, q⟩ := h
  obtain ⟨t, rfl⟩ := rx
  obtain ⟨t', rfl⟩ := ry
  have hm : z.length * n ≤ 1000 * 1000 := Nat.mul_le_mul h4 h2
  have e1 : decide (((n : Nat) : Int) < -(2 ^ 63 : Int)) = false := decide_eq_false (by omega)
  have e2 : decide (((n : Nat) : Int) ≥ 2 ^ 63) = false := decide_eq_false (by omega)
  have e3 : (((n : Nat) : Int) == 1) = false := by
    rw [beq_eq_false_iff_ne]
    omega
  have e4 : (z.length == 0) = false := by
    rw [beq_eq_false_iff_ne]
    omega
  refine P.mul_str (by rw [e1, e2]; rfl) (fun _ _ => ?_) (fun _ _ => ?_) ?_
  · have hd : (1000 : Int) ≤ (2 ^ 63 - 1) / ((n : Nat) : Int) := by
      refine (Int.le_ediv_iff_mul_le (by omega)).mpr ?_
      omega
    omega
  · rw [Int.toNat_natCast]
    unfold Builtin.Str.tooLong
    exact decide_eq_false (by have : (1000 * 1000 : Nat) ≤ sizeLine := by decide
                              omega)
  · rw [if_neg (show ¬ ((n : Nat) : Int) < 1 by omega), e3, e4]
    exact ⟨h5, .str (repS z n), H, I.tok _, ⟨_, rfl⟩, q⟩
end Mq


namespace MqE_thing
open PySem PySem.Spec PyProof.Rows L2 Mq PySem.W PySem.Calls
/-! ### errors whose one parameter is thing -/
def iA (p1 p2 : Pos) : Arguments := { posonlyargs := [], args := [{ arg := "self", annotation := none, pos := p1 }, { arg := "thing", annotation := none, pos := p2 }], vararg := none, kwonlyargs := [], kw_defaults := [], kwarg := none, defaults := [] }
def iB (q1 q2 q3 q4 : Pos) : List Stmt := [.Assign [.Attribute (.Name "self" q1) "thing" q2] (.Name "thing" q3) q4]
def iS : Scope := { kind := .function, names := [(PySem.Str.ofString "self", .local), (PySem.Str.ofString "thing", .local)], isGenerator := false, isCoroutine := false, more := [] }
/-- what the written part says of the class x at C, and of its __init__ at fI -/
structure Txt (K : Frag) (mg : Str → Option Value) (x qual : Str) (C fI : Addr) : Prop where
  gC : mg x = some (.ref C)
  kC : keepIn K (.ref C) = true
  ex : excInitIn K C exTail "Exception.__new__" = true
  ov : excOver K C exTail = true
  hdC : hasDictIn K C = true
  tk : takerIn K C "thing" = some none
  sa : findIn K (.ref C) "__setattr__" = some (some (.builtin "object.__setattr__"))
  iC : findIn K (.ref C) "__init__" = some (some (.ref fI))
  tC : typeIn K (.ref fI) = some (.type "function")
  exC : subIn K (.ref C) (.type "BaseException") = some true
  tyC : typeIn K (.ref C) = some (.type "type")
  fn : ∃ (oc : Value) (od : Option Addr) (doc pm : Value) (an : Option Addr) (cdv ct : Value) (osl : Array (Option Value)) (p1 p2 q1 q2 q3 q4 : Pos),
    K.lookup fI = some ⟨oc, od, .func (fnOf "__init__" qual (iA p1 p2) (iB q1 q2 q3 q4) iS .none .none doc pm an cdv ct), osl⟩ ∧ codeIn K cdv qual = true
theorem ld_loc {M : Model} {s : Shared} {name : Str} {scope : Scope} {L a : Addr} {cd : Value} {m : Str → Option Value} {y : Str} {pos : Pos} {v : Value}
    {Q : Value → Shared → Prop} {A : Around} {E : Value → Shared → Prop} (hn : s.heap.Ns L m) (hv : m y = some v) (h : Q v s)
    (hk : scope.kind = .function := by rfl) (hl : (envOfC name scope L a cd).kindOf y = some .local := by rfl) (hd : (y == ("__debug__" : Str)) = false := by decide) :
    wpAny M A (eval (.Name y pos) (envOfC name scope L a cd)) Q E s := wpAny_Name (wpAny_loadName_local hk hl hn hv h) hd
/-- what __init__ leaves of a new error at e -/
structure Filled (h h' : Heap) (e C dx t1 : Addr) (v : Value) : Prop where
  keep : ∀ b o, b ≠ e → h.get? b = some o → h'.get? b = some o
  obj : h'.get? e = some (excObj C t1 (some dx) .none)
  big : h.objs.size ≤ dx
  ne : dx ≠ e
  ns : h'.Ns1 dx (fun y => if y = "thing" then some v else none)
/-- a made error -/
structure Made (h h' : Heap) (e C d : Addr) (v : Value) : Prop where
  keep : ∀ b o, h.get? b = some o → h'.get? b = some o
  new : h.objs.size ≤ e
  obj : ∃ oe vs, h'.get? e = some oe ∧ oe.cls = .ref C ∧ oe.dict = some d ∧ oe.data = .fields vs ∧ vs[1]? = some .none
  big : h.objs.size ≤ d
  ne : d ≠ e
  ns : h'.Ns1 d (fun y => if y = "thing" then some v else none)
section
variable {prog : Program} {w : World} {A : Around} {E : Value → Shared → Prop} {R : Result → Shared → Prop} {s : Shared} {K : Frag} {mg : Str → Option Value} {x qual : Str} {C fI : Addr}
theorem init_run (T : Txt K mg x qual C fI) {e t0 : Addr} {v : Value} (X : K.In s.heap) (lim : s.heap.NoLimit) (he : s.heap.get? e = some (excObj C t0 none .none)) (room : A.depth < recursionLimit)
    (hq : ∀ h' tk dx, Filled s.heap h' e C dx t0 v → R (.ok (.ret .none)) { s with heap := h', toks := tk }) :
    codeAny (model prog w) A (.call (.ref fI) ⟨[.ref e, v], []⟩) R s := by
  obtain ⟨oc, od, doc, pm, an, cdv, ct, osl, p1, p2, q1, q2, q3, q4, ho, hcd⟩ := T.fn
  refine Att.call_fn (binds := [("self", .ref e), ("thing", v)]) X lim ho hcd room (BindsTo.of_eq (by first | rfl | with_unfolding_all rfl)) (by first | rfl | decide | with_unfolding_all rfl) (fun s₁ IC => ?_) rfl rfl rfl
  obtain ⟨h₁, tk₁, rfl⟩ := IC.toInCall.same
  have k : ∀ b o, s.heap.get? b = some o → h₁.get? b = some o := IC.toInCall.keep
  have hn := IC.toInCall.ns
  have X₁ : K.In h₁ := X.keeps k
  have he₁ := k _ _ he
  show wpAny _ _ (execs _ _) _ _ _
  refine wpAny_execs_cons (plainObj_wpAny_Assign_Attribute ?_)
  refine ld_loc (v := v) hn (by first | rfl | with_unfolding_all rfl | kernel_rfl) (ld_loc (v := .ref e) hn (by first | rfl | with_unfolding_all rfl | kernel_rfl) ?_)
  refine set_plain X₁ (ox := excObj C t0 none .none) (od := none) ⟨he₁, rfl, rfl, trivial⟩ T.sa ?_
  refine osa_first X₁ he₁ T.ov T.hdC T.tk (fun h₃ tk₃ dx k₃ dn dne he₃ hn₃ => ?_)
  show wpAny _ _ (execs _ _) _ _ _
  have z : s.heap.objs.size < h₁.objs.size := hn.lt
  exact wpAny_execs_nil (hq h₃ tk₃ dx ⟨fun b o hb e => k₃ b o hb (k b o e), he₃, Nat.le_of_lt (Nat.lt_of_lt_of_le z dn), dne, hn₃⟩)
theorem made_run (T : Txt K mg x qual C fI) {v : Value} (X : K.In s.heap) (lim : s.heap.NoLimit) (room : A.depth + 1 < recursionLimit)
    (hq : ∀ h' tk e d, Made s.heap h' e C d v → R (.ok (.ret (.ref e))) { s with heap := h', toks := tk }) :
    codeAny (model prog w) A (.call (.ref C) ⟨[v], []⟩) R s := by
  obtain ⟨nm, N, qn, bs, bm, hdct, sn, sub, ab, col, dd, k0, k1, k2, k3, k5, hC, hT⟩ := excInit_of X T.ex
  obtain ⟨hp, g, dr, tk, os⟩ := s
  have k : ∀ b o, hp.get? b = some o → ((hp.push (kdv_tup [v])).push (HandSPX.excO C hp.objs.size)).get? b = some o := fun b o e => Heap.get?_push_of_some _ (Heap.get?_push_of_some _ e)
  have hget : ((hp.push (kdv_tup [v])).push (HandSPX.excO C hp.objs.size)).get? (hp.objs.size + 1) = some (excObj C hp.objs.size none .none) := by heap_get
  refine HandSPX.call_own F.excBase_Exception hT hC (looks_findIn X T.iC) (fun self => bind_fn X self T.tC) (by rw [sizeLine_eq]; exact (by decide : 1 ≤ 16777216)) ?_
  refine init_run (s := ⟨(hp.push (kdv_tup [v])).push (HandSPX.excO C hp.objs.size), g, dr, tk, os⟩) T (X.keeps k) (lim.keeps k) hget ?_ (fun h' tk' dx M => ?_)
  · show A.depth + 1 < recursionLimit
    exact room
  · obtain ⟨k', hx, dn, dne, hns⟩ := M
    have old : ∀ b o, hp.get? b = some o → h'.get? b = some o := fun b o e => k' b o (Nat.ne_of_lt (Nat.lt_succ_of_lt (Heap.lt_size e))) (k b o e)
    have z : hp.objs.size + 1 + 1 ≤ dx := by
      have q := dn
      rw [Heap.size_push, Heap.size_push] at q
      exact q
    exact ⟨rfl, hq h' tk' (hp.objs.size + 1) dx ⟨old, Nat.le_succ _, ⟨_, _, hx, rfl, rfl, rfl, rfl⟩, Nat.le_trans (Nat.le_trans (Nat.le_succ _) (Nat.le_succ _)) z, dne, hns⟩⟩
end
theorem relO_f {v : V} {v' : Value} (r : RelV v v') (f : Str) : RelO (List.lookup f [(("thing" : Str), v)]) (if f = "thing" then some v' else none) := by
  by_cases hw : f = "thing"
  · subst hw
    rw [if_pos rfl]
    have q : List.lookup ("thing" : Str) [(("thing" : Str), v)] = some v := by simp [List.lookup]
    rw [q]
    exact r
  · rw [if_neg hw]
    have qw : (f == ("thing" : Str)) = false := by simpa using hw
    have q2 : List.lookup f [(("thing" : Str), v)] = none := by simp [List.lookup, qw]
    rw [q2]
    trivial
section
variable {X : Cx} {C fI : Addr} {x qual : Str}
/-- x(e) -/
def tMk (C : Addr) (ta : TA) : L2.St → Hp → XK → Prop := fun σ H Q => ta σ H fun vs H1 => ∃ v, vs = [v] ∧ ∀ d, H1 d = none → Q (.ref C) (some d) (upd H1 d (.xd [(("thing" : Str), v)]))
theorem pmk {a : Expr} {ta : TA} {p pos : Pos} {k : Nat} (T : Txt X.K X.mg x qual C fI) (hr : Room k X.A) (ha : PA X [a] ta) (hg : Gl X x := by rfl) (hdb : (x == ("__debug__" : Str)) = false := by decide)
    (he : starEach (a :: []) X.env = (false, eval a X.env) :: starEach [] X.env := by rfl) (hpl : (backTo pos (starEach [] X.env)).any (·.1) = false := by rfl) :
    PMk X (.Call (.Name x p) [a] [] pos) (tMk C ta) := by
  intro pins s σ H Q I h
  refine wpAny_Call_Name_kw (ld_glob I hg T.gC ?_ hdb)
  refine callWith_K (h₀ := X.base) I.ok.mod.kin T.kC (thn (ha.run pos pins s σ H _ I h) fun us s1 hh => ?_) he hpl
  obtain ⟨vs, H1, I1, r1, v, ev, q1⟩ := hh
  subst ev
  refine ⟨I1.kIn, ?_⟩
  cases r1 with
  | cons rv rn =>
    rename_i v' us'
    cases rn
    show wpAny _ _ (call (.ref C) [v']) _ _ _
    have hlim := I1.nolimit
    obtain ⟨hp, g, dr, tk, os⟩ := s1
    refine wpAny_call (made_run T I1.kIn hlim (by have := hr.dp; omega) (fun h' tk' e d M => ?_))
    show MkP X pins σ Q (.ref e) ⟨h', g, dr, tk', os⟩
    obtain ⟨oe, fv, hoe, hc, hd, hdat, h1⟩ := M.obj
    have hns := M.ns
    obtain ⟨G', g1, g2⟩ := restrict h' fun b => decide (b ≠ e)
    have gk : ∀ b, b ≠ e → G'.get? b = h'.get? b := fun b hb => g1 b (decide_eq_true hb)
    have ge : G'.get? e = none := g2 e (by simp)
    have old : ∀ b o, hp.get? b = some o → G'.get? b = some o := fun b o q => (gk b (Nat.ne_of_lt (Nat.lt_of_lt_of_le (Heap.lt_size q) M.new))).trans (M.keep b o q)
    have ob : ObjOk X.prog X.w (upd H1 d (.xd [(("thing" : Str), v)])) G' d (.xd [(("thing" : Str), v)]) :=
      ⟨_, hns.at (fun o q => (gk d M.ne).trans q), fun f => relO_f rv f⟩
    have J : L2.Inv X pins σ (upd H1 d (.xd [(("thing" : Str), v)])) ⟨G', g, dr, tk', os⟩ := I1.laid (t' := tk') old M.big ob
    refine ⟨e, oe, fv, ⟨G', g, dr, tk', os⟩, _, .ref C, some d, rfl, J, (fun b o q => ?_), ge, hoe, ⟨hc, hd⟩, hdat, h1, ?_, rfl, I1.bare, raises_own T.exC T.tyC, q1 d (I1.hok.fresh M.big)⟩
    · by_cases hb : b = e
      · have q' : G'.get? b = some o := q
        rw [hb, ge] at q'
        cases q'
      · exact (gk b hb).symm.trans q
    · rw [upd_ne (Ne.symm M.ne)]
      exact I1.hok.fresh M.new
/-- raise x(e) -/
def tRaise (C : Addr) (W : WX) (ta : TA) : TS := fun _ σ H => tMk C ta σ H fun cls d H' => W cls d σ H'
theorem ps_raise {a : Expr} {ta : TA} {W : WX} {p pos pos2 : Pos} {k : Nat} (hc : X.calm = true) (T : Txt X.K X.mg x qual C fI) (hr : Room k X.A) (tk : Takes X W) (ha : PA X [a] ta) (hg : Gl X x := by rfl) (hdb : (x == ("__debug__" : Str)) = false := by decide)
    (he : starEach (a :: []) X.env = (false, eval a X.env) :: starEach [] X.env := by rfl) (hpl : (backTo pos (starEach [] X.env)).any (·.1) = false := by rfl) :
    PS X (.Raise (some (.Call (.Name x p) [a] [] pos)) none pos2) (tRaise C W ta) := L2.ps_raise hc tk (pmk T hr ha hg hdb he hpl)
end
end MqE_thing

namespace Lw
open PySem PySem.Spec PyProof.Rows L2 Mq
/-! ### where the defs stand -/
def topS (i : Nat) : Stmt := PySem.Challenge.pw_millhands_k66_weavings.main.body.getD i (.Pass ⟨0, 0, 0, 0⟩)
abbrev s_BadBook___init__ : Stmt := inClass (topS 2) 0
theorem sc_BadBook___init__ : FnScope ["self", "part"] ["self", "part"] (defScope s_BadBook___init__) := ⟨rfl, rfl, rfl, by decide +kernel, rfl, by decide +kernel, by decide +kernel⟩
abbrev s_BadText___init__ : Stmt := inClass (topS 3) 0
theorem sc_BadText___init__ : FnScope ["self", "line"] ["self", "line"] (defScope s_BadText___init__) := ⟨rfl, rfl, rfl, by decide +kernel, rfl, by decide +kernel, by decide +kernel⟩
abbrev s_BadWeb___init__ : Stmt := inClass (topS 4) 0
theorem sc_BadWeb___init__ : FnScope ["self", "thing"] ["self", "thing"] (defScope s_BadWeb___init__) := ⟨rfl, rfl, rfl, by decide +kernel, rfl, by decide +kernel, by decide +kernel⟩
abbrev s_BadRow___init__ : Stmt := inClass (topS 6) 0
theorem sc_BadRow___init__ : FnScope ["self", "thing"] ["self", "thing"] (defScope s_BadRow___init__) := ⟨rfl, rfl, rfl, by decide +kernel, rfl, by decide +kernel, by decide +kernel⟩
abbrev s_BadPlace___init__ : Stmt := inClass (topS 7) 0
theorem sc_BadPlace___init__ : FnScope ["self", "place"] ["self", "place"] (defScope s_BadPlace___init__) := ⟨rfl, rfl, rfl, by decide +kernel, rfl, by decide +kernel, by decide +kernel⟩
abbrev s_is_letters : Stmt := topS 10
theorem sc_is_letters : FnScope ["thing", "letter"] ["thing"] (defScope s_is_letters) := ⟨rfl, rfl, rfl, by decide +kernel, rfl, by decide +kernel, by decide +kernel⟩
abbrev s_is_letter : Stmt := topS 11
theorem sc_is_letter : FnScope ["letters", "thing"] ["letters", "thing"] (defScope s_is_letter) := ⟨rfl, rfl, rfl, by decide +kernel, rfl, by decide +kernel, by decide +kernel⟩
abbrev s_is_word : Stmt := topS 12
theorem sc_is_word : FnScope ["letters", "thing", "letter"] ["letters", "thing"] (defScope s_is_word) := ⟨rfl, rfl, rfl, by decide +kernel, rfl, by decide +kernel, by decide +kernel⟩
abbrev s_is_number : Stmt := topS 13
theorem sc_is_number : FnScope ["thing"] ["thing"] (defScope s_is_number) := ⟨rfl, rfl, rfl, by decide +kernel, rfl, by decide +kernel, by decide +kernel⟩
abbrev s_is_below : Stmt := topS 14
theorem sc_is_below : FnScope ["thing", "many"] ["thing", "many"] (defScope s_is_below) := ⟨rfl, rfl, rfl, by decide +kernel, rfl, by decide +kernel, by decide +kernel⟩
abbrev s_is_ascending : Stmt := topS 15
theorem sc_is_ascending : FnScope ["parts", "k"] ["parts"] (defScope s_is_ascending) := ⟨rfl, rfl, rfl, by decide +kernel, rfl, by decide +kernel, by decide +kernel⟩
abbrev s_text_parts : Stmt := topS 16
theorem sc_text_parts : FnScope ["word", "text", "lines", "words"] ["word", "text"] (defScope s_text_parts) := ⟨rfl, rfl, rfl, by decide +kernel, rfl, by decide +kernel, by decide +kernel⟩
abbrev s_Book___init__ : Stmt := inClass (topS 18) 0
theorem sc_Book___init__ : FnScope ["self", "letters", "folds", "table", "ahead", "number", "fold"] ["self", "letters", "folds"] (defScope s_Book___init__) := ⟨rfl, rfl, rfl, by decide +kernel, rfl, by decide +kernel, by decide +kernel⟩
abbrev s_Book___len__ : Stmt := inClass (topS 18) 1
theorem sc_Book___len__ : FnScope ["self"] ["self"] (defScope s_Book___len__) := ⟨rfl, rfl, rfl, by decide +kernel, rfl, by decide +kernel, by decide +kernel⟩
abbrev s_Book___eq__ : Stmt := inClass (topS 18) 2
theorem sc_Book___eq__ : FnScope ["self", "other"] ["self", "other"] (defScope s_Book___eq__) := ⟨rfl, rfl, rfl, by decide +kernel, rfl, by decide +kernel, by decide +kernel⟩
abbrev s_Book___str__ : Stmt := inClass (topS 18) 3
theorem sc_Book___str__ : FnScope ["self", "lines", "last", "laid", "left"] ["self"] (defScope s_Book___str__) := ⟨rfl, rfl, rfl, by decide +kernel, rfl, by decide +kernel, by decide +kernel⟩
abbrev s_Book_read : Stmt := inClass (topS 18) 4
theorem sc_Book_read : FnScope ["cls", "text", "letters", "lines", "folds", "line", "fold"] ["cls", "text"] (defScope s_Book_read) := ⟨rfl, rfl, rfl, by decide +kernel, rfl, by decide +kernel, by decide +kernel⟩
abbrev s_Book_left_of : Stmt := inClass (topS 18) 5
theorem sc_Book_left_of : FnScope ["self", "last", "laid"] ["self", "last", "laid"] (defScope s_Book_left_of) := ⟨rfl, rfl, rfl, by decide +kernel, rfl, by decide +kernel, by decide +kernel⟩
abbrev s_is_fold : Stmt := topS 19
theorem sc_is_fold : FnScope ["letters", "thing"] ["letters", "thing"] (defScope s_is_fold) := ⟨rfl, rfl, rfl, by decide +kernel, rfl, by decide +kernel, by decide +kernel⟩
abbrev s_fold_read : Stmt := topS 20
theorem sc_fold_read : FnScope ["letters", "line", "words", "fold"] ["letters", "line"] (defScope s_fold_read) := ⟨rfl, rfl, rfl, by decide +kernel, rfl, by decide +kernel, by decide +kernel⟩
abbrev s_is_web : Stmt := topS 21
theorem sc_is_web : FnScope ["letters", "thing"] ["letters", "thing"] (defScope s_is_web) := ⟨rfl, rfl, rfl, by decide +kernel, rfl, by decide +kernel, by decide +kernel⟩
abbrev s_check_web : Stmt := topS 22
theorem sc_check_web : FnScope ["letters", "thing"] ["letters", "thing"] (defScope s_check_web) := ⟨rfl, rfl, rfl, by decide +kernel, rfl, by decide +kernel, by decide +kernel⟩
abbrev s_laid_behind : Stmt := topS 23
theorem sc_laid_behind : FnScope ["book", "web", "letter", "left"] ["book", "web", "letter"] (defScope s_laid_behind) := ⟨rfl, rfl, rfl, by decide +kernel, rfl, by decide +kernel, by decide +kernel⟩
abbrev s_check_rows : Stmt := topS 25
theorem sc_check_rows : FnScope ["book", "rows", "row"] ["book", "rows"] (defScope s_check_rows) := ⟨rfl, rfl, rfl, by decide +kernel, rfl, by decide +kernel, by decide +kernel⟩
abbrev s_check_woven : Stmt := topS 28
theorem sc_check_woven : FnScope ["book", "web", "row"] ["book", "web", "row"] (defScope s_check_woven) := ⟨rfl, rfl, rfl, by decide +kernel, rfl, by decide +kernel, by decide +kernel⟩
abbrev s_webs_behind : Stmt := topS 29
theorem sc_webs_behind : FnScope ["book", "web", "row", "webs", "letter"] ["book", "web", "row"] (defScope s_webs_behind) := ⟨rfl, rfl, rfl, by decide +kernel, rfl, by decide +kernel, by decide +kernel⟩
abbrev s_webs_along : Stmt := topS 30
theorem sc_webs_along : FnScope ["book", "web", "row"] ["book", "web", "row"] (defScope s_webs_along) := ⟨rfl, rfl, rfl, by decide +kernel, rfl, by decide +kernel, by decide +kernel⟩
abbrev s_Weaving___init__ : Stmt := inClass (topS 31) 0
theorem sc_Weaving___init__ : FnScope ["self", "book", "web", "row"] ["self", "book", "web", "row"] (defScope s_Weaving___init__) := ⟨rfl, rfl, rfl, by decide +kernel, rfl, by decide +kernel, by decide +kernel⟩
abbrev s_Weaving___len__ : Stmt := inClass (topS 31) 1
theorem sc_Weaving___len__ : FnScope ["self"] ["self"] (defScope s_Weaving___len__) := ⟨rfl, rfl, rfl, by decide +kernel, rfl, by decide +kernel, by decide +kernel⟩
abbrev s_Weaving_row_now : Stmt := inClass (topS 31) 2
theorem sc_Weaving_row_now : FnScope ["self"] ["self"] (defScope s_Weaving_row_now) := ⟨rfl, rfl, rfl, by decide +kernel, rfl, by decide +kernel, by decide +kernel⟩
abbrev s_Weaving_web_now : Stmt := inClass (topS 31) 3
theorem sc_Weaving_web_now : FnScope ["self"] ["self"] (defScope s_Weaving_web_now) := ⟨rfl, rfl, rfl, by decide +kernel, rfl, by decide +kernel, by decide +kernel⟩
abbrev s_Weaving_web_at : Stmt := inClass (topS 31) 4
theorem sc_Weaving_web_at : FnScope ["self", "place"] ["self", "place"] (defScope s_Weaving_web_at) := ⟨rfl, rfl, rfl, by decide +kernel, rfl, by decide +kernel, by decide +kernel⟩
abbrev s_Weaving_check_place : Stmt := inClass (topS 31) 5
theorem sc_Weaving_check_place : FnScope ["self", "thing", "least"] ["self", "thing", "least"] (defScope s_Weaving_check_place) := ⟨rfl, rfl, rfl, by decide +kernel, rfl, by decide +kernel, by decide +kernel⟩
abbrev s_Weaving_change : Stmt := inClass (topS 31) 6
theorem sc_Weaving_change : FnScope ["self", "start", "end", "letters", "webs", "left", "place", "many"] ["self", "start", "end", "letters"] (defScope s_Weaving_change) := ⟨rfl, rfl, rfl, by decide +kernel, rfl, by decide +kernel, by decide +kernel⟩
abbrev s_Weaving_undo : Stmt := inClass (topS 31) 7
theorem sc_Weaving_undo : FnScope ["self"] ["self"] (defScope s_Weaving_undo) := ⟨rfl, rfl, rfl, by decide +kernel, rfl, by decide +kernel, by decide +kernel⟩
abbrev s__law_deck : Stmt := topS 33
theorem sc__law_deck : FnScope ["_law_script", "_law_mixed", "_law_cell"] ["_law_script"] (defScope s__law_deck) := ⟨rfl, rfl, rfl, by decide +kernel, rfl, by decide +kernel, by decide +kernel⟩
abbrev s__law_draw : Stmt := topS 34
theorem sc__law_draw : FnScope ["_law_deck_here", "_law_many", "_law_cell", "_law_lap", "_law_mixed"] ["_law_deck_here", "_law_many"] (defScope s__law_draw) := ⟨rfl, rfl, rfl, by decide +kernel, rfl, by decide +kernel, by decide +kernel⟩
abbrev s__law_pick : Stmt := topS 35
theorem sc__law_pick : FnScope ["_law_deck_here", "_law_some"] ["_law_deck_here", "_law_some"] (defScope s__law_pick) := ⟨rfl, rfl, rfl, by decide +kernel, rfl, by decide +kernel, by decide +kernel⟩
abbrev s__law_book : Stmt := topS 36
theorem sc__law_book : FnScope ["_law_deck_here", "_law_signs", "_law_way", "_law_lot", "_law_x", "_law_y", "_law_is_gone"] ["_law_deck_here", "_law_signs"] (defScope s__law_book) := ⟨rfl, rfl, rfl, by decide +kernel, rfl, by decide +kernel, by decide +kernel⟩
abbrev s__law_code : Stmt := topS 37
theorem sc__law_code : FnScope ["_law_f", "_law_x", "_law_y"] ["_law_f"] (defScope s__law_code) := ⟨rfl, rfl, rfl, by decide +kernel, rfl, by decide +kernel, by decide +kernel⟩
abbrev s__law_laid : Stmt := topS 38
theorem sc__law_laid : FnScope ["_law_f", "_law_cloth", "_law_y", "_law_left"] ["_law_f", "_law_cloth", "_law_y"] (defScope s__law_laid) := ⟨rfl, rfl, rfl, by decide +kernel, rfl, by decide +kernel, by decide +kernel⟩
abbrev s__law_lays : Stmt := topS 39
theorem sc__law_lays : FnScope ["_law_deck_here", "_law_signs", "_law_most", "_law_found", "_law_size", "_law_piece", "_law_k"] ["_law_deck_here", "_law_signs", "_law_most"] (defScope s__law_lays) := ⟨rfl, rfl, rfl, by decide +kernel, rfl, by decide +kernel, by decide +kernel⟩
abbrev s__law_along : Stmt := topS 40
theorem sc__law_along : FnScope ["_law_f", "_law_cloth", "_law_lays_here", "_law_found", "_law_y"] ["_law_f", "_law_cloth", "_law_lays_here"] (defScope s__law_along) := ⟨rfl, rfl, rfl, by decide +kernel, rfl, by decide +kernel, by decide +kernel⟩
abbrev s__law_made : Stmt := topS 41
theorem sc__law_made : FnScope ["_law_code_here", "_law_cloth", "_law_lays_here", "_law_is_named", "_law_found", "e"] ["_law_code_here", "_law_cloth", "_law_lays_here", "_law_is_named"] (defScope s__law_made) := ⟨rfl, rfl, rfl, by decide +kernel, rfl, by decide +kernel, by decide +kernel⟩
abbrev s__law_spot : Stmt := topS 42
theorem sc__law_spot : FnScope ["_law_note", "_law_place_now", "_law_is_named", "_law_found", "e"] ["_law_note", "_law_place_now", "_law_is_named"] (defScope s__law_spot) := ⟨rfl, rfl, rfl, by decide +kernel, rfl, by decide +kernel, by decide +kernel⟩
abbrev s__law_changed : Stmt := topS 43
theorem sc__law_changed : FnScope ["_law_note", "_law_near", "_law_far", "_law_fresh", "_law_is_named", "_law_found", "e"] ["_law_note", "_law_near", "_law_far", "_law_fresh", "_law_is_named"] (defScope s__law_changed) := ⟨rfl, rfl, rfl, by decide +kernel, rfl, by decide +kernel, by decide +kernel⟩
abbrev s__law_undone : Stmt := topS 44
theorem sc__law_undone : FnScope ["_law_note", "_law_found"] ["_law_note"] (defScope s__law_undone) := ⟨rfl, rfl, rfl, by decide +kernel, rfl, by decide +kernel, by decide +kernel⟩
abbrev s__law_stands : Stmt := topS 45
theorem sc__law_stands : FnScope ["_law_deck_here", "_law_f", "_law_code_here", "_law_note", "_law_cloth", "_law_lays_here", "_law_along_here", "_law_place_now", "_law_odd", "_law_k"] ["_law_deck_here", "_law_f", "_law_code_here", "_law_note", "_law_cloth", "_law_lays_here"] (defScope s__law_stands) := ⟨rfl, rfl, rfl, by decide +kernel, rfl, by decide +kernel, by decide +kernel⟩
abbrev s__law_due : Stmt := topS 46
theorem sc__law_due : FnScope ["_law_f", "_law_cloth", "_law_lays_here", "_law_near", "_law_far", "_law_fresh", "_law_old", "_law_new", "_law_many"] ["_law_f", "_law_cloth", "_law_lays_here", "_law_near", "_law_far", "_law_fresh"] (defScope s__law_due) := ⟨rfl, rfl, rfl, by decide +kernel, rfl, by decide +kernel, by decide +kernel⟩
abbrev s__law_refused : Stmt := topS 47
theorem sc__law_refused : FnScope ["_law_deck_here", "_law_note", "_law_size", "_law_odd", "_law_near", "_law_lots", "_law_bad", "_law_start_now", "_law_end_now", "_law_fresh", "_law_due_here"] ["_law_deck_here", "_law_note", "_law_size"] (defScope s__law_refused) := ⟨rfl, rfl, rfl, by decide +kernel, rfl, by decide +kernel, by decide +kernel⟩
abbrev s_law : Stmt := topS 48
theorem sc_law : FnScope ["_law_script", "_law_deck_here", "_law_f", "_law_code_here", "_law_way", "_law_cloth", "_law_pages", "_law_note", "_law_signs", "_law_odd", "_law_said", "_law_turn", "_law_lays_here", "_law_near", "_law_far", "_law_piece", "_law_fresh", "_law_due_here"] ["_law_script"] (defScope s_law) := ⟨rfl, rfl, rfl, by decide +kernel, rfl, by decide +kernel, by decide +kernel⟩
end Lw

namespace Lw
open PySem PySem.Spec PyProof.Rows L2 Mq
open SX (S)
/-! ### letters -/
def ascB (l : List Nat) : Bool := ((List.range (l.length - 1)).map fun k => decide (l.getD k 0 < l.getD (k + 1) 0)).all id
theorem lt_sign (c d : Nat) : decide ((S [c]).cps.toList < (S [d]).cps.toList) = decide (c < d) := by
  have h : ((S [c]).cps.toList < (S [d]).cps.toList) ↔ c < d := by
    show ([c] : List Nat) < [d] ↔ c < d
    rw [List.cons_lt_cons_iff]
    simp
  exact decide_eq_decide.mpr h
theorem sz_le {n : Nat} (h : n ≤ 1000000) : n ≤ sizeLine := Nat.le_trans h (by decide)
theorem sz_lt {n : Nat} (h : n ≤ 1000000) : n < sizeLine := Nat.lt_of_le_of_lt h (by decide)
theorem at_get {l : List Nat} {k : Nat} (h : k < l.length) : atI (S l).cps.toList (k : Int) = some (l.getD k 0) := by
  refine atI_nat ?_
  show l[k]? = _
  rw [List.getElem?_eq_getElem h, List.getD_eq_getElem?_getD, List.getElem?_eq_getElem h]
  rfl
theorem ix_sign {l : List Nat} {k : Nat} {H : Hp} {Q : VK} (hl : l.length ≤ 100000) (h : k < l.length) (q : Q (.str (S [l.getD k 0])) H) : rIxS (.str (S l)) (.int (k : Int)) H Q :=
  ⟨S l, (k : Int), l.getD k 0, rfl, rfl, sz_le (by rw [SX.S_len]; omega), at_get h, q⟩
theorem len_S {K : PySem.W.Frag} {H : Hp} {l : List Nat} (hl : l.length ≤ 100000) : LenV K (.str (S l)) H (l.length : Nat) := by
  have hz := SX.S_len l
  refine ⟨?_, ?_⟩
  · rw [hz]
    exact sz_le (by omega)
  · rw [hz]
def spAsc : Sp := fun vs H Q _ => ∃ l : List Nat, vs = [.str (S l)] ∧ l.length ≤ 100000 ∧ ∀ H', Same H H' → Q (.bl (ascB l)) H'
section
variable {P : Program} {w : World} {K : PySem.W.Frag} {mg : Str → Option Value} {base : Heap}
theorem ok_is_ascending {f : Addr} {fd : FuncData} (F : Fun K "is_ascending" "is_ascending" s_is_ascending f fd) (B : Blt mg) :
    FnOk P w K mg base CX0 1 f fd ["parts"] spAsc := by
  refine F.ok sc_is_ascending (fun vs H Q E h => ?_) (fun cdv A outer s H vs Q E hr h => ?_)
  · obtain ⟨l, rfl, _⟩ := h
    rfl
  · obtain ⟨l, rfl, hl, q⟩ := h
    have hz : (S l).length = l.length := SX.S_len l
    refine ⟨_, pss_one (ps_ret (pe_callB (cr_all rfl) (by rfl) B.all (by decide +kernel) (pa_cons (pe_lc (own := [("k", 1)]) (g := gName 1) (tt := tYes) rfl sc_is_ascending.nd
      (pi_range1 (by rfl) B.range (pa_cons (pe_op op_sub (pe_callB call_len (by rfl) B.len (by decide +kernel) (pa_cons (pv 0) pa_nil)) pe_int) pa_nil))
      (blkOk_by (own := [("k", 1)]) (N := ["parts", "k"]) (sc := defScope s_is_ascending) (by decide +kernel)) (fun _ _ _ _ _ => pg_name (i := 1) sc_is_ascending.nd rfl (Or.inl rfl)) (fun _ _ _ _ _ => pts_nil)
      (fun _ _ _ _ _ => pe_cmpR op_lt_str (pe_ix ix_str (pv 0) (pv 1) (fun _ _ => rfl)) (pe_ix ix_str (pv 0) (pe_op op_add (pv 1) pe_int) (fun _ _ => rfl)) (nomark _))) pa_nil))), ?_⟩
    have e1 : ((l.length : Int) - 1).toNat = l.length - 1 := by omega
    unfold tRet tCB tCons
    refine lc_map (n := l.length - 1) walk_rng (fun k => .bl (decide (l.getD k 0 < l.getD (k + 1) 0))) (by omega) (fun R k => ?_) (fun _ _ _ _ _ => trivial) ?_ ?_
    · refine ⟨.str (S l), rfl, .str (S l), l.length, rfl, len_S hl, _, _, rfl, rfl, (l.length : Int) - 1, rfl, by omega, by omega, ?_⟩
      rw [e1]
      exact k _ (Same.refl _) trivial
    · rintro i x H' H'' R hi sm ⟨rfl, rfl⟩ k
      refine ⟨rfl, .str (S l), rfl, .int (i : Nat), rfl, ?_⟩
      refine ix_sign hl (by omega) ⟨.str (S l), rfl, .int (i : Nat), rfl, _, _, rfl, rfl, ?_⟩
      refine ix_sign (k := i + 1) hl (by omega) ?_
      refine ⟨S [l.getD i 0], S [l.getD (i + 1) 0], rfl, rfl, ?_⟩
      rw [lt_sign]
      exact k _ (Same.refl _)
    · intro D H' hD sm hl'
      refine ⟨D, (List.range (l.length - 1)).map fun k => decide (l.getD k 0 < l.getD (k + 1) 0), rfl, SqL.of ?_, q H' sm⟩
      rw [List.map_map]
      exact hl'
end
end Lw

namespace Lw
open PySem PySem.Spec PyProof.Rows L2 Mq
open SX (S)
def alpha : List Nat := List.range' 97 26
theorem alpha_is : ("abcdefghijklmnopqrstuvwxyz" : Str) = S alpha := by decide +kernel
def inB (c : Nat) (l : List Nat) : Bool := decide (c ∈ l)
def allB (l s : List Nat) : Bool := ((List.range l.length).map fun k => inB (l.getD k 0) s).all id
def lettersB (l : List Nat) : Bool := !decide (l = []) && (ascB l && allB l alpha)
/-- a value of a known kind that is no text -/
def NoStr (K : PySem.W.Frag) (H : Hp) (v : V) : Prop := ∃ a, TyX K H v (.type a) ∧ a ∈ ["NoneType", "bool", "int", "str", "list", "tuple", "dict"] ∧ a ≠ "str"
theorem kit_no {K : PySem.W.Frag} {a : String} (m : a ∈ ["NoneType", "bool", "int", "str", "list", "tuple", "dict"]) (n : a ≠ "str") : PySem.W.kitOne K (.type a) (.type "str") = some false :=
  kit_ty (by rw [kit_known a "str" m (by simp), decide_eq_false n])
theorem kit_self {K : PySem.W.Frag} : PySem.W.kitOne K (.type "str") (.type "str") = some true := kit_ty (by decide +kernel)
theorem str_is_nil (l : List Nat) : decide (V.str (S l) = V.str "") = decide (l = []) := by
  refine decide_eq_decide.mpr ⟨fun h => ?_, fun h => by rw [h]; rfl⟩
  have h1 : S l = S [] := V.str.inj h
  exact SX.S_inj h1
theorem walk_S (l : List Nat) : Walk (Its (S l)) l.length (fun _ => True) (YFn fun i => .str (S [l.getD i 0])) := by
  refine walk_str.mono (fun _ h => h) (fun i H x H' hi _ y => ⟨y.1, ?_⟩)
  obtain ⟨_, c, hc, rfl⟩ := y
  have hc' : l[i]? = some c := by simpa using hc
  show V.str (S [c]) = V.str (S [l.getD i 0])
  rw [List.getD_eq_getElem?_getD, hc']
  rfl
/-- what a name is looked up in: letters, signs -/
def spLetters (K : PySem.W.Frag) : Sp := fun vs H Q _ => ∃ v, vs = [v] ∧
  ((∃ l : List Nat, v = .str (S l) ∧ l.length ≤ 100000 ∧ ∀ H', Same H H' → Q (.bl (lettersB l)) H') ∨ (NoStr K H v ∧ ∀ H', Same H H' → Q (.bl false) H'))
def spWord (K : PySem.W.Frag) : Sp := fun vs H Q _ => ∃ (s : List Nat) (v : V), vs = [.str (S s), v] ∧
  ((∃ l : List Nat, v = .str (S l) ∧ l.length ≤ 100000 ∧ ∀ H', Same H H' → Q (.bl (allB l s)) H') ∨ (NoStr K H v ∧ ∀ H', Same H H' → Q (.bl false) H'))
section
variable {P : Program} {w : World} {K : PySem.W.Frag} {mg : Str → Option Value} {base : Heap}
theorem ok_is_letters {f fA : Addr} {fd fdA : FuncData} (F : Fun K "is_letters" "is_letters" s_is_letters f fd) (B : Blt mg)
    (FA : Fun K "is_ascending" "is_ascending" s_is_ascending fA fdA) (gA : mg "is_ascending" = some (.ref fA)) (bA : Binds K fdA ["parts"] [])
    (al : ∃ t, mg "ALPHABET" = some (.str "abcdefghijklmnopqrstuvwxyz" t)) :
    FnOk P w K mg base CX0 2 f fd ["thing"] (spLetters K) := by
  have GA : FnOk P w K mg base CX0 1 fA fdA ["parts"] spAsc := ok_is_ascending FA B
  obtain ⟨ta, al⟩ := al
  refine F.ok sc_is_letters (fun vs H Q E h => ?_) (fun cdv A outer s H vs Q E hr h => ?_)
  · obtain ⟨v, rfl, _⟩ := h
    rfl
  · obtain ⟨v, rfl, h⟩ := h
    refine ⟨_, pss_cons (ps_if (PW.pt (pw_or (pt_not (pt_val (pe_callB call_isi (by rfl) B.isi (by decide +kernel) (pa_cons (pv 0) (pa_cons (pe_bltn (v := .ty "str") (by rfl) B.str (by decide +kernel) rfl) pa_nil)))))
        (pw_or1 (pt_cmpR op_eq (pv 0) pe_str (nomark _))))) (pss_one (ps_ret pe_bl)) pss_nil)
      (pss_one (ps_ret (pe_and (pe_call GA (hr.mono (by decide)) (by rfl) gA FA.kp bA .nil pass0 (pa_cons (pv 0) pa_nil))
        (pe_one (pe_callB (cr_all rfl) (by rfl) B.all (by decide +kernel) (pa_cons (pe_lc (own := [("letter", 1)]) (g := gName 1) (tt := tYes) rfl sc_is_letters.nd (pi_str (pv 0))
          (blkOk_by (own := [("letter", 1)]) (N := ["thing", "letter"]) (sc := defScope s_is_letters) (by decide +kernel)) (fun _ _ _ _ _ => pg_name (i := 1) sc_is_letters.nd rfl (Or.inl rfl)) (fun _ _ _ _ _ => pts_nil)
          (fun _ _ _ _ _ => pe_cmpR op_in_sign (pv 1) (pe_glob (v := .str "abcdefghijklmnopqrstuvwxyz") rfl al ⟨_, rfl⟩) rfl)) pa_nil)))))), ?_⟩
    rcases h with ⟨l, rfl, hl, q⟩ | ⟨hn, q⟩
    · refine ⟨.str (S l), rfl, .str (S l), .ty "str", _, _, true, rfl, .ty _, .base (.str _), kit_self, true, rfl, iteF ⟨.str (S l), rfl, rfl, _, rfl, ?_⟩⟩
      rw [str_is_nil]
      cases e : decide (l = []) with
      | true =>
        refine iteT ?_
        have q' := q H (Same.refl H)
        unfold lettersB at q'
        rw [e] at q'
        exact q'
      | false =>
        refine iteF ⟨.str (S l), rfl, l, rfl, hl, fun H1 s1 => ⟨_, rfl, ?_⟩⟩
        have q' : ∀ H', Same H H' → Q (.bl (ascB l && allB l alpha)) H' := fun H' sm => by
          have z := q H' sm
          unfold lettersB at z
          rw [e] at z
          exact z
        cases ea : ascB l with
        | false =>
          refine iteF ?_
          have z := q' H1 s1
          rw [ea] at z
          exact z
        | true =>
          refine iteT ?_
          rw [ea] at q'
          unfold tCB tCons
          refine lc_map (n := l.length) (walk_S l) (fun k => .bl (inB (l.getD k 0) alpha)) (by omega) (fun R k => ⟨_, rfl, S l, rfl, k _ (Same.refl _) trivial⟩) (fun _ _ _ _ _ => trivial) ?_ ?_
          · rintro i x H' H'' R hi sm ⟨rfl, rfl⟩ k
            refine ⟨rfl, .str (S [l.getD i 0]), rfl, ?_⟩
            rw [alpha_is]
            exact ⟨l.getD i 0, S alpha, rfl, rfl, k _ (Same.refl _)⟩
          · intro D H' hD sm hl'
            refine ⟨D, (List.range l.length).map fun k => inB (l.getD k 0) alpha, rfl, SqL.of ?_, q' H' (s1.trans sm)⟩
            rw [List.map_map]
            exact hl'
    · obtain ⟨a, t, m, n⟩ := hn
      exact ⟨v, rfl, v, .ty "str", .type a, _, false, rfl, .ty _, t, kit_no m n, false, rfl, iteT (iteT (q H (Same.refl H)))⟩
theorem ok_is_word {f : Addr} {fd : FuncData} (F : Fun K "is_word" "is_word" s_is_word f fd) (B : Blt mg) : FnOk P w K mg base CX0 1 f fd ["letters", "thing"] (spWord K) := by
  refine F.ok sc_is_word (fun vs H Q E h => ?_) (fun cdv A outer s H vs Q E hr h => ?_)
  · obtain ⟨s, v, rfl, _⟩ := h
    rfl
  · obtain ⟨sg, v, rfl, h⟩ := h
    refine ⟨_, pss_one (ps_ret (pe_and (pe_callB call_isi (by rfl) B.isi (by decide +kernel) (pa_cons (pv 1) (pa_cons (pe_bltn (v := .ty "str") (by rfl) B.str (by decide +kernel) rfl) pa_nil)))
      (pe_one (pe_callB (cr_all rfl) (by rfl) B.all (by decide +kernel) (pa_cons (pe_lc (own := [("letter", 2)]) (g := gName 2) (tt := tYes) rfl sc_is_word.nd (pi_str (pv 1))
        (blkOk_by (own := [("letter", 2)]) (N := ["letters", "thing", "letter"]) (sc := defScope s_is_word) (by decide +kernel)) (fun _ _ _ _ _ => pg_name (i := 2) sc_is_word.nd rfl (Or.inl rfl)) (fun _ _ _ _ _ => pts_nil)
        (fun _ _ _ _ _ => pe_cmpR op_in_sign (pv 2) (pv 0) rfl)) pa_nil))))), ?_⟩
    rcases h with ⟨l, rfl, hl, q⟩ | ⟨hn, q⟩
    · refine ⟨.str (S l), rfl, .str (S l), .ty "str", _, _, true, rfl, .ty _, .base (.str _), kit_self, true, rfl, iteT ?_⟩
      unfold tCB tCons
      refine lc_map (n := l.length) (walk_S l) (fun k => .bl (inB (l.getD k 0) sg)) (by omega) (fun R k => ⟨_, rfl, S l, rfl, k _ (Same.refl _) trivial⟩) (fun _ _ _ _ _ => trivial) ?_ ?_
      · rintro i x H' H'' R hi sm ⟨rfl, rfl⟩ k
        exact ⟨rfl, .str (S [l.getD i 0]), rfl, .str (S sg), rfl, l.getD i 0, S sg, rfl, rfl, k _ (Same.refl _)⟩
      · intro D H' hD sm hl'
        refine ⟨D, (List.range l.length).map fun k => inB (l.getD k 0) sg, rfl, SqL.of ?_, q H' sm⟩
        rw [List.map_map]
        exact hl'
    · obtain ⟨a, t, m, n⟩ := hn
      exact ⟨v, rfl, v, .ty "str", .type a, _, false, rfl, .ty _, t, kit_no m n, false, rfl, iteF (q H (Same.refl H))⟩
theorem ok_is_web {f fW : Addr} {fd fdW : FuncData} (F : Fun K "is_web" "is_web" s_is_web f fd) (B : Blt mg)
    (FW : Fun K "is_word" "is_word" s_is_word fW fdW) (gW : mg "is_word" = some (.ref fW)) (bW : Binds K fdW ["letters", "thing"] []) :
    FnOk P w K mg base CX0 2 f fd ["letters", "thing"] (spWord K) := by
  have GW : FnOk P w K mg base CX0 1 fW fdW ["letters", "thing"] (spWord K) := ok_is_word FW B
  refine F.ok sc_is_web (fun vs H Q E h => ?_) (fun cdv A outer s H vs Q E hr h => ?_)
  · obtain ⟨s, v, rfl, _⟩ := h
    rfl
  · have h' := h
    obtain ⟨sg, v, rfl, _⟩ := h'
    exact ⟨_, pss_one (ps_ret (pe_call GW (hr.mono (by decide)) (by rfl) gW FW.kp bW .nil pass0 (pa_cons (pv 0) (pa_cons (pv 1) pa_nil)))), _, rfl, _, rfl, h⟩
end
end Lw

namespace Lw
open PySem PySem.Spec PyProof.Rows L2 Mq
open SX (S)
theorem ifF {c : Bool} {p q : Prop} (h : c = false) (hq : q) : (if c = true then p else q) := by rw [h]; exact hq
theorem ifT {c : Bool} {p q : Prop} (h : c = true) (hp : p) : (if c = true then p else q) := by rw [h]; exact hp
theorem len_tup {K : PySem.W.Frag} {H : Hp} {a : Addr} {xs : List V} (h : SqT K H a xs) : LenV K (.ref a) H xs.length := Or.inr ⟨xs, h, rfl⟩
theorem sql_mv {K : PySem.W.Frag} {H H' : Hp} {a : Addr} {xs : List V} (e : Same H H') (h : SqL K H a xs) : SqL K H' a xs := by
  rcases h with (h | ⟨o, h⟩) | h
  · exact Or.inl (Or.inl (e _ _ h))
  · exact Or.inl (Or.inr ⟨o, e _ _ h⟩)
  · exact Or.inr h
theorem ps_dead {X : Cx} {st : Stmt} : PS X st (fun _ _ _ => False) := ⟨fun _ _ _ _ _ _ h => h.elim⟩
theorem pos_of {α : Type} {l : List α} (h : l ≠ []) : 0 < l.length := by
  cases l with
  | nil => exact (h rfl).elim
  | cons a l => exact Nat.zero_lt_succ _
theorem allB_of {sg w : List Nat} (h : ∀ c ∈ w, c ∈ sg) : allB w sg = true := by
  unfold allB
  rw [List.all_map, List.all_eq_true]
  intro k hk
  have hk' := List.mem_range.mp hk
  refine decide_eq_true (h _ ?_)
  rw [List.getD_eq_getElem?_getD, List.getElem?_eq_getElem hk']
  exact List.getElem_mem hk'
def wordOk (sg w : List Nat) : Prop := (∀ c ∈ w, c ∈ sg) ∧ w.length ≤ 1000
end Lw

namespace Lw
open PySem PySem.Spec PyProof.Rows L2 Mq
open SX (S)
/-! ### the deck -/
def deckKv (c : Addr) (m : Int) (t : Nat) : List (Key × V) := [(.inr "left", .ref c), (.inr "mixed", .int m), (.inr "lap", .int (t : Nat))]
structure DeckAt (D C : Addr) (T : Nat) (H : Hp) : Prop where
  ex : ∃ (m : Int) (t : Nat) (js : List Int), H D = some (.dK (deckKv C m t)) ∧ H C = some (.lst (js.map V.int)) ∧ js.length ≤ 100 ∧ t ≤ T
def Off (D C : Addr) (H H' : Hp) : Prop := ∀ b o, b ≠ D → b ≠ C → H b = some o → H' b = some o
theorem Off.refl (D C : Addr) (H : Hp) : Off D C H H := fun _ _ _ _ e => e
theorem Off.trans {D C : Addr} {H H' H'' : Hp} (a : Off D C H H') (b : Off D C H' H'') : Off D C H H'' := fun x o h1 h2 e => b x o h1 h2 (a x o h1 h2 e)
theorem Off.same {D C : Addr} {H H' : Hp} (e : Same H H') : Off D C H H' := fun b o _ _ h => e b o h
theorem DeckAt.same {D C : Addr} {T : Nat} {H H' : Hp} (h : DeckAt D C T H) (e : Same H H') : DeckAt D C T H' := let ⟨m, t, js, a, b, c, d⟩ := h.ex; ⟨m, t, js, e _ _ a, e _ _ b, c, d⟩
theorem DeckAt.mono {D C : Addr} {T T' : Nat} {H : Hp} (h : DeckAt D C T H) (e : T ≤ T') : DeckAt D C T' H := let ⟨m, t, js, a, b, c, d⟩ := h.ex; ⟨m, t, js, a, b, c, Nat.le_trans d e⟩
theorem DeckAt.ne {D C : Addr} {T : Nat} {H : Hp} (h : DeckAt D C T H) : C ≠ D := by
  obtain ⟨m, t, js, a, b, c, d⟩ := h.ex
  rintro rfl
  rw [a] at b
  cases b
/-- what is no list and no dict is none of the deck's -/
theorem Off.at {D C : Addr} {T : Nat} {H H' : Hp} {a : Addr} {o : HO} (f : Off D C H H') (k : DeckAt D C T H) (h : H a = some o) (n : (∀ xs, o ≠ .lst xs) ∧ ∀ kvs, o ≠ .dK kvs) : H' a = some o := by
  obtain ⟨m, t, js, x, y, _, _⟩ := k.ex
  refine f a o ?_ ?_ h
  · rintro rfl
    rw [x] at h
    cases h
    exact n.2 _ rfl
  · rintro rfl
    rw [y] at h
    cases h
    exact n.1 _ rfl
theorem Off.tup {K : PySem.W.Frag} {D C : Addr} {T : Nat} {H H' : Hp} {a : Addr} {xs : List V} (f : Off D C H H') (k : DeckAt D C T H) (h : SqT K H a xs) : SqT K H' a xs := by
  rcases h with (h | ⟨o, h⟩) | h
  · exact Or.inl (Or.inl (f.at k h ⟨(fun _ z => nomatch z), (fun _ z => nomatch z)⟩))
  · exact Or.inl (Or.inr ⟨o, f.at k h ⟨(fun _ z => nomatch z), (fun _ z => nomatch z)⟩⟩)
  · exact Or.inr h
theorem dp_ints' {K : PySem.W.Frag} {H : Hp} : ∀ js : List Int, DpAll K H (js.map V.int) (js.map PyData.int)
  | [] => .nil
  | t :: ts => .cons (.int _) (dp_ints' ts)
theorem lay_ints' (js : List Int) : PyData.canLayAll0 (js.map PyData.int) = true ∧ PyData.depthAll (js.map PyData.int) = 0 := by
  induction js with
  | nil => exact ⟨rfl, rfl⟩
  | cons t ts ih =>
    refine ⟨ih.1, ?_⟩
    show max 0 _ = 0
    rw [ih.2]
    rfl
theorem shaped_ints (js : List Int) : SeqAt.shaped (.list (js.map PyData.int)) = true := by
  unfold SeqAt.shaped
  obtain ⟨a, b⟩ := lay_ints' js
  rw [show (PyData.list (js.map PyData.int)).canLay0 = true from a]
  have : (PyData.list (js.map PyData.int)).depth ≤ 64 := by
    show PyData.depthAll _ + 1 ≤ 64
    omega
  rw [decide_eq_true this]
  rfl
def spDraw : Sp := fun vs H Q _ => ∃ (D C : Addr) (T b : Nat), vs = [.ref D, .int (b : Nat)] ∧ DeckAt D C T H ∧ T ≤ 1000000 ∧ 0 < b ∧ b ≤ 1000 ∧
  ∀ H' (r : Nat), r < b → DeckAt D C (T + 1) H' → Off D C H H' → Q (.int (r : Nat)) H'
theorem fmod_nat (i : Int) {b : Nat} (h : 0 < b) : ∃ r : Nat, i.fmod (b : Int) = (r : Nat) ∧ r < b := by
  have h1 : 0 ≤ i.fmod (b : Int) := Int.fmod_nonneg_of_pos i (by omega)
  have h2 : i.fmod (b : Int) < b := Int.fmod_lt_of_pos i (by omega)
  exact ⟨(i.fmod b).toNat, by omega, by omega⟩
theorem bound_mod (i : Int) : -(2 ^ 64) < i.fmod 2147483647 ∧ i.fmod 2147483647 < 2 ^ 64 := by
  obtain ⟨r, e, l⟩ := fmod_nat i (b := 2147483647) (by decide)
  have e' : i.fmod 2147483647 = (r : Nat) := e
  rw [e']
  omega
theorem mod_fin {b : Nat} (h : 0 < b) (i : Int) {H : Hp} {Q : VK} (k : ∀ r : Nat, r < b → Q (.int (r : Nat)) H) : Q (.int (i.fmod (b : Nat))) H := by
  obtain ⟨r, e, l⟩ := fmod_nat i h
  rw [e]
  exact k r l
section
variable {P : Program} {w : World} {K : PySem.W.Frag} {mg : Str → Option Value} {base : Heap}
theorem ok_draw {f : Addr} {fd : FuncData} (F : Fun K "_law_draw" "_law_draw" s__law_draw f fd) (B : Blt mg) :
    FnOk P w K mg base CX0 1 f fd ["_law_deck_here", "_law_many"] spDraw := by
  refine F.ok sc__law_draw (fun vs H Q E h => ?_) (fun cdv A outer s H vs Q E hr h => ?_)
  · obtain ⟨_, _, _, _, rfl, _⟩ := h
    rfl
  · obtain ⟨D, C, T, b, rfl, hdk, hT, hb0, hb1, q⟩ := h
    have hu : (A.deeper (envOfC "_law_draw" (defScope s__law_draw) s.heap.objs.size f cdv)).units + 64 < cLine := by
      have := hr.units
      omega
    have hu1 : (A.deeper (envOfC "_law_draw" (defScope s__law_draw) s.heap.objs.size f cdv)).units + 1 < cLine := by omega
    refine ⟨_, (pss_cons (ps_if (pt_cmpR (op_neD hu) (pe_dget hu1 (pv 0) pe_str (fun _ _ => rfl)) (pe_ls pa_nil) (nomark _)) (pss_cons (ps_set (i := 2) sc__law_draw.nd rfl (Or.inl rfl) (pe_callTy call_int1 (by rfl) B.int (by decide +kernel) (pa_cons (pe_bm0 PySem.F.plainAttrs_list PySem.F.slot_list_pop PySem.F.type_list_pop mt_pop (pe_dget hu1 (pv 0) pe_str (fun _ _ => rfl))) pa_nil)))
        (pss_cons (ps_if (pt_cmpR op_ge (pv 2) (pv 1) (nomark _)) (pss_one (ps_expr (pe_bm PySem.F.plainAttrs_list PySem.F.slot_list_append PySem.F.type_list_append mt_append (pe_dget hu1 (pv 0) pe_str (fun _ _ => rfl)) (pa_cons (pe_op op_fdivN (pv 2) (pv 1)) pa_nil)))) pss_nil)
        (pss_one (ps_ret (pe_op op_modN (pv 2) (pv 1)))))) pss_nil)
      (pss_cons (ps_set (i := 3) sc__law_draw.nd rfl (Or.inl rfl) (pe_op op_add (pe_dget hu1 (pv 0) pe_str (fun _ _ => rfl)) pe_int))
      (pss_cons (ps_dput hu1 (pv 0) pe_str (pv 3) rfl)
      (pss_cons (ps_set (i := 4) sc__law_draw.nd rfl (Or.inl rfl) (pe_op op_modN (pe_callTy call_int1 (by rfl) B.int (by decide +kernel) (pa_cons (pe_op op_mul (pe_callTy call_int1 (by rfl) B.int (by decide +kernel) (pa_cons (pe_op op_add (pe_op op_add (pe_dget hu1 (pv 0) pe_str (fun _ _ => rfl)) (pe_op op_mul (pe_op op_mul pe_int (pv 3)) (pv 3))) pe_int) pa_nil)) pe_int) pa_nil)) pe_int))
      (pss_cons (ps_set (i := 4) sc__law_draw.nd rfl (Or.inl rfl) (pe_op op_modN (pe_callTy call_int1 (by rfl) B.int (by decide +kernel) (pa_cons (pe_op op_add (pe_op op_mul (pv 4) (pv 4)) (pe_op op_mul pe_int (pv 3))) pa_nil)) pe_int))
      (pss_one (ps_ret (pe_op op_modN (pe_op op_fdivN (pe_op op_modN (pe_callTy call_int1 (by rfl) B.int (by decide +kernel) (pa_cons (pe_op op_mul (pv 4) pe_int) pa_nil)) pe_int) pe_int) (pv 1))))))))), ?_⟩
    obtain ⟨m, t, js, hD, hC, hjs, ht⟩ := hdk.ex
    have ne := hdk.ne
    refine ⟨_, rfl, D, _, rfl, (DGet.k (k := .inr "left") hD : DGet H D (.str "left") (some (.ref C))), sz_le (n := 0) (by decide), fun p hp _ => ?_⟩
    have sp1 : Same H (upd H p (.lst [])) := same_new hp
    refine ⟨.list (js.map PyData.int), .list [], .lst (SqL.of (sp1 _ _ hC)) (dp_ints' js), .lst (SqL.of upd_same) .nil, shaped_ints js, by decide +kernel, _, rfl, ?_⟩
    have hD2 := sp1 _ _ hD
    have hC2 := sp1 _ _ hC
    have o2 : Off D C H (upd H p (.lst [])) := Off.same sp1
    generalize upd H p (.lst []) = H2 at hD2 hC2 o2 ⊢
    rcases List.eq_nil_or_concat js with rfl | ⟨js', j, rfl⟩
    · refine ifF rfl ?_
      have e : ((t : Nat) : Int) + 1 = ((t + 1 : Nat) : Int) := by omega
      have eH : upd H2 D (.dK (deckKv C m (t + 1))) = upd H2 D (.dK (putK (deckKv C m t) (.inr "lap") (.int (((t : Nat) : Int) + 1)))) := by
        rw [e]
        rfl
      have o3 : Off D C H (upd H2 D (.dK (deckKv C m (t + 1)))) := o2.trans fun x o h1 h2 h => (upd_ne h1).trans h
      have hD3 : upd H2 D (.dK (deckKv C m (t + 1))) D = some (.dK (deckKv C m (t + 1))) := upd_same
      have hC3 : upd H2 D (.dK (deckKv C m (t + 1))) C = some (.lst []) := (upd_ne ne).trans hC2
      refine ⟨_, rfl, D, .int (t : Nat), rfl, (DGet.k (k := .inr "lap") hD2 : DGet H2 D (.str "lap") (some (.int (t : Nat)))), _, _, rfl, rfl, ?_⟩
      refine ⟨_, rfl, _, rfl, D, upd H2 D (.dK (deckKv C m (t + 1))), rfl, Or.inl ⟨deckKv C m t, .inr "lap", hD2, rfl, sz_lt (by show 3 ≤ _; decide), eH⟩, ?_⟩
      generalize upd H2 D (.dK (deckKv C m (t + 1))) = H3 at o3 hD3 hC3 ⊢
      have gM : DGet H3 D (.str "mixed") (some (.int m)) := DGet.k (k := .inr "mixed") hD3
      have cT : -(2 ^ 64) < (((t : Nat) : Int) + 1) ∧ (((t : Nat) : Int) + 1) < 2 ^ 64 := by omega
      refine ⟨_, rfl, D, _, rfl, gM, _, rfl, _, _, rfl, rfl, Or.inl (by decide), _, rfl, _, _, rfl, rfl, Or.inr cT, _, _, rfl, rfl, _, _, rfl, rfl, Or.inl ⟨_, rfl, _, _, rfl, rfl, Or.inr (by decide), Or.inl ⟨_, rfl, _, _, rfl, rfl, (show (2147483647 : Int) ≠ 0 by decide), ?_⟩⟩⟩
      refine ⟨_, rfl, _, rfl, _, _, rfl, rfl, Or.inl (bound_mod _), _, rfl, _, _, rfl, rfl, Or.inl (by decide), _, _, rfl, rfl, Or.inl ⟨_, rfl, _, _, rfl, rfl, (show (2147483579 : Int) ≠ 0 by decide), ?_⟩⟩
      refine ⟨_, rfl, _, _, rfl, rfl, Or.inr (by decide), Or.inl ⟨_, rfl, _, _, rfl, rfl, (show (2147483563 : Int) ≠ 0 by decide), _, _, rfl, rfl, ⟨by decide, by decide⟩, _, rfl, _, _, rfl, rfl, (show ((b : Nat) : Int) ≠ 0 by omega), ?_⟩⟩
      exact mod_fin hb0 _ fun r hr => q H3 r hr ⟨m, t + 1, [], hD3, hC3, by decide, by omega⟩ o3
    · rw [List.concat_eq_append] at *
      refine ifT (by cases js' <;> rfl) ?_
      have hlast : ((js' ++ [j]).map V.int)[((js' ++ [j]).map V.int).length - 1]? = some (.int j) := by simp
      have hdrop : ((js' ++ [j]).map V.int).dropLast = js'.map V.int := by simp
      refine ⟨_, rfl, D, _, rfl, (DGet.k (k := .inr "left") hD2 : DGet H2 D (.str "left") (some (.ref C))), Or.inl ⟨rfl, _, Or.inl (Or.inl hC2)⟩, C, _, _, rfl, rfl, hC2, hlast, ?_⟩
      rw [hdrop]
      have hD3 : upd H2 C (.lst (js'.map V.int)) D = some (.dK (deckKv C m t)) := (upd_ne (Ne.symm ne)).trans hD2
      have hC3 : upd H2 C (.lst (js'.map V.int)) C = some (.lst (js'.map V.int)) := upd_same
      have o3 : Off D C H (upd H2 C (.lst (js'.map V.int))) := o2.trans (fun x o h1 h2 h => (upd_ne h2).trans h)
      generalize upd H2 C (.lst (js'.map V.int)) = H3 at hD3 hC3 o3 ⊢
      have hl' : js'.length + 1 ≤ 100 := by simpa using hjs
      refine Or.inl ⟨_, rfl, ?_⟩
      refine ⟨_, rfl, _, rfl, _, _, rfl, rfl, _, rfl, ite2 (fun hc => ?_) (fun hc => ?_)⟩
      · refine ⟨_, rfl, D, _, rfl, (DGet.k (k := .inr "left") hD3 : DGet H3 D (.str "left") (some (.ref C))), Or.inl ⟨rfl, _, Or.inl (Or.inl hC3)⟩, _, rfl, _, rfl, _, _, rfl, rfl, ⟨by omega, by omega⟩, C, _, _, rfl, rfl, hC3, sz_lt (by rw [List.length_map]; omega), ?_⟩
        have hD4 : upd H3 C (.lst (js'.map V.int ++ [.int (j.fdiv (b : Nat))])) D = some (.dK (deckKv C m t)) := (upd_ne (Ne.symm ne)).trans hD3
        have hC4 : upd H3 C (.lst (js'.map V.int ++ [.int (j.fdiv (b : Nat))])) C = some (.lst ((js' ++ [j.fdiv (b : Nat)]).map V.int)) := upd_same.trans (by rw [List.map_append]; rfl)
        have o4 : Off D C H (upd H3 C (.lst (js'.map V.int ++ [.int (j.fdiv (b : Nat))]))) := o3.trans (fun x o h1 h2 h => (upd_ne h2).trans h)
        refine ⟨_, rfl, _, rfl, _, _, rfl, rfl, (show ((b : Nat) : Int) ≠ 0 by omega), ?_⟩
        exact mod_fin hb0 _ fun r hr => q _ r hr ⟨m, t, _, hD4, hC4, by rw [List.length_append]; exact hl', by omega⟩ o4
      · refine ⟨_, rfl, _, rfl, _, _, rfl, rfl, (show ((b : Nat) : Int) ≠ 0 by omega), ?_⟩
        exact mod_fin hb0 _ fun r hr => q _ r hr ⟨m, t, _, hD3, hC3, by omega, by omega⟩ o3
end
end Lw

namespace Lw
open PySem PySem.Spec PyProof.Rows L2 Mq
open SX (S)
def spDeck (K : PySem.W.Frag) : Sp := fun vs H Q _ => ∃ (a : Addr) (ns : List Int), vs = [.ref a] ∧ SqL K H a (ns.map V.int) ∧ ns.length ≤ 63 ∧
  ∀ H' D C, Same H H' → DeckAt D C 0 H' → Q (.ref D) H'
def spPick : Sp := fun vs H Q _ => ∃ (D C : Addr) (T : Nat) (x : V), vs = [.ref D, x] ∧ DeckAt D C T H ∧ T ≤ 1000000 ∧
  ((∃ l : List Nat, x = .str (S l) ∧ 0 < l.length ∧ l.length ≤ 1000 ∧ ∀ H' c, c ∈ l → DeckAt D C (T + 1) H' → Off D C H H' → Q (.str (S [c])) H') ∨
   ∃ (p : Addr) (xs : List V), x = .ref p ∧ H p = some (.lst xs) ∧ p ≠ C ∧ 0 < xs.length ∧ xs.length ≤ 1000 ∧ ∀ H' v, v ∈ xs → DeckAt D C (T + 1) H' → Off D C H H' → Q v H')
section
variable {P : Program} {w : World} {K : PySem.W.Frag} {mg : Str → Option Value} {base : Heap}
theorem ok_deck {f : Addr} {fd : FuncData} (F : Fun K "_law_deck" "_law_deck" s__law_deck f fd) (B : Blt mg) :
    FnOk P w K mg base CX0 1 f fd ["_law_script"] (spDeck K) := by
  refine F.ok sc__law_deck (fun vs H Q E h => ?_) (fun cdv A outer s H vs Q E hr h => ?_)
  · obtain ⟨_, _, rfl, _⟩ := h
    rfl
  · obtain ⟨a, ns, rfl, ha, hn, q⟩ := h
    refine ⟨_, (pss_cons (ps_set (i := 1) sc__law_deck.nd rfl (Or.inl rfl) pe_int)
      (pss_cons (ps_for PassesOwn.never rfl (pi_list (pe_slice sl_list (pv 0) po_none (po_some pe_int))) (pg_name (i := 2) sc__law_deck.nd rfl (Or.inl rfl))
        (pss_one (ps_set (i := 1) sc__law_deck.nd rfl (Or.inl rfl) (pe_op op_modN (pe_callTy call_int1 (by rfl) B.int (by decide +kernel) (pa_cons (pe_op op_add (pe_op op_add (pe_op op_mul (pv 1) pe_int) (pe_op op_modN (pe_callTy call_int1 (by rfl) B.int (by decide +kernel) (pa_cons (pv 2) pa_nil)) pe_int)) pe_int) pa_nil)) pe_int))))
      (pss_one (ps_ret (pe_disp (pps_cons pe_str (pe_revL (pe_lc (own := [("_law_cell", 2)]) (g := gName 2) rfl sc__law_deck.nd (pi_list (pe_slice sl_list (pv 0) po_none (po_some pe_int))) (blkOk_by (own := [("_law_cell", 2)]) (N := ["_law_script", "_law_mixed", "_law_cell"]) (sc := defScope s__law_deck) (by decide +kernel)) (fun _ _ _ _ _ => pg_name (i := 2) sc__law_deck.nd rfl (Or.inl rfl)) (fun _ _ _ _ _ => pts_one (pt_cmpR op_ge (pv 2) (pe_op op_pow pe_int pe_int) (nomark _))) (fun _ _ _ _ _ => (pv 2)))) (pps_cons pe_str (pv 1) (pps_cons pe_str pe_int pps_nil))) (by rfl) (by rfl) (fun z => by cases z) (by decide)))))), ?_⟩
    obtain ⟨ms, hms, hml⟩ : ∃ ms : List Int, cutV (ns.map V.int) none (some 63) = ms.map V.int ∧ ms.length ≤ 63 := by
      refine ⟨(ns.drop (HT.sIx (ns.map V.int).length 0 none)).take (HT.sIx (ns.map V.int).length (ns.map V.int).length (some 63) - HT.sIx (ns.map V.int).length 0 none), ?_, ?_⟩
      · unfold cutV
        rw [← List.map_drop, ← List.map_take]
      · rw [List.length_take, List.length_drop]
        omega
    refine ⟨_, rfl, 63, rfl, a, _, rfl, ha, fun p1 hp1 => ?_⟩
    rw [hms]
    have s1 : Same H (upd H p1 (.lst (ms.map V.int))) := same_new hp1
    have z1 : upd H p1 (.lst (ms.map V.int)) p1 = some (.lst (ms.map V.int)) := upd_same
    generalize upd H p1 (.lst (ms.map V.int)) = H1 at s1 z1 ⊢
    refine ⟨p1, rfl, ⟨_, SqL.of z1⟩, ?_⟩
    refine for_list (xs := ms.map V.int) (fun i σ H' => H' = H1 ∧ ∃ (m : Int) (o : Option V), σ = [some (.ref a), some (.int m), o]) ⟨rfl, _, _, rfl⟩ (fun i σ H' _ p => by rw [p.1]; exact SqL.of z1) ?_ ?_
    · rintro i x σ H' hx ⟨rfl, m, o, rfl⟩
      obtain ⟨j, rfl⟩ : ∃ j, x = .int j := by
        rw [List.getElem?_map] at hx
        cases h : ms[i]? with
        | none => rw [h] at hx; cases hx
        | some j => rw [h] at hx; cases hx; exact ⟨j, rfl⟩
      refine ⟨_, rfl, _, _, rfl, rfl, Or.inr (by decide), _, rfl, Or.inl ⟨_, rfl, _, _, rfl, rfl, (show (2147483629 : Int) ≠ 0 by decide), _, _, rfl, rfl, _, _, rfl, rfl, Or.inl ⟨_, rfl, _, _, rfl, rfl, (show (2147483587 : Int) ≠ 0 by decide), rfl, _, _, rfl⟩⟩⟩
    · rintro σ H' ⟨rfl, m, o, rfl⟩
      refine fun p hp => ?_
      have s3 : Same H' (upd H' p (.dK [])) := same_new hp
      have zp : upd H' p (.dK []) p = some (.dK []) := upd_same
      have s03 := s1.trans s3
      generalize upd H' p (.dK []) = H3 at s03 zp ⊢
      refine ⟨_, rfl, 63, rfl, a, _, rfl, sql_mv s03 ha, fun p2 hp2 => ?_⟩
      rw [hms]
      have s4 : Same H3 (upd H3 p2 (.lst (ms.map V.int))) := same_new hp2
      have z4 : upd H3 p2 (.lst (ms.map V.int)) p2 = some (.lst (ms.map V.int)) := upd_same
      have zp := s4 _ _ zp
      have s04 := s03.trans s4
      generalize upd H3 p2 (.lst (ms.map V.int)) = H4 at s04 z4 zp ⊢
      refine ⟨p2, rfl, ⟨_, SqL.of z4⟩, fun L hL => ?_⟩
      refine lc_it (walk_list (K := K) (a := p2) (xs := ms.map V.int)) (fun i H' => Same H4 H' ∧ ∃ ls : List Int, ls.length ≤ i ∧ H' L = some (.lst (ls.map V.int))) ⟨same_new hL, [], Nat.zero_le _, upd_same⟩ (fun i H' _ q => SqL.of (q.1 _ _ z4)) ?_ ?_
      · rintro i x H5 H6 hi ⟨s5, ls, hll, hL5⟩ ⟨rfl, hx⟩
        obtain ⟨j, rfl⟩ : ∃ j, x = .int j := by
          rw [List.getElem?_map] at hx
          cases h : ms[i]? with
          | none => rw [h] at hx; cases hx
          | some j => rw [h] at hx; cases hx; exact ⟨j, rfl⟩
        rw [List.length_map] at hi
        refine ⟨rfl, _, rfl, _, _, rfl, rfl, ⟨by decide, by decide, by decide⟩, _, _, rfl, rfl, _, rfl, ite2 (fun hc => ?_) (fun hc => ?_)⟩
        · refine ⟨_, rfl, _, hL5, sz_lt (by rw [List.length_map]; omega), ?_, ls ++ [j], by rw [List.length_append]; exact Nat.succ_le_succ hll, ?_⟩
          · intro b o e
            rw [upd_ne (ne_of_none e hL)]
            exact s5 b o e
          · rw [upd_same, List.map_append]
            rfl
        · exact ⟨s5, ls, by omega, hL5⟩
      · rintro H5 ⟨s5, ls, hll, hL5⟩
        rw [List.length_map] at hll
        refine ⟨L, _, rfl, SqL.of hL5, fun p3 hp3 => ⟨_, rfl, ?_⟩⟩
        have s6 : Same H5 (upd H5 p3 (.lst (ls.map V.int).reverse)) := same_new hp3
        have zp6 := s6 _ _ (s5 _ _ zp)
        have s06 := (s04.trans s5).trans s6
        have z6 : upd H5 p3 (.lst (ls.map V.int).reverse) p3 = some (.lst (ls.map V.int).reverse) := upd_same
        generalize upd H5 p3 (.lst (ls.map V.int).reverse) = H6 at s06 zp6 z6 ⊢
        refine ⟨zp6, deckKv p3 m 0, rfl, by show 3 ≤ 15; decide, ?_⟩
        have ne : p3 ≠ p := by
          rintro rfl
          rw [z6] at zp6
          cases zp6
        refine q _ p p3 ?_ ⟨m, 0, ls.reverse, upd_same.trans ?_, ?_, by rw [List.length_reverse]; omega, Nat.le_refl _⟩
        · intro b o e
          have e1 := s1 b o e
          rw [upd_ne (ne_of_none e1 hp)]
          exact s06 b o e
        · rfl
        · rw [upd_ne ne, z6, List.map_reverse]
end
end Lw

namespace Lw
open PySem PySem.Spec PyProof.Rows L2 Mq
open SX (S)
section
variable {P : Program} {w : World} {K : PySem.W.Frag} {mg : Str → Option Value} {base : Heap}
theorem ok_pick {f fD : Addr} {fd fdD : FuncData} (F : Fun K "_law_pick" "_law_pick" s__law_pick f fd) (B : Blt mg)
    (FD : Fun K "_law_draw" "_law_draw" s__law_draw fD fdD) (gD : mg "_law_draw" = some (.ref fD)) (bD : Binds K fdD ["_law_deck_here", "_law_many"] []) :
    FnOk P w K mg base CX0 2 f fd ["_law_deck_here", "_law_some"] spPick := by
  have GD : FnOk P w K mg base CX0 1 fD fdD ["_law_deck_here", "_law_many"] spDraw := ok_draw FD B
  refine F.ok sc__law_pick (fun vs H Q E h => ?_) (fun cdv A outer s H vs Q E hr h => ?_)
  · obtain ⟨_, _, _, _, rfl, _⟩ := h
    rfl
  · obtain ⟨D, C, T, x, rfl, hdk, hT, h⟩ := h
    refine ⟨_, (pss_one (ps_ret (pe_ix ix_seq (pv 1) (pe_call GD (hr.mono (by decide)) (by rfl) gD FD.kp bD .nil pass0 (pa_cons (pv 0) (pa_cons (pe_callB call_len (by rfl) B.len (by decide +kernel) (pa_cons (pv 1) pa_nil)) pa_nil))) (fun _ _ => rfl)))), ?_⟩
    rcases h with ⟨l, rfl, h0, h1, q⟩ | ⟨p, xs, rfl, hp, hpC, h0, h1, q⟩
    · refine ⟨_, rfl, _, rfl, _, rfl, _, _, rfl, len_S (by omega), D, C, T, l.length, rfl, hdk, hT, h0, h1, fun H' r hr dk off => ?_⟩
      refine Or.inr (Or.inr ⟨S l, _, l.getD r 0, rfl, rfl, sz_le (by rw [SX.S_len]; omega), at_get hr, ?_⟩)
      refine q H' _ ?_ dk off
      rw [List.getD_eq_getElem?_getD, List.getElem?_eq_getElem hr]
      exact List.getElem_mem hr
    · refine ⟨_, rfl, _, rfl, _, rfl, _, _, rfl, Or.inl ⟨xs, SqL.of hp, rfl⟩, D, C, T, xs.length, rfl, hdk, hT, h0, h1, fun H' r hr dk off => ?_⟩
      have hpD : p ≠ D := by
        rintro rfl
        obtain ⟨_, _, _, e, _⟩ := hdk.ex
        rw [hp] at e
        cases e
      have hp' := off p _ hpD hpC hp
      refine Or.inl ⟨p, xs, _, xs[r], rfl, rfl, SqL.of hp', atI_nat (List.getElem?_eq_getElem hr), q H' _ (List.getElem_mem hr) dk off⟩
end
end Lw

namespace Lw
open PySem PySem.Spec PyProof.Rows L2 Mq
open SX (S)
theorem PT_imp {X : Cx} {e : Expr} {t t' : TT} (h : PT X e t) (i : ∀ σ H Q, t' σ H Q → t σ H Q) : PT X e t' := ⟨fun pins s σ H Q I q => h.run pins s σ H Q I (i σ H Q q)⟩
/-- tuples stay -/
def KpT (K : PySem.W.Frag) (H H' : Hp) : Prop := ∀ a xs, SqT K H a xs → SqT K H' a xs
theorem KpT.trans {K : PySem.W.Frag} {H H' H'' : Hp} (a : KpT K H H') (b : KpT K H' H'') : KpT K H H'' := fun x y h => b x y (a x y h)
theorem KpT.off {K : PySem.W.Frag} {D C : Addr} {T : Nat} {H H' : Hp} (f : Off D C H H') (k : DeckAt D C T H) : KpT K H H' := fun _ _ h => f.tup k h
theorem KpT.same {K : PySem.W.Frag} {H H' : Hp} (e : Same H H') : KpT K H H' := fun _ _ h => Same.tup e h
theorem KpT.lst {K : PySem.W.Frag} {H : Hp} {L : Addr} {xs ys : List V} (h : H L = some (.lst xs)) : KpT K H (upd H L (.lst ys)) := by
  intro a zs hz
  have ne : ∀ {o : HO}, H a = some o → (∀ xs, o ≠ .lst xs) → upd H L (.lst ys) a = some o := by
    intro o e n
    by_cases q : a = L
    · subst q
      rw [h] at e
      cases e
      exact (n _ rfl).elim
    · exact (upd_ne q).trans e
  rcases hz with (hz | ⟨o, hz⟩) | hz
  · exact Or.inl (Or.inl (ne hz fun _ z => nomatch z))
  · exact Or.inl (Or.inr ⟨o, ne hz fun _ z => nomatch z⟩)
  · exact Or.inr hz
end Lw

namespace Mq
open PySem PySem.Spec PyProof.Rows L2
/-! ### the keys of a dict, drawn one by one, whatever they are -/
section
variable {prog : Program} {w : World} {d : Addr} {o : Obj} {es : Array DictEntry} {ep : Nat}
theorem walks_keys {A : Around} (hh : A.handled = none) (I : Addr) (hne : d ≠ I) (hdat : o.data = .dict es ep) :
    Walks prog w A I [I, d] [I] es.size (fun i v => ∃ en, es[i]? = some en ∧ v = en.key) (fun i h => h.IsKeyIter I d i es.size ep ∧ h.get? d = some o) where
  sub := fun b hb => by rw [List.mem_singleton.mp hb]; exact List.mem_cons_self
  frame := fun i h h' st k => ⟨st.1.at fun x e => k I (by simp) x e, k d (by simp) o st.2⟩
  item := fun i s Q E hi st hQ => by
    refine next_key_item st.1 st.2 hdat rfl (en := es[i]) (by simp [hi]) fun h' st' sb => ?_
    refine hQ _ h' s.toks ⟨es[i], by simp [hi], rfl⟩ ⟨st', (sb.2 d hne).trans st.2⟩ fun b x hb e => ?_
    exact (sb.2 b fun z => hb (by rw [z]; exact List.mem_singleton.mpr rfl)).trans e
  done := fun s Q E st hQ => by
    refine next_key_end hh st.1 st.2 hdat rfl (Nat.le_refl _) fun h' eb => hQ h' s.toks fun b x hb e => ?_
    exact eb b x (fun z => hb (by rw [z]; exact List.mem_singleton.mpr rfl)) e
  self := fun i s Q E st h => by
    have t := st.1.typeIs
    refine wpAny_pyIter_slot t F.slot_dict_keyiterator_iter (wpAny_call_entry F.slot_dict_keyiterator_iter t F.entry_dict_keyiterator_iter ?_ (F.args_dict_keyiterator_iter_1 _))
    refine wpAny_pure ⟨.ref I, rfl, "dict_keyiterator", _, t, F.slot_dict_keyiterator_next.lookup, h⟩
theorem src_keys (hd : (d == sysModules) = false) (hx : o.ExactDict) (hdat : o.data = .dict es ep) :
    PySem.W.KdlSrc prog w "dict" d d es.size (fun i v => ∃ en, es[i]? = some en ∧ v = en.key) (fun h => h.get? d = some o) where
  type := fun _ ho => ⟨o, ho, hx.1⟩
  there := fun _ ho => ⟨Heap.lt_size ho, Heap.lt_size ho⟩
  keep := fun _ _ ho k => k d (.inl rfl) o ho
  notList := by decide
  notTuple := by decide
  hint := fun _ _ _ _ ho hq => PySem.W.kdl_hint_dict ⟨o, ho, hx.1⟩ hq
  iter := fun A s hh ho => ⟨_, _, (fun _ _ hq => iter_keys hd ho hx hdat hq), walks_keys hh s.heap.objs.size (Nat.ne_of_lt (Heap.lt_size ho)) hdat,
    ⟨⟨_, Heap.get?_push_size _ rfl, rfl, rfl⟩, Heap.get?_push_of_some _ ho⟩⟩
end
/-! ### sorted(d), d's keys being pairs of texts -/
def txt2 (x : Str × Str) : List (Int ⊕ List Nat) := [.inr x.1.cps.toList, .inr x.2.cps.toList]
/-- ahead as pairs -/
def ltSS (x y : Str × Str) : Bool := (PyProof.Rows.listOrd PyProof.Rows.itemOrd).blt (txt2 x) (txt2 y)
def prOf (H : Hp) (b : Addr) : Str × Str := match H b with
  | some (.tup [.str x, .str y]) => (x, y)
  | _ => ("", "")
def rSortedT : List V → Hp → VK → Prop := fun xs H Q => ∃ (a : Addr) (kvs : List (List Key × V)) (ks : List (Str × Str)), xs = [.ref a] ∧ Rd H a (.dT kvs) ∧ kvs.map (·.1) = ks.map (fun x => [Sum.inr x.1, Sum.inr x.2]) ∧
  ∀ (as qs : List Addr) (p : Addr), as.map (prOf H) = ks → (∀ b ∈ as, H b = some (.tup [.str (prOf H b).1, .str (prOf H b).2])) → qs.Perm as →
    (∀ i j, i ≤ j → j < qs.length → ltSS (prOf H (qs.getD j 0)) (prOf H (qs.getD i 0)) = false) → H p = none → Q (.ref p) (upd H p (.lst (qs.map V.ref)))
theorem key_pair {H : Hp} {b : Addr} {x : Str × Str} (h : H b = some (.tup (([Sum.inr x.1, Sum.inr x.2] : List Key).map kV))) : prOf H b = x ∧ H b = some (.tup [.str (prOf H b).1, .str (prOf H b).2]) := by
  have h' : H b = some (.tup [.str x.1, .str x.2]) := h
  have e : prOf H b = x := by
    unfold prOf
    rw [h']
  rw [e]
  exact ⟨rfl, h'⟩
/-- the keys' own tuples -/
theorem keys_rel {H : Hp} : ∀ {kvs : List (List Key × V)} {xs : List (List Key × Addr × Value)} {ks : List (Str × Str)}, KT H kvs xs → kvs.map (·.1) = ks.map (fun x => [Sum.inr x.1, Sum.inr x.2]) →
    (xs.map fun q => q.2.1).map (prOf H) = ks ∧ ∀ b ∈ xs.map (fun q => q.2.1), H b = some (.tup [.str (prOf H b).1, .str (prOf H b).2])
  | [], [], [], .nil, _ => ⟨rfl, fun b h => by cases h⟩
  | p :: kvs, q :: xs, k :: ks, .cons h t, e => by
    obtain ⟨h1, h2, _⟩ := h
    injection e with e1 e2
    obtain ⟨a, b⟩ := keys_rel t e2
    have e1' : p.1 = [Sum.inr k.1, Sum.inr k.2] := e1
    rw [e1'] at h2
    obtain ⟨c, d⟩ := key_pair h2
    refine ⟨?_, fun x hx => ?_⟩
    · show prOf H q.2.1 :: _ = _
      rw [c, a]
    · rcases List.mem_cons.mp hx with e | hx
      · rw [e]
        exact d
      · exact b x hx
  | [], [], _ :: _, .nil, e => by cases e
  | _ :: _, _ :: _, [], .cons _ _, e => by cases e
def unR : Value → Addr
  | .ref b => b
  | _ => 0
theorem perm_back {l : List Value} {as : List Addr} (h : l.Perm (as.map Value.ref)) : ∃ qs : List Addr, l = qs.map Value.ref ∧ qs.Perm as := by
  refine ⟨l.map unR, ?_, ?_⟩
  · rw [List.map_map]
    have e : ∀ v ∈ l, (Value.ref ∘ unR) v = v := fun v hv => by
      obtain ⟨b, _, rfl⟩ := List.mem_map.mp (h.mem_iff.mp hv)
      rfl
    have e2 : l.map (Value.ref ∘ unR) = l.map id := List.map_congr_left fun v hv => e v hv
    rw [e2, List.map_id]
  · have h2 := h.map unR
    rw [List.map_map] at h2
    have e : as.map (unR ∘ Value.ref) = as := by
      have e3 : as.map (unR ∘ Value.ref) = as.map id := List.map_congr_left fun v _ => rfl
      rw [e3, List.map_id]
    rw [e] at h2
    exact h2
section
variable {X : Cx}
theorem call_sortedT (hcalm : X.calm = true) : CallR X (.builtin "sorted") rSortedT := by
  intro pins s σ H xs us Q I r q
  obtain ⟨a, kvs, ks, rfl, hd, hks, q⟩ := q
  obtain ⟨u, rfl, rx⟩ := vals1 r
  cases rx
  obtain ⟨z, lo, vs, rel, o, es, ep, ho, hx, hdat, hes, nd⟩ := (show ObjOk X.prog X.w H s.heap a (.dT kvs) from rd_of I.hok hd)
  obtain ⟨k1, k2⟩ := keys_rel rel hks
  have hlen : es.size = vs.length := by
    rw [← Array.length_toList, hes, List.length_map]
  have hz : kvs.length = vs.length := Paired.length rel
  refine Calls.call_function_entry PyProof.Rows.kind_sorted PyProof.Rows.plain_sorted PyProof.Rows.entry_sorted (PyProof.Rows.args_sorted1 _) ?_
  unfold Builtin.«sorted»
  refine wpAny_bind (m := checkCount "sorted" 1 1 _) (wpAny_pure ?_)
  refine wpAny_bind (PySem.W.kdu_collect (A := X.A.in1) (src_keys lo hx hdat) (I.ok.hd hcalm) ho (by omega) fun h' tk acc hk hacc => ?_)
  have hacc' : acc.toList = (vs.map fun q => q.2.1).map Value.ref := by
    refine List.ext_getElem? fun j => ?_
    rw [List.map_map, List.getElem?_map]
    have e1 : acc.toList[j]? = acc[j]? := Array.getElem?_toList
    rw [e1]
    cases h1 : acc[j]? with
    | none =>
      have h2 : acc.size ≤ j := Array.getElem?_eq_none_iff.mp h1
      rw [hacc.1, hlen] at h2
      rw [List.getElem?_eq_none h2]
      rfl
    | some v =>
      obtain ⟨en, h2, rfl⟩ := hacc.2 j v h1
      have h3 : es.toList[j]? = some en := by rw [Array.getElem?_toList]; exact h2
      rw [hes, List.getElem?_map] at h3
      cases h4 : vs[j]? with
      | none => rw [h4] at h3; cases h3
      | some y =>
        rw [h4] at h3
        cases h3
        rfl
  have I1 : Inv X pins σ H { s with heap := h', toks := tk } := I.kept hk
  generalize vs.map (fun q => q.2.1) = as at k1 k2 hacc'
  have hal : acc.toList.length ≤ sizeLine := by
    rw [Array.length_toList, hacc.1]
    omega
  refine wpAny_bind (wpAny_newList ?_ hal)
  rw [hacc']
  rw [hacc'] at hal
  have hoL : (h'.push (seqObj "list" (as.map Value.ref).toArray 0)).get? h'.objs.size = some (seqObj "list" (as.map Value.ref).toArray 0) := Heap.get?_push_size _ rfl
  show wpAny _ _ _ _ _ { s with heap := h'.push (seqObj "list" (as.map Value.ref).toArray 0), toks := tk }
  have obj : ∀ b ∈ as, ∃ (ob : Obj) (n : Nat) (t1 t2 : Tok), (h'.push (seqObj "list" (as.map Value.ref).toArray 0)).get? b = some ob ∧ ob.cls = .type "tuple" ∧ ob.data = .seq #[.str (prOf H b).1 t1, .str (prOf H b).2 t2] n := by
    intro b hb
    obtain ⟨_, its, r2, ob, h1, h2, n, h3⟩ := (show ObjOk X.prog X.w H h' b (.tup [.str (prOf H b).1, .str (prOf H b).2]) from I1.hok b _ (k2 b hb))
    obtain ⟨u1, u2, rfl, ⟨t1, rfl⟩, ⟨t2, rfl⟩⟩ := vals2 r2
    exact ⟨ob, n, t1, t2, Heap.get?_push_of_some _ h1, h2, h3⟩
  have tups : ∀ l : List Addr, (∀ b ∈ l, b ∈ as) → ∃ fs, PyProof.Rows.TupsOf (h'.push (seqObj "list" (as.map Value.ref).toArray 0)) (fun _ => true) (l.map Value.ref) fs := by
    intro l
    induction l with
    | nil => intro _; exact ⟨[], .nil⟩
    | cons b l ih =>
      intro hl
      obtain ⟨fs, hf⟩ := ih fun x hx => hl x (List.mem_cons_of_mem _ hx)
      obtain ⟨ob, n, t1, t2, h1, h2, h3⟩ := obj b (hl b List.mem_cons_self)
      exact ⟨_, .cons ⟨b, ob, _, n, rfl, h1, h2, h3, rfl, fun z => (by cases z), fun _ => ⟨_, _, rfl⟩⟩ hf⟩
  obtain ⟨fs, hfs⟩ := tups as fun _ h => h
  have keyC : ∀ b ∈ as, PyProof.Rows.G.tupKeyC (h'.push (seqObj "list" (as.map Value.ref).toArray 0)) (fun _ => true) (.ref b) = some (txt2 (prOf H b)) := by
    intro b hb
    obtain ⟨ob, n, t1, t2, h1, h2, h3⟩ := obj b hb
    have hT : PyProof.Rows.G.isTupObj (h'.push (seqObj "list" (as.map Value.ref).toArray 0)) (.ref b) = true := by
      simp [PyProof.Rows.G.isTupObj, h1, h2]
    unfold PyProof.Rows.G.tupKeyC
    rw [if_pos hT]
    simp only [PyProof.Rows.tupKey, h1, h3]
    rfl
  refine wpAny_bind (wpAny_holding (wpAny_call_entry PyProof.Rows.slot_list_sort ⟨_, hoL, rfl⟩ PyProof.Rows.entry_list_sort
    (PyProof.Rows.G.list_sort_tups (s := { s with heap := h'.push (seqObj "list" (as.map Value.ref).toArray 0), toks := tk }) hoL hfs
      (fun v hv => ?_) hal fun st' hp hs _ => ⟨_, rfl, ?_⟩) (PyProof.Rows.args_list_sort _)))
  · obtain ⟨b, hb, rfl⟩ := List.mem_map.mp hv
    exact ⟨_, keyC b hb⟩
  obtain ⟨e', he'⟩ := PyProof.Rows.sortedHeap_at (vs := as.map Value.ref) (out := (arrOf st').map (·.2)) hoL
  have mem : ∀ p ∈ (arrOf st').toList, p.1 = p.2 ∧ p.1 ∈ as.map Value.ref := fun p hp' => by
    have h1 := (hp.toList.mem_iff (a := p)).mp hp'
    rw [PyProof.Rows.pairsOf_toList] at h1
    exact PyProof.Rows.mem_zip_self h1
  obtain ⟨qs, hq1, hq2⟩ : ∃ qs : List Addr, (arrOf st').toList.map (·.2) = qs.map Value.ref ∧ qs.Perm as := by
    have h1 : ((arrOf st').toList.map (·.2)).Perm (as.map Value.ref) := by
      have h2 := hp.toList.map (fun p : Keyed => p.2)
      rw [PyProof.Rows.pairsOf_toList] at h2
      rw [List.map_snd_zip (Nat.le_refl _)] at h2
      exact h2
    exact perm_back h1
  have hql : qs.length = as.length := hq2.length_eq
  have harr : (arrOf st').toList.length = qs.length := by
    have h1 := congrArg List.length hq1
    rw [List.length_map, List.length_map] at h1
    exact h1
  have hkk : ∀ i, i < qs.length → PyProof.Rows.KK (PyProof.Rows.G.tupKindC (h'.push (seqObj "list" (as.map Value.ref).toArray 0)) fun _ => true) (arrOf st') i = txt2 (prOf H (qs.getD i 0)) := by
    intro i hi
    have hi' : i < (arrOf st').toList.length := by omega
    have e1 : (arrOf st')[i]? = some (arrOf st').toList[i] := by
      rw [← Array.getElem?_toList, List.getElem?_eq_getElem hi']
    obtain ⟨m1, m2⟩ := mem _ (List.getElem_mem hi')
    have e2 : (arrOf st').toList[i].2 = .ref (qs.getD i 0) := by
      have h1 := congrArg (fun l => l[i]?) hq1
      simp only [List.getElem?_map, List.getElem?_eq_getElem hi', List.getElem?_eq_getElem hi, Option.map_some, Option.some.injEq] at h1
      rw [h1, List.getD_eq_getElem?_getD, List.getElem?_eq_getElem hi]
      rfl
    have hin : qs.getD i 0 ∈ as := hq2.mem_iff.mp (by rw [List.getD_eq_getElem?_getD, List.getElem?_eq_getElem hi]; exact List.getElem_mem hi)
    unfold PyProof.Rows.KK
    rw [e1]
    show (PyProof.Rows.G.tupKeyC _ _ (arrOf st').toList[i].1).getD _ = _
    rw [m1, e2, keyC _ hin]
    rfl
  have srt : ∀ i j, i ≤ j → j < qs.length → ltSS (prOf H (qs.getD j 0)) (prOf H (qs.getD i 0)) = false := by
    intro i j hij hj
    have h1 := hs i j hij (by rw [PyProof.Rows.pairsOf_size, List.length_map]; omega)
    rw [hkk i (by omega), hkk j hj] at h1
    exact h1
  have vals : ∀ l : List Addr, Vals (l.map V.ref) (l.map Value.ref) := fun l => by
    induction l with
    | nil => exact .nil
    | cons b l ih => exact .cons rfl ih
  have hout : ((arrOf st').map (·.2)).toList = qs.map Value.ref := by
    rw [Array.toList_map]
    exact hq1
  have hz2 : (qs.map V.ref).length ≤ sizeLine := by
    rw [List.length_map, hql]
    rw [List.length_map] at hal
    exact hal
  have fresh := I1.hok.fresh (Nat.le_refl h'.objs.size)
  refine wpAny_pure ⟨.ref h'.objs.size, rfl, .ref h'.objs.size, upd H h'.objs.size (.lst (qs.map V.ref)), ?_, rfl, q as qs _ k1 k2 hq2 srt fresh⟩
  refine I1.laid (t' := tk) (fun b u e => ?_) (Nat.le_refl _) ⟨hz2, qs.map Value.ref, e', vals qs, ?_⟩
  · have hb : b < h'.objs.size := Heap.lt_size e
    rw [PyProof.Rows.sortedHeap_old (Nat.ne_of_lt hb) (by rw [size_push']; exact Nat.lt_succ_of_lt hb)]
    exact Heap.get?_push_of_some _ e
  · rw [← hout, Array.toArray_toList]
    exact he'
end
end Mq

namespace Mq
open PySem PySem.Spec PyProof.Rows L2
/-! ### pairs of texts by <= -/
def leSS (x y : Str × Str) : Bool := if x.1 = y.1 then (if x.2 = y.2 then true else !decide (y.2.cps.toList < x.2.cps.toList)) else !decide (y.1.cps.toList < x.1.cps.toList)
theorem op_leSS {X : Cx} (hu : X.A.units < cLine) : OpR X (compareOp .LtE) (fun x y H Q => ∃ (a b : Addr) (p q : Str × Str), x = .ref a ∧ y = .ref b ∧ SqT X.K H a [.str p.1, .str p.2] ∧ SqT X.K H b [.str q.1, .str q.2] ∧ Q (.bl (leSS p q)) H) := by
  intro pins s σ H x y v u Q I rx ry h
  obtain ⟨a, b, p, q, rfl, rfl, ha, hb, k⟩ := h
  cases rx
  cases ry
  obtain ⟨its, r1, p1, _⟩ := I.tuple ha
  obtain ⟨its2, r2, p2, _⟩ := I.tuple hb
  obtain ⟨u1, u2, rfl, ⟨t1, rfl⟩, ⟨t2, rfl⟩⟩ := vals2 r1
  obtain ⟨v1, v2, rfl, ⟨t3, rfl⟩, ⟨t4, rfl⟩⟩ := vals2 r2
  let e : Nat → Bool := fun j => if j = 0 then p.1 == q.1 else p.2 == q.2
  let r : Nat → Bool := fun j => if j = 0 then !decide (q.1.cps.toList < p.1.cps.toList) else !decide (q.2.cps.toList < p.2.cps.toList)
  have R := Ob.RcOp.tuples_le (A := X.A) (s := s) (e := e) (r := r) p1 p2 hu (fun j h1 h2 => by
    match j, h1, h2 with
    | 0, _, _ => exact SeqAt.EqAt.str_str _ _ _ _
    | 1, _, _ => exact SeqAt.EqAt.str_str _ _ _ _) (fun j h1 h2 _ => by
    match j, h1, h2 with
    | 0, _, _ => exact fun prog w E Q h => PySem.P.le_str h
    | 1, _, _ => exact fun prog w E Q h => PySem.P.le_str h)
  have z : Ob.lexAt e r (decide ((#[Value.str p.1 t1, Value.str p.2 t2] : Array Value).size ≤ (#[Value.str q.1 t3, Value.str q.2 t4] : Array Value).size)) 0 2 = leSS p q := by
    show (if (p.1 == q.1) = true then (if (p.2 == q.2) = true then true else !decide (q.2.cps.toList < p.2.cps.toList)) else !decide (q.1.cps.toList < p.1.cps.toList)) = _
    unfold leSS
    simp only [beq_iff_eq]
  have R2 : Ob.RcOp .LtE X.A s (.ref a) (.ref b) (leSS p q) := by
    rw [← z]
    exact R
  exact R2 X.prog X.w X.xe (EP X pins σ Q) ⟨.bl _, H, I, rfl, k⟩
/-- ahead, so not behind or equal -/
theorem le_of_lt {x y : Str × Str} (h : ltSS y x = true) : leSS x y = false := by
  have h1 : (decide (y.1.cps.toList < x.1.cps.toList) || (!decide (x.1.cps.toList < y.1.cps.toList) && (decide (y.2.cps.toList < x.2.cps.toList) || (!decide (x.2.cps.toList < y.2.cps.toList) && false)))) = true := h
  unfold leSS
  by_cases c1 : y.1.cps.toList < x.1.cps.toList
  · rw [if_neg (fun z => by rw [z] at c1; exact List.lt_irrefl _ c1), decide_eq_true c1]
    rfl
  · rw [decide_eq_false c1] at h1
    simp only [Bool.false_or, Bool.and_false, Bool.or_false, Bool.and_eq_true, Bool.not_eq_true', decide_eq_false_iff_not, decide_eq_true_eq] at h1
    obtain ⟨c2, c3⟩ := h1
    have e : x.1.cps.toList = y.1.cps.toList := List.le_antisymm (List.not_lt.mp c1) (List.not_lt.mp c2)
    have e' : x.1 = y.1 := congrArg Str.mk (Array.ext' e)
    rw [if_pos e', if_neg (fun z => by rw [z] at c3; exact List.lt_irrefl _ c3), decide_eq_true c3]
    rfl
theorem lt_of {x y : Str × Str} (h : ltSS x y = false) (n : x ≠ y) : ltSS y x = true := by
  cases e : ltSS y x with
  | true => rfl
  | false =>
    have h2 : txt2 x = txt2 y := (PyProof.Rows.listOrd PyProof.Rows.itemOrd).total _ _ h e
    injection h2 with h3 h4
    injection h4 with h5 _
    have e1 : x.1.cps.toList = y.1.cps.toList := by injection h3
    have e2 : x.2.cps.toList = y.2.cps.toList := by injection h5
    exact (n (Prod.ext (congrArg Str.mk (Array.ext' e1)) (congrArg Str.mk (Array.ext' e2)))).elim
end Mq

namespace Lw
open PySem PySem.Spec PyProof.Rows L2 Mq
open SX (S)
/-! ### books -/
structure Fd where
  x : Nat
  y : Nat
  z : List Nat
def fdV (f : Fd) : List V := [.str (S [f.x]), .str (S [f.y]), .str (S f.z)]
def FdAt (K : PySem.W.Frag) (H : Hp) (v : V) (f : Fd) : Prop := ∃ b, v = .ref b ∧ SqT K H b (fdV f)
def fdOk (sg : List Nat) (f : Fd) : Prop := f.x ∈ sg ∧ f.y ∈ sg ∧ (f.z = [] ∨ ∃ c ∈ sg, f.z = [c])
structure SgOk (sg : List Nat) : Prop where
  pos : 0 < sg.length
  few : sg.length ≤ 10
  low : ∀ c ∈ sg, c < 128
  ok : lettersB sg = true
def spLetter : Sp := fun vs H Q _ => ∃ sg z : List Nat, vs = [.str (S sg), .str (S z)] ∧ z.length ≤ 1000 ∧ ((∃ c, z = [c] ∧ c ∈ sg ∧ Q (.bl true) H) ∨ (z = [] ∧ Q (.bl false) H))
def spFold (K : PySem.W.Frag) : Sp := fun vs H Q _ => ∃ (sg : List Nat) (v : V) (f : Fd), vs = [.str (S sg), v] ∧ FdAt K H v f ∧ fdOk sg f ∧ Q (.bl true) H
section
variable {P : Program} {w : World} {K : PySem.W.Frag} {mg : Str → Option Value} {base : Heap}
theorem ok_is_letter {f : Addr} {fd : FuncData} (F : Fun K "is_letter" "is_letter" s_is_letter f fd) (B : Blt mg) : FnOk P w K mg base CX0 1 f fd ["letters", "thing"] spLetter := by
  refine F.ok sc_is_letter (fun vs H Q E h => ?_) (fun cdv A outer s H vs Q E hr h => ?_)
  · obtain ⟨_, _, rfl, _⟩ := h
    rfl
  · obtain ⟨sg, z, rfl, hz, h⟩ := h
    refine ⟨_, pss_one (ps_ret (pe_and (pe_callB call_isi (by rfl) B.isi (by decide +kernel) (pa_cons (pv 1) (pa_cons (pe_bltn (v := .ty "str") (by rfl) B.str (by decide +kernel) rfl) pa_nil))) (pe_and (pe_cmpR op_eq (pe_callB call_len (by rfl) B.len (by decide +kernel) (pa_cons (pv 1) pa_nil)) pe_int (nomark _)) (pe_one (pe_cmpR op_in_sign (pv 1) (pv 0) rfl))))), ?_⟩
    refine ⟨_, rfl, _, .ty "str", _, _, true, rfl, .ty _, .base (.str _), kit_self, true, rfl, iteT ⟨_, rfl, _, _, rfl, len_S (by omega), rfl, _, rfl, ?_⟩⟩
    rcases h with ⟨c, rfl, hc, q⟩ | ⟨rfl, q⟩
    · refine ifT rfl ⟨_, rfl, _, rfl, c, S sg, rfl, rfl, ?_⟩
      rw [show decide (c ∈ (S sg).cps.toList) = true from decide_eq_true hc]
      exact q
    · exact ifF rfl q
theorem ok_is_fold {f fL : Addr} {fd fdL : FuncData} (F : Fun K "is_fold" "is_fold" s_is_fold f fd) (B : Blt mg)
    (FL : Fun K "is_letter" "is_letter" s_is_letter fL fdL) (gL : mg "is_letter" = some (.ref fL)) (bL : Binds K fdL ["letters", "thing"] []) : FnOk P w K mg base CX0 2 f fd ["letters", "thing"] (spFold K) := by
  have GL : FnOk P w K mg base CX0 1 fL fdL ["letters", "thing"] spLetter := ok_is_letter FL B
  refine F.ok sc_is_fold (fun vs H Q E h => ?_) (fun cdv A outer s H vs Q E hr h => ?_)
  · obtain ⟨_, _, _, rfl, _⟩ := h
    rfl
  · obtain ⟨sg, v, fo, rfl, ⟨b, rfl, hb⟩, ⟨h1, h2, h3⟩, q⟩ := h
    refine ⟨_, (pss_cons (ps_if (PW.pt (pw_or (pt_not (pt_val (pe_callB call_isi (by rfl) B.isi (by decide +kernel) (pa_cons (pv 1) (pa_cons (pe_bltn (v := .ty "tuple") (by rfl) B.tuple (by decide +kernel) rfl) pa_nil))))) (pw_or1 (pt_cmpR op_ne (pe_callB call_len (by rfl) B.len (by decide +kernel) (pa_cons (pv 1) pa_nil)) pe_int (nomark _))))) (pss_one (ps_ret pe_bl)) pss_nil)
      (pss_cons (ps_if (PW.pt (pw_or (pt_not (pt_val (pe_call GL (hr.mono (by decide)) (by rfl) gL FL.kp bL .nil pass0 (pa_cons (pv 0) (pa_cons (pe_ix ix_tup (pv 1) pe_int (fun _ _ => rfl)) pa_nil))))) (pw_or1 (pt_not (pt_val (pe_call GL (hr.mono (by decide)) (by rfl) gL FL.kp bL .nil pass0 (pa_cons (pv 0) (pa_cons (pe_ix ix_tup (pv 1) pe_int (fun _ _ => rfl)) pa_nil)))))))) (pss_one (ps_ret pe_bl)) pss_nil)
      (pss_one (ps_ret (pe_or (pe_call GL (hr.mono (by decide)) (by rfl) gL FL.kp bL .nil pass0 (pa_cons (pv 0) (pa_cons (pe_ix ix_tup (pv 1) pe_int (fun _ _ => rfl)) pa_nil))) (pe_one (pe_and (pe_callB call_isi (by rfl) B.isi (by decide +kernel) (pa_cons (pe_ix ix_tup (pv 1) pe_int (fun _ _ => rfl)) (pa_cons (pe_bltn (v := .ty "str") (by rfl) B.str (by decide +kernel) rfl) pa_nil))) (pe_one (pe_cmpR op_eq (pe_ix ix_tup (pv 1) pe_int (fun _ _ => rfl)) pe_str (nomark _)))))))))), ?_⟩
    have a0 : atI (fdV fo) 0 = some (.str (S [fo.x])) := atI_nat (j := 0) rfl
    have a1 : atI (fdV fo) 1 = some (.str (S [fo.y])) := atI_nat (j := 1) rfl
    have a2 : atI (fdV fo) 2 = some (.str (S fo.z)) := atI_nat (j := 2) rfl
    refine ⟨_, rfl, _, .ty "tuple", _, _, true, rfl, .ty _, ty_tup hb, kit_ty (by decide +kernel), true, rfl, ?_⟩
    refine ifF rfl ⟨_, rfl, _, _, rfl, len_tup hb, rfl, _, rfl, ifF rfl ?_⟩
    refine ⟨_, rfl, _, rfl, b, _, 0, _, rfl, rfl, hb, a0, sg, [fo.x], rfl, (by show 1 ≤ 1000; decide), Or.inl ⟨fo.x, rfl, h1, _, rfl, ?_⟩⟩
    refine ifF rfl ⟨_, rfl, _, rfl, b, _, 1, _, rfl, rfl, hb, a1, sg, [fo.y], rfl, (by show 1 ≤ 1000; decide), Or.inl ⟨fo.y, rfl, h2, _, rfl, ifF rfl ?_⟩⟩
    refine ⟨_, rfl, _, rfl, b, _, 2, _, rfl, rfl, hb, a2, sg, fo.z, rfl, ?_, ?_⟩
    · rcases h3 with h3 | ⟨c, _, h3⟩
      · rw [h3]
        exact Nat.zero_le _
      · rw [h3]
        show 1 ≤ 1000
        decide
    · rcases h3 with h3 | ⟨c, hc, h3⟩
      · refine Or.inr ⟨h3, _, rfl, ifF rfl ?_⟩
        refine ⟨_, rfl, b, _, 2, _, rfl, rfl, hb, a2, _, .ty "str", _, _, true, rfl, .ty _, .base (.str _), kit_self, true, rfl, ifT rfl ⟨_, rfl, b, _, 2, _, rfl, rfl, hb, a2, rfl, ?_⟩⟩
        rw [str_is_nil, decide_eq_true h3]
        exact q
      · exact Or.inl ⟨c, h3, hc, _, rfl, ifT rfl q⟩
end
end Lw

namespace Lw
open PySem PySem.Spec PyProof.Rows L2 Mq
open SX (S)
inductive FdAll (K : PySem.W.Frag) (H : Hp) : List V → List Fd → Prop
  | nil : FdAll K H [] []
  | cons {v : V} {f : Fd} {vs : List V} {fs : List Fd} : FdAt K H v f → FdAll K H vs fs → FdAll K H (v :: vs) (f :: fs)
theorem FdAt.kp {K : PySem.W.Frag} {H H' : Hp} {v : V} {f : Fd} (h : FdAt K H v f) (e : KpT K H H') : FdAt K H' v f := let ⟨a, x, y⟩ := h; ⟨a, x, e _ _ y⟩
theorem FdAll.kp {K : PySem.W.Frag} {H H' : Hp} (e : KpT K H H') : ∀ {vs : List V} {fs : List Fd}, FdAll K H vs fs → FdAll K H' vs fs
  | _, _, .nil => .nil
  | _, _, .cons a b => .cons (a.kp e) (FdAll.kp e b)
theorem FdAll.len {K : PySem.W.Frag} {H : Hp} : ∀ {vs : List V} {fs : List Fd}, FdAll K H vs fs → vs.length = fs.length
  | _, _, .nil => rfl
  | _, _, .cons a b => congrArg (· + 1) b.len
theorem FdAll.at {K : PySem.W.Frag} {H : Hp} : ∀ {vs : List V} {fs : List Fd} {i : Nat} {v : V}, FdAll K H vs fs → vs[i]? = some v → ∃ f, fs[i]? = some f ∧ FdAt K H v f
  | _, _, 0, _, .cons a b, h => ⟨_, rfl, by cases h; exact a⟩
  | _, _, i + 1, _, .cons a b, h => FdAll.at (i := i) b h
def keyF (f : Fd) : Str × Str := (S [f.x], S [f.y])
def tabF (fs : List Fd) : List (List Key × V) := fs.map fun f => ([Sum.inr (S [f.x]), Sum.inr (S [f.y])], V.str (S f.z))
/-- folds, as they have to be -/
structure FsOk (sg : List Nat) (fs : List Fd) : Prop where
  few : fs.length ≤ 200
  ok : ∀ f ∈ fs, fdOk sg f
  asc : ∀ i j, i < j → j < fs.length → ∀ f g, fs[i]? = some f → fs[j]? = some g → ltSS (keyF f) (keyF g) = true
def bkF (sg : List Nat) (fa ta : Addr) : List (Str × V) := [("letters", .str (S sg)), ("folds", .ref fa), ("table", .ref ta)]
def BkAt (H : Hp) (C r : Addr) (sg : List Nat) (fs : List Fd) (fa ta : Addr) : Prop := (∃ dx, H r = some (.ins C dx (bkF sg fa ta))) ∧ H ta = some (.dT (tabF fs))
structure BkC (K : PySem.W.Frag) (C : Addr) : Prop where
  cls : Cls K C
  nL : NoAttr K C "letters"
  nF : NoAttr K C "folds"
  nT : NoAttr K C "table"
def spBook (K : PySem.W.Frag) (C : Addr) : Sp := fun vs H Q _ => ∃ (r dx fa : Addr) (sg : List Nat) (fs : List Fd) (xs : List V), vs = [.ref r, .str (S sg), .ref fa] ∧
  H r = some (.ins C dx []) ∧ SqT K H fa xs ∧ FdAll K H xs fs ∧ FsOk sg fs ∧ SgOk sg ∧
  ∀ H' ta, BkAt H' C r sg fs fa ta → (∀ b o, H b = some o → b ≠ r → H' b = some o) → Q .non H'
theorem tab_snoc (fs : List Fd) (f : Fd) : tabF (fs ++ [f]) = tabF fs ++ [([Sum.inr (S [f.x]), Sum.inr (S [f.y])], V.str (S f.z))] := by
  unfold tabF
  rw [List.map_append]
  rfl
theorem putK_new {κ : Type} [DecidableEq κ] {kvs : List (κ × V)} {k : κ} {v : V} (h : ∀ p ∈ kvs, p.1 ≠ k) : putK kvs k v = kvs ++ [(k, v)] := by
  unfold putK
  rw [if_neg]
  intro z
  obtain ⟨p, hp, e⟩ := List.any_eq_true.mp z
  exact h p hp (of_decide_eq_true e)
theorem walk_enumT {K : PySem.W.Frag} {a : Addr} {xs : List V} : Walk (Iee K a) xs.length (fun H => SqT K H a xs) (YPair (fun i => some (.int (i : Nat))) (fun i => xs[i]?)) := by
  refine ⟨fun i _ hi q => ⟨xs, xs[i], q, by simp [hi]⟩, fun _ q => ⟨xs, q, Nat.le_refl _⟩, fun i H v H' _ q y => ?_⟩
  obtain ⟨T, x, h1, h2, h3, h4⟩ := y
  exact ⟨T, .int (i : Nat), x, h1, h2, h3, rfl, h4 xs q⟩
def aheadF (fs : List Fd) : Nat → Str × Str
  | 0 => ("", "")
  | i + 1 => match fs[i]? with
    | some f => keyF f
    | none => ("", "")
theorem ahead_lt {sg : List Nat} {fs : List Fd} (h : FsOk sg fs) {i : Nat} {f : Fd} (hf : fs[i]? = some f) : ltSS (aheadF fs i) (keyF f) = true := by
  have hi : i < fs.length := by
    rcases Nat.lt_or_ge i fs.length with h | h
    · exact h
    · rw [List.getElem?_eq_none h] at hf
      cases hf
  cases i with
  | zero =>
    have e : ltSS ("", "") (keyF f) = (decide (([] : List Nat) < [f.x]) || (!decide ([f.x] < ([] : List Nat)) && (decide (([] : List Nat) < [f.y]) || (!decide ([f.y] < ([] : List Nat)) && false)))) := rfl
    show ltSS ("", "") (keyF f) = true
    rw [e, decide_eq_true (show ([] : List Nat) < [f.x] from List.nil_lt_cons _ _)]
    rfl
  | succ i =>
    have e : fs[i]? = some fs[i] := List.getElem?_eq_getElem (by omega)
    show ltSS (match fs[i]? with | some f => keyF f | none => ("", "")) _ = true
    rw [e]
    exact h.asc i (i + 1) (by omega) hi _ _ e hf
theorem key_ne {sg : List Nat} {fs : List Fd} (h : FsOk sg fs) {i : Nat} {f : Fd} (hf : fs[i]? = some f) : ∀ p ∈ tabF (fs.take i), p.1 ≠ [Sum.inr (S [f.x]), Sum.inr (S [f.y])] := by
  intro p hp e
  have hi : i < fs.length := by
    rcases Nat.lt_or_ge i fs.length with h | h
    · exact h
    · rw [List.getElem?_eq_none h] at hf
      cases hf
  obtain ⟨g, hg, rfl⟩ := List.mem_map.mp hp
  obtain ⟨j, hj⟩ := List.mem_iff_getElem?.mp hg
  have hji : j < i := by
    rcases Nat.lt_or_ge j i with h | h
    · exact h
    · rw [List.getElem?_eq_none (by rw [List.length_take]; omega)] at hj
      cases hj
  rw [List.getElem?_take, if_pos hji] at hj
  have l := h.asc j i hji hi g f hj hf
  have e1 : keyF g = keyF f := by
    injection e with e1 e2
    injection e2 with e2 _
    have e1' : S [g.x] = S [f.x] := Sum.inr.inj e1
    have e2' : S [g.y] = S [f.y] := Sum.inr.inj e2
    exact Prod.ext e1' e2'
  rw [e1] at l
  have := (PyProof.Rows.listOrd PyProof.Rows.itemOrd).irrefl (txt2 (keyF f))
  have l' : (PyProof.Rows.listOrd PyProof.Rows.itemOrd).blt (txt2 (keyF f)) (txt2 (keyF f)) = true := l
  rw [this] at l'
  cases l'
section
variable {P : Program} {w : World} {K : PySem.W.Frag} {mg : Str → Option Value} {base : Heap} {C : Addr}
theorem ok_book {f fL fF : Addr} {fd fdL fdF : FuncData} (F : Fun K "__init__" "Book.__init__" s_Book___init__ f fd) (B : Blt mg) (R : BkC K C)
    (FL : Fun K "is_letters" "is_letters" s_is_letters fL fdL) (gL : mg "is_letters" = some (.ref fL)) (bL : Binds K fdL ["thing"] []) (GL : FnOk P w K mg base CX0 2 fL fdL ["thing"] (spLetters K))
    (FF : Fun K "is_fold" "is_fold" s_is_fold fF fdF) (gF : mg "is_fold" = some (.ref fF)) (bF : Binds K fdF ["letters", "thing"] []) (GF : FnOk P w K mg base CX0 2 fF fdF ["letters", "thing"] (spFold K)) :
    FnOk P w K mg base CX0 3 f fd ["self", "letters", "folds"] (spBook K C) := by
  refine F.ok sc_Book___init__ (fun vs H Q E h => ?_) (fun cdv A outer s H vs Q E hr h => ?_)
  · obtain ⟨_, _, _, _, _, _, rfl, _⟩ := h
    rfl
  · obtain ⟨r, dx, fa, sg, fs, xs, rfl, hr0, hfa, hall, hfs, hs, q⟩ := h
    have hu : (A.deeper (envOfC "Book.__init__" (defScope s_Book___init__) s.heap.objs.size f cdv)).units + 64 < cLine := by
      have := hr.units
      omega
    have hu0 : (A.deeper (envOfC "Book.__init__" (defScope s_Book___init__) s.heap.objs.size f cdv)).units < cLine := by omega
    have hu1 : (A.deeper (envOfC "Book.__init__" (defScope s_Book___init__) s.heap.objs.size f cdv)).units + 1 < cLine := by omega
    refine ⟨_, (pss_cons (ps_if (pt_not (pt_val (pe_call GL (hr.mono (by decide)) (by rfl) gL FL.kp bL .nil pass0 (pa_cons (pv 1) pa_nil)))) (pss_one ps_dead) pss_nil)
      (pss_cons (ps_if (pt_not (pt_val (pe_callB call_isi (by rfl) B.isi (by decide +kernel) (pa_cons (pv 2) (pa_cons (pe_bltn (v := .ty "tuple") (by rfl) B.tuple (by decide +kernel) rfl) pa_nil))))) (pss_one ps_dead) pss_nil)
      (pss_cons (ps_set (i := 3) sc_Book___init__.nd rfl (Or.inl rfl) pe_dnewT)
      (pss_cons (ps_set (i := 4) sc_Book___init__.nd rfl (Or.inl rfl) (pe_tup (pa_cons pe_str (pa_cons pe_str pa_nil))))
      (pss_cons (ps_for PassesOwn.never rfl (pi_enumT (by rfl) B.enumerate (pa_cons (pv 2) pa_nil)) (pg_tup rfl (pgs_cons (pg_name (i := 5) sc_Book___init__.nd rfl (Or.inl rfl)) (pgs_cons (pg_name (i := 6) sc_Book___init__.nd rfl (Or.inl rfl)) pgs_nil)))
        (pss_cons (ps_if (PW.pt (pw_or (pt_not (pt_val (pe_call GF (hr.mono (by decide)) (by rfl) gF FF.kp bF .nil pass0 (pa_cons (pv 1) (pa_cons (pv 6) pa_nil))))) (pw_or1 (pt_cmpR (op_leSS hu0) (pe_slice sl_tup (pv 6) po_none (po_some pe_int)) (pv 4) (nomark _))))) (pss_one ps_dead) pss_nil)
        (pss_cons (ps_set (i := 4) sc_Book___init__.nd rfl (Or.inl rfl) (pe_slice sl_tup (pv 6) po_none (po_some pe_int)))
        (pss_one (ps_dput hu1 (pv 3) (pv 4) (pe_ix ix_tup (pv 6) pe_int (fun _ _ => rfl)) rfl)))))
      (pss_cons (ps_fld (pv 0) (pv 1) rfl)
      (pss_cons (ps_fld (pv 0) (pv 2) rfl)
      (pss_one (ps_fld (pv 0) (pv 3) rfl))))))))), ?_⟩
    have hl : xs.length = fs.length := hall.len
    refine ⟨_, rfl, _, rfl, Or.inl ⟨sg, rfl, by have := hs.few; omega, fun H1 s1 => ⟨_, rfl, ifF (by rw [hs.ok]; rfl) ?_⟩⟩⟩
    refine ⟨_, rfl, _, .ty "tuple", _, _, true, rfl, .ty _, ty_tup (Same.tup s1 hfa), kit_ty (by decide +kernel), true, rfl, iteF ?_⟩
    refine fun ta hta => ?_
    have s2 : Same H (upd H1 ta (.dT [])) := s1.trans (same_new hta)
    have ht2 : upd H1 ta (.dT []) ta = some (.dT (tabF [])) := upd_same
    have hnta : H ta = none := s1.free hta
    generalize upd H1 ta (.dT []) = H2 at s2 ht2 ⊢
    refine ⟨sz_le (n := 2) (by decide), fun p0 hp0 => ?_⟩
    have s3 : Same H (upd H2 p0 (.tup [V.str "", V.str ""])) := s2.trans (same_new hp0)
    have ht3 := (same_new (o := HO.tup [V.str "", V.str ""]) hp0) _ _ ht2
    have hp3 : upd H2 p0 (.tup [V.str "", V.str ""]) p0 = some (.tup [V.str "", V.str ""]) := upd_same
    generalize upd H2 p0 (.tup [V.str "", V.str ""]) = H3 at s3 ht3 hp3 ⊢
    refine ⟨_, rfl, fa, xs, rfl, Same.tup s3 hfa, ?_⟩
    refine for_it (walk_enumT (K := K) (a := fa) (xs := xs)) (fun i σ H' => Same H H' ∧ H' ta = some (.dT (tabF (fs.take i))) ∧ ∃ pa o5 o6, H' pa = some (.tup [.str (aheadF fs i).1, .str (aheadF fs i).2]) ∧ σ = [some (.ref r), some (.str (S sg)), some (.ref fa), some (.ref ta), some (.ref pa), o5, o6])
      ⟨s3, ht3, p0, _, _, hp3, rfl⟩ (fun i σ H' hi p => Same.tup p.1 hfa) ?_ ?_
    · rintro i x σ H4 H5 hi ⟨s4, ht4, pa, o5, o6, hpa, rfl⟩ ⟨T, y1, y2, rfl, hT, rfl, hy1, hy2⟩
      cases hy1
      obtain ⟨f, hf, hat⟩ := hall.at hy2
      have s5 := same_new (o := HO.tup [V.int (i : Nat), y2]) hT
      have t5 := s4.trans s5
      have ht5 := s5 _ _ ht4
      have hpa5 := s5 _ _ hpa
      refine ⟨T, _, rfl, Or.inl (Or.inl upd_same), rfl, _, _, rfl, _, _, rfl, rfl, ?_⟩
      generalize upd H4 T (.tup [V.int (i : Nat), y2]) = H5 at t5 ht5 hpa5 ⊢
      have hat5 := hat.kp (KpT.same t5)
      refine ⟨_, rfl, _, rfl, sg, y2, f, rfl, hat5, hfs.ok f (List.mem_of_getElem? hf), _, rfl, ifF rfl ?_⟩
      obtain ⟨b, rfl, hb⟩ := hat5
      have ecut : cutV (fdV f) none (some 2) = [V.str (S [f.x]), V.str (S [f.y])] := rfl
      refine ⟨_, rfl, 2, rfl, b, _, rfl, hb, (fun z => absurd z.2 (by show ¬ 2 = 3; decide)), fun p1 hp1 => ?_⟩
      rw [ecut]
      have s6 := same_new (o := HO.tup [V.str (S [f.x]), V.str (S [f.y])]) hp1
      refine ⟨_, rfl, p1, pa, keyF f, aheadF fs i, rfl, rfl, Or.inl (Or.inl upd_same), Or.inl (Or.inl (s6 _ _ hpa5)), _, rfl, ?_⟩
      rw [le_of_lt (ahead_lt hfs hf)]
      refine ifF rfl ?_
      have t6 := t5.trans s6
      have ht6 := s6 _ _ ht5
      have hb6 := Same.tup s6 hb
      generalize upd H5 p1 (.tup [V.str (S [f.x]), V.str (S [f.y])]) = H6 at t6 ht6 hb6 ⊢
      refine ⟨_, rfl, 2, rfl, b, _, rfl, hb6, (fun z => absurd z.2 (by show ¬ 2 = 3; decide)), fun p2 hp2 => ?_⟩
      rw [ecut]
      have s7 := same_new (o := HO.tup [V.str (S [f.x]), V.str (S [f.y])]) hp2
      have t7 := t6.trans s7
      have ht7 := s7 _ _ ht6
      have hb7 := Same.tup s7 hb6
      have hp7 : upd H6 p2 (.tup [V.str (S [f.x]), V.str (S [f.y])]) p2 = some (.tup [V.str (S [f.x]), V.str (S [f.y])]) := upd_same
      generalize upd H6 p2 (.tup [V.str (S [f.x]), V.str (S [f.y])]) = H7 at t7 ht7 hb7 hp7 ⊢
      have hlen : (tabF (fs.take i)).length < sizeLine := by
        unfold tabF
        rw [List.length_map, List.length_take]
        have := hfs.few
        exact sz_lt (by omega)
      have hput : putK (tabF (fs.take i)) [Sum.inr (S [f.x]), Sum.inr (S [f.y])] (V.str (S f.z)) = tabF (fs.take (i + 1)) := by
        rw [putK_new (key_ne hfs hf), List.take_add_one, hf]
        exact (tab_snoc _ f).symm
      refine ⟨_, rfl, b, _, 2, .str (S f.z), rfl, rfl, hb7, atI_nat (j := 2) rfl, _, rfl, _, rfl, ta, upd H7 ta (.dT (tabF (fs.take (i + 1)))), rfl, Or.inr ⟨tabF (fs.take i), [Sum.inr (S [f.x]), Sum.inr (S [f.y])], p2, ht7, rfl, hp7, hlen, by rw [hput]⟩, ?_⟩
      have hne : p2 ≠ ta := by
        rintro rfl
        rw [hp7] at ht7
        cases ht7
      refine ⟨fun b2 o2 e2 => ?_, upd_same, p2, _, _, (upd_ne hne).trans ?_, rfl⟩
      · rw [upd_ne (ne_of_none e2 hnta)]
        exact t7 b2 o2 e2
      · have e3 : aheadF fs (i + 1) = keyF f := by
          show (match fs[i]? with | some f => keyF f | none => ("", "")) = _
          rw [hf]
        rw [e3]
        exact hp7
    · rintro σ H4 ⟨s4, ht4, pa, o5, o6, hpa, rfl⟩
      rw [hl, List.take_length] at ht4
      have h4 := s4 _ _ hr0
      refine ⟨_, rfl, _, rfl, r, C, dx, [], rfl, h4, R.cls, R.nL, (by show 0 < 1000; decide), ?_⟩
      refine ⟨_, rfl, _, rfl, r, C, dx, _, rfl, upd_same, R.cls, R.nF, (by show 1 < 1000; decide), ?_⟩
      refine ⟨_, rfl, _, rfl, r, C, dx, _, rfl, upd_same, R.cls, R.nT, (by show 2 < 1000; decide), ?_⟩
      have hrt : ta ≠ r := by
        rintro rfl
        rw [hr0] at hnta
        cases hnta
      refine q _ ta ⟨⟨dx, upd_same.trans ?_⟩, (upd_ne hrt).trans ((upd_ne hrt).trans ((upd_ne hrt).trans ht4))⟩ (fun b o e hb => ?_)
      · exact congrArg (fun z => some (HO.ins C dx z)) rfl
      · rw [upd_ne hb, upd_ne hb, upd_ne hb]
        exact s4 b o e
end
end Lw

namespace Lw
open PySem PySem.Spec PyProof.Rows L2 Mq
open SX (S)
def WebGood (sg : List Nat) (v : V) (l : List Nat) : Prop := v = .str (S l) ∧ wordOk sg l
def WebBad (K : PySem.W.Frag) (H : Hp) (sg : List Nat) (v : V) : Prop := (∃ l, v = .str (S l) ∧ l.length ≤ 1000 ∧ allB l sg = false) ∨ NoStr K H v
def spCheck (K : PySem.W.Frag) (CW : Addr) : Sp := fun vs H Q E => ∃ (sg : List Nat) (v : V), vs = [.str (S sg), v] ∧
  ((∃ l, WebGood sg v l ∧ ∀ H', Same H H' → Q .non H') ∨ (WebBad K H sg v ∧ ∀ H' d, Same H H' → H' d = none → E (.ref CW) (some d) (upd H' d (.xd [("thing", v)]))))
/-! ### letters laid -/
def leftM (fs : List Fd) (x y : Nat) : Option (List Nat) := (fs.find? fun f => decide (f.x = x) && decide (f.y = y)).map (·.z)
def laidM (fs : List Fd) (w : List Nat) (y : Nat) : List Nat :=
  match w.getLast? with
  | .none => w ++ [y]
  | .some x => match leftM fs x y with
    | .none => w ++ [y]
    | .some z => w.dropLast ++ z
def optZ : Option (List Nat) → V
  | .none => .non
  | .some z => .str (S z)
theorem S_one {c d : Nat} : S [c] = S [d] ↔ c = d := ⟨fun h => by have := SX.S_inj h; simpa using this, fun h => by rw [h]⟩
theorem tab_val (fs : List Fd) (x y : Nat) : (valV (tabF fs) [Sum.inr (S [x]), Sum.inr (S [y])]).getD .non = optZ (leftM fs x y) := by
  unfold valV leftM tabF
  induction fs with
  | nil => rfl
  | cons f fs ih =>
    have e : decide (([Sum.inr (S [f.x]), Sum.inr (S [f.y])] : List Key) = [Sum.inr (S [x]), Sum.inr (S [y])]) = (decide (f.x = x) && decide (f.y = y)) := by
      rw [← Bool.decide_and]
      refine decide_eq_decide.mpr ⟨fun h => ?_, fun h => by rw [h.1, h.2]⟩
      injection h with h1 h2
      injection h2 with h2 _
      exact ⟨S_one.mp (Sum.inr.inj h1), S_one.mp (Sum.inr.inj h2)⟩
    rw [List.map_cons, List.find?_cons, List.find?_cons]
    show (Option.map _ (match decide (([Sum.inr (S [f.x]), Sum.inr (S [f.y])] : List Key) = [Sum.inr (S [x]), Sum.inr (S [y])]) with | true => _ | false => _)).getD V.non = _
    rw [e]
    cases decide (f.x = x) && decide (f.y = y) with
    | true => rfl
    | false => exact ih
def spLeft (C : Addr) : Sp := fun vs H Q _ => ∃ (r fa ta : Addr) (sg : List Nat) (fs : List Fd) (x y : Nat), vs = [.ref r, .str (S [x]), .str (S [y])] ∧ BkAt H C r sg fs fa ta ∧ ∀ H', Same H H' → Q (optZ (leftM fs x y)) H'
def spBehind (C : Addr) : Sp := fun vs H Q _ => ∃ (r fa ta : Addr) (sg w : List Nat) (fs : List Fd) (y : Nat), vs = [.ref r, .str (S w), .str (S [y])] ∧ BkAt H C r sg fs fa ta ∧ FsOk sg fs ∧ w.length ≤ 90000 ∧ ∀ H', Same H H' → Q (.str (S (laidM fs w y))) H'
section
variable {P : Program} {w : World} {K : PySem.W.Frag} {mg : Str → Option Value} {base : Heap} {C CW : Addr}
theorem ok_check_web {f fW fB : Addr} {fd fdW : FuncData} (F : Fun K "check_web" "check_web" s_check_web f fd) (B : Blt mg)
    (FW : Fun K "is_web" "is_web" s_is_web fW fdW) (gW : mg "is_web" = some (.ref fW)) (bW : Binds K fdW ["letters", "thing"] [])
    (GW : FnOk P w K mg base CX0 2 fW fdW ["letters", "thing"] (spWord K)) (T : MqE_thing.Txt K mg "BadWeb" "BadWeb.__init__" CW fB) :
    FnOk P w K mg base (L2.CX P w) 3 f fd ["letters", "thing"] (spCheck K CW) := by
  refine F.okX sc_check_web (fun vs H Q E h => ?_) (fun cdv A outer s H vs Q E hr h => ?_)
  · obtain ⟨_, _, rfl, _⟩ := h
    rfl
  · obtain ⟨sg, v, rfl, h⟩ := h
    refine ⟨_, (pss_one (ps_if (pt_not (pt_val (pe_call GW (hr.mono (by decide)) (by rfl) gW FW.kp bW .nil pass0 (pa_cons (pv 0) (pa_cons (pv 1) pa_nil))))) (pss_one (MqE_thing.ps_raise rfl T hr (takes_of rfl rfl rfl rfl) (pa_cons (pv 1) pa_nil))) pss_nil)), ?_⟩
    refine ⟨_, rfl, _, rfl, sg, v, rfl, ?_⟩
    rcases h with ⟨l, hg, q⟩ | ⟨hb, q⟩
    · refine Or.inl ⟨l, hg.1, by have := hg.2.2; omega, fun H1 s1 => ⟨_, rfl, ?_⟩⟩
      rw [allB_of hg.2.1]
      exact ifF rfl (q H1 s1)
    · have raise : ∀ H1, Same H H1 → (∃ v', [v] = [v'] ∧ ∀ d, H1 d = none → E (.ref CW) (some d) (upd H1 d (.xd [("thing", v')]))) := fun H1 s1 => ⟨v, rfl, fun d hd => q H1 d s1 hd⟩
      rcases hb with ⟨l, hv, hl, ha⟩ | hn
      · refine Or.inl ⟨l, hv, by omega, fun H1 s1 => ⟨_, rfl, ?_⟩⟩
        rw [ha]
        exact ifT rfl ⟨_, rfl, raise H1 s1⟩
      · refine Or.inr ⟨hn, fun H1 s1 => ⟨_, rfl, ifT rfl ⟨_, rfl, raise H1 s1⟩⟩⟩
theorem BkAt.same {H H' : Hp} {r fa ta : Addr} {sg : List Nat} {fs : List Fd} (h : BkAt H C r sg fs fa ta) (e : Same H H') : BkAt H' C r sg fs fa ta := let ⟨⟨d, x⟩, y⟩ := h; ⟨⟨d, e _ _ x⟩, e _ _ y⟩
theorem ok_left {f : Addr} {fd : FuncData} (F : Fun K "left_of" "Book.left_of" s_Book_left_of f fd) (R : BkC K C) : FnOk P w K mg base CX0 1 f fd ["self", "last", "laid"] (spLeft C) := by
  refine F.ok sc_Book_left_of (fun vs H Q E h => ?_) (fun cdv A outer s H vs Q E hr h => ?_)
  · obtain ⟨_, _, _, _, _, _, _, rfl, _⟩ := h
    rfl
  · obtain ⟨r, fa, ta, sg, fs, x, y, rfl, ⟨⟨dx, h1⟩, h2⟩, q⟩ := h
    have hu1 : (A.deeper (envOfC "Book.left_of" (defScope s_Book_left_of) s.heap.objs.size f cdv)).units + 1 < cLine := by
      have := hr.units
      omega
    refine ⟨_, pss_one (ps_ret (pe_dget1 hu1 (pe_fld (pv 0) rfl) (pe_tup (pa_cons (pv 1) (pa_cons (pv 2) pa_nil))) ⟨rfl, rfl, rfl, rfl⟩)), ?_⟩
    refine ⟨_, rfl, r, C, dx, _, _, rfl, h1, R.cls, R.nT, rfl, ta, rfl, ?_, _, rfl, _, rfl, sz_le (n := 2) (by decide), fun p hp => ?_⟩
    · exact Or.inr ⟨_, .inl h2⟩
    have s1 := same_new (o := HO.tup [V.str (S [x]), V.str (S [y])]) hp
    refine ⟨_, DGet.t (k := [Sum.inr (S [x]), Sum.inr (S [y])]) (s1 _ _ h2) upd_same, ?_⟩
    rw [tab_val]
    exact q _ s1
theorem cx0_at {X : Cx} {σ : L2.St} {E : XK} : PassesAt CX0 X σ E := fun _ _ _ _ _ _ z => z.elim
theorem left_len {sg : List Nat} {fs : List Fd} (h : FsOk sg fs) {x y : Nat} {z : List Nat} (e : leftM fs x y = .some z) : z.length ≤ 1 := by
  unfold leftM at e
  cases hf : fs.find? fun f => decide (f.x = x) && decide (f.y = y) with
  | none => rw [hf] at e; cases e
  | some f =>
    rw [hf] at e
    cases e
    rcases (h.ok f (List.mem_of_find?_eq_some hf)).2.2 with h1 | ⟨c, _, h1⟩
    · show f.z.length ≤ 1
      rw [h1]
      decide
    · show f.z.length ≤ 1
      rw [h1]
      exact Nat.le_refl 1
theorem ok_behind {f fL : Addr} {fd fdL : FuncData} (F : Fun K "laid_behind" "laid_behind" s_laid_behind f fd) (R : BkC K C)
    (FL : Fun K "left_of" "Book.left_of" s_Book_left_of fL fdL) (mL : Meth K C "left_of" fL) (bL : Binds K fdL ["self", "last", "laid"] []) : FnOk P w K mg base CX0 2 f fd ["book", "web", "letter"] (spBehind C) := by
  have GL : FnOk P w K mg base CX0 1 fL fdL ["self", "last", "laid"] (spLeft C) := ok_left FL R
  refine F.ok sc_laid_behind (fun vs H Q E h => ?_) (fun cdv A outer s H vs Q E hr h => ?_)
  · obtain ⟨_, _, _, _, _, _, _, rfl, _⟩ := h
    rfl
  · obtain ⟨r, fa, ta, sg, l, fs, y, rfl, hb, hfs, hl, q⟩ := h
    have hr1 : Room 1 (A.deeper (envOfC "laid_behind" (defScope s_laid_behind) s.heap.objs.size f cdv)) := hr
    refine ⟨_, (pss_cons (ps_set (i := 3) sc_laid_behind.nd rfl (Or.inl rfl) (pe_ifExp (pt_truth (pv 1) (by intro _; rfl)) (pe_methT (E := fun _ _ _ _ => False) (pv 0) R.cls mL GL hr1 bL (fun _ => cx0_at) (pa_cons (pe_ix ix_str (pv 1) (pe_un un_neg pe_int) (fun _ _ => rfl)) (pa_cons (pv 2) pa_nil))) pe_non))
      (pss_one (ps_ret (pe_ifExp (pt_cmpR op_isN (pv 3) pe_non (nomark _)) (pe_op op_add_str (pv 1) (pv 2)) (pe_op op_add_str (pe_slice C8.sl_txt (pv 1) po_none (po_some (pe_un un_neg pe_int))) (pv 3)))))), ?_⟩
    obtain ⟨⟨dx, h1⟩, h2⟩ := hb
    have hlz : (S l).length ≤ sizeLine := by
      rw [SX.S_len]
      exact sz_le (by omega)
    have hadd : ∀ H', Same H H' → laidM fs l y = l ++ [y] → (∃ i j : Str, V.str (S l) = .str i ∧ V.str (S [y]) = .str j ∧ i.length + j.length ≤ sizeLine ∧ Q (.str (i ++ j)) H') := by
      intro H' s' e
      refine ⟨S l, S [y], rfl, rfl, ?_, ?_⟩
      · rw [SX.S_len, SX.S_len]
        exact sz_le (by show l.length + 1 ≤ _; omega)
      · rw [SX.S_cat, ← e]
        exact q H' s'
    refine ⟨_, rfl, ((S l).length : Int) != 0, ⟨hlz, rfl⟩, ?_⟩
    rcases List.eq_nil_or_concat l with rfl | ⟨u, x, rfl⟩
    · refine ifF (by decide) ?_
      refine ⟨_, rfl, rfl, _, rfl, ifT rfl ⟨_, rfl, _, rfl, hadd H (Same.refl H) rfl⟩⟩
    · rw [List.concat_eq_append] at *
      have hn : (((S (u ++ [x])).length : Int) != 0) = true := by
        rw [SX.S_len, List.length_append]
        simp
        omega
      have hlast : laidM fs (u ++ [x]) y = (match leftM fs x y with | .none => u ++ [x] ++ [y] | .some z => u ++ z) := by
        unfold laidM
        rw [List.getLast?_concat, List.dropLast_concat]
      refine ifT hn ?_
      refine ⟨_, rfl, r, dx, _, rfl, h1, rfl, _, rfl, _, rfl, ?_⟩
      refine ⟨S (u ++ [x]), -1, x, rfl, rfl, hlz, atI_last u x, _, rfl, r, fa, ta, sg, fs, x, y, rfl, ⟨⟨dx, h1⟩, h2⟩, fun H1 s1 => ?_⟩
      cases e : leftM fs x y with
      | none =>
        rw [e] at hlast
        exact ⟨_, rfl, rfl, _, rfl, ifT rfl ⟨_, rfl, _, rfl, hadd H1 s1 hlast⟩⟩
      | some z =>
        rw [e] at hlast
        have hz := left_len hfs e
        refine ⟨_, rfl, rfl, _, rfl, ifF rfl ⟨_, rfl, _, rfl, _, rfl, S (u ++ [x]), rfl, hlz, ?_⟩⟩
        rw [show Txt.slice (S (u ++ [x])) none (some (-1)) = S u from SX.butlast_snoc u x]
        refine ⟨_, rfl, S u, S z, rfl, rfl, ?_, ?_⟩
        · rw [SX.S_len, SX.S_len]
          rw [List.length_append] at hl
          exact sz_le (by omega)
        · rw [SX.S_cat]
          have q1 := q H1 s1
          rw [hlast] at q1
          exact q1
end
end Lw

namespace Mq
open PySem PySem.Spec PyProof.Rows L2
/-- repr of a list or tuple without dicts in it, wherever it stands -/
def rRepP (K : PySem.W.Frag) : List V → Hp → VK → Prop := fun xs H Q => ∃ (a : Addr) (d : PyData), xs = [.ref a] ∧ Dp K H (.ref a) d ∧ d.showable = true ∧ d.hasDict = false ∧
  d.depth ≤ 40 ∧ d.shown.length ≤ sizeLine ∧ Q (.str d.shown) H
theorem call_repP {X : Cx} {k : Nat} (hr : Room k X.A) (gA : Still X.A) : CallR X (.builtin "repr") (rRepP X.K) := by
  intro pins s σ H xs us Q I r h
  obtain ⟨a, d, rfl, hd, hs, hz, hde, hl, q⟩ := h
  obtain ⟨u, rfl, rx⟩ := vals1 r
  have hu := hr.units
  obtain ⟨as, rd⟩ := Dp.reads I d _ _ hd rx
  cases rx
  exact repr_of_reads' rd hs (fun z => by rw [hz] at z; cases z) gA (by omega) (fun _ _ e => e) (fun h' u tk k => ⟨.str _, H, I.kept k, ⟨_, rfl⟩, q⟩) hl
/-- what a rule asks, told otherwise -/
theorem PE_imp {X : Cx} {e : Expr} {t t' : TE} (h : PE X e t) (i : ∀ σ H Q, t' σ H Q → t σ H Q) : PE X e t' := ⟨fun pins s σ H Q I q => h.run pins s σ H Q I (i σ H Q q)⟩
end Mq

namespace Mq
open PySem PySem.Spec PyProof.Rows L2
open SX (S)
/-! ### data of tuples, texts and numbers: where tuples stay, it stays -/
mutual
inductive Td (K : PySem.W.Frag) (H : Hp) : V → PyData → Prop
  | int (i : Int) : Td K H (.int i) (.int i)
  | str (x : Str) : Td K H (.str x) (.str x)
  | tup {a : Addr} {xs : List V} {ds : List PyData} : SqT K H a xs → TdAll K H xs ds → Td K H (.ref a) (.tuple ds)
inductive TdAll (K : PySem.W.Frag) (H : Hp) : List V → List PyData → Prop
  | nil : TdAll K H [] []
  | cons {v : V} {vs : List V} {d : PyData} {ds : List PyData} : Td K H v d → TdAll K H vs ds → TdAll K H (v :: vs) (d :: ds)
end
section
variable {K : PySem.W.Frag} {H H' : Hp}
mutual
theorem Td.kp (e : ∀ a xs, SqT K H a xs → SqT K H' a xs) : ∀ {v : V} {d : PyData}, Td K H v d → Td K H' v d
  | _, _, .int i => .int i
  | _, _, .str x => .str x
  | _, _, .tup h a => .tup (e _ _ h) (TdAll.kp e a)
theorem TdAll.kp (e : ∀ a xs, SqT K H a xs → SqT K H' a xs) : ∀ {v : List V} {d : List PyData}, TdAll K H v d → TdAll K H' v d
  | _, _, .nil => .nil
  | _, _, .cons a b => .cons (Td.kp e a) (TdAll.kp e b)
end
theorem Td.same (e : Same H H') {v : V} {d : PyData} (h : Td K H v d) : Td K H' v d := h.kp fun _ _ z => Same.tup e z
theorem TdAll.same (e : Same H H') {v : List V} {d : List PyData} (h : TdAll K H v d) : TdAll K H' v d := h.kp fun _ _ z => Same.tup e z
mutual
theorem Td.dg : ∀ {v : V} {d : PyData}, Td K H v d → Dg K H v d
  | _, _, .int i => .int i
  | _, _, .str x => .str x
  | _, _, .tup h a => .tup h (TdAll.dg a)
theorem TdAll.dg : ∀ {v : List V} {d : List PyData}, TdAll K H v d → DgAll K H v d
  | _, _, .nil => .nil
  | _, _, .cons a b => .cons (Td.dg a) (TdAll.dg b)
end
mutual
theorem Td.dp : ∀ {v : V} {d : PyData}, Td K H v d → Dp K H v d
  | _, _, .int i => .int i
  | _, _, .str x => .str x
  | _, _, .tup h a => .tup h (TdAll.dp a)
theorem TdAll.dp : ∀ {v : List V} {d : List PyData}, TdAll K H v d → DpAll K H v d
  | _, _, .nil => .nil
  | _, _, .cons a b => .cons (Td.dp a) (TdAll.dp b)
end
theorem TdAll.len : ∀ {vs : List V} {ds : List PyData}, TdAll K H vs ds → vs.length = ds.length
  | _, _, .nil => rfl
  | _, _, .cons a b => congrArg (· + 1) b.len
theorem TdAll.snoc : ∀ {vs : List V} {ds : List PyData} {v : V} {d : PyData}, TdAll K H vs ds → Td K H v d → TdAll K H (vs ++ [v]) (ds ++ [d])
  | _, _, _, _, .nil, h => .cons h .nil
  | _, _, _, _, .cons a b, h => .cons a (b.snoc h)
theorem TdAll.unsnoc : ∀ {vs : List V} {ds : List PyData} {d : PyData}, TdAll K H vs (ds ++ [d]) → ∃ us v, vs = us ++ [v] ∧ TdAll K H us ds ∧ Td K H v d
  | _, [], _, .cons a .nil => ⟨[], _, rfl, .nil, a⟩
  | _, e :: ds, _, .cons a b => by
    obtain ⟨us, v, rfl, h1, h2⟩ := b.unsnoc
    exact ⟨_ :: us, v, rfl, .cons a h1, h2⟩
theorem TdAll.at : ∀ {vs : List V} {ds : List PyData} {i : Nat} {v : V}, TdAll K H vs ds → vs[i]? = some v → ∃ d, ds[i]? = some d ∧ Td K H v d
  | _, _, 0, _, .cons a b, h => ⟨_, rfl, by cases h; exact a⟩
  | _, _, i + 1, _, .cons a b, h => TdAll.at (i := i) b h
theorem TdAll.of_strs {xs : List Str} : TdAll K H (xs.map V.str) (xs.map PyData.str) := by
  induction xs with
  | nil => exact .nil
  | cons x xs ih => exact .cons (.str x) ih
/-- a tuple of two -/
theorem Td.two {v : V} {d e : PyData} (h : Td K H v (.tuple [d, e])) : ∃ a x y, v = .ref a ∧ SqT K H a [x, y] ∧ Td K H x d ∧ Td K H y e := by
  cases h with
  | tup h a =>
    cases a with
    | cons a b =>
      cases b with
      | cons b c =>
        cases c
        exact ⟨_, _, _, rfl, h, a, b⟩
theorem Td.two' {a : Addr} {x y : V} {d e : PyData} (h : SqT K H a [x, y]) (h1 : Td K H x d) (h2 : Td K H y e) : Td K H (.ref a) (.tuple [d, e]) := .tup h (.cons h1 (.cons h2 .nil))
theorem Td.isStr {v : V} {x : Str} (h : Td K H v (.str x)) : v = .str x := by
  cases h
  rfl
end
/-! ### what can be shown, and how long it is -/
structure ShowOk (d : PyData) : Prop where
  sh : d.showable = true
  de : d.depth ≤ 40
  le : d.shown.length ≤ sizeLine
structure Gd (w n : Nat) (d : PyData) : Prop where
  cl : d.canLay0 = true
  sh : d.showable = true
  de : d.depth ≤ n
  we : d.weight ≤ w
  it : d.intsShort 13 = true
theorem gd_str {l : List Nat} {w : Nat} (h : ∀ c ∈ l, c < 1114112) (hl : l.length ≤ w) : Gd w 0 (.str (S l)) := by
  refine ⟨?_, rfl, Nat.le_refl 0, ?_, rfl⟩
  · show (l.toArray : Array Nat).all (fun d => decide (d < 1114112)) = true
    rw [List.all_toArray]
    exact List.all_eq_true.mpr fun c hc => decide_eq_true (h c hc)
  · show (S l).length ≤ w
    rw [SX.S_len]
    exact hl
theorem gd_int {k : Nat} (h : k ≤ 1000) : Gd 20 0 (.int (k : Nat)) := by
  obtain ⟨a, b, c⟩ := small_short k h
  exact ⟨rfl, b, Nat.le_refl 0, c, by show decide _ = true; exact decide_eq_true a⟩
theorem Gd.mono {w n w' n' : Nat} {d : PyData} (h : Gd w n d) (hw : w ≤ w') (hn : n ≤ n') : Gd w' n' d := ⟨h.cl, h.sh, Nat.le_trans h.de hn, Nat.le_trans h.we hw, h.it⟩
theorem gd_all {w n : Nat} : ∀ {ds : List PyData}, (∀ d ∈ ds, Gd w n d) → PyData.canLayAll0 ds = true ∧ PyData.showableAll ds = true ∧ PyData.depthAll ds ≤ n ∧ PyData.weightAll ds ≤ ds.length * (w + 1) ∧ PyData.intsShortAll 13 ds = true
  | [], _ => ⟨rfl, rfl, Nat.zero_le _, Nat.zero_le _, rfl⟩
  | d :: ds, h => by
    obtain ⟨a, b, c, e, f⟩ := gd_all fun x hx => h x (List.mem_cons_of_mem _ hx)
    have g := h d List.mem_cons_self
    refine ⟨?_, ?_, ?_, ?_, ?_⟩
    · show (d.canLay0 && PyData.canLayAll0 ds) = true
      rw [g.cl, a]
      rfl
    · show (d.showable && PyData.showableAll ds) = true
      rw [g.sh, b]
      rfl
    · exact Nat.max_le.mpr ⟨g.de, c⟩
    · show d.weight + 1 + PyData.weightAll ds ≤ (ds.length + 1) * (w + 1)
      have := g.we
      rw [Nat.add_mul, Nat.one_mul]
      omega
    · show (d.intsShort 13 && PyData.intsShortAll 13 ds) = true
      rw [g.it, f]
      rfl
theorem gd_tup {w n m : Nat} {ds : List PyData} (h : ∀ d ∈ ds, Gd w n d) (hl : ds.length ≤ m) : Gd (m * (w + 1)) (n + 1) (.tuple ds) := by
  obtain ⟨a, b, c, e, f⟩ := gd_all h
  exact ⟨a, b, Nat.succ_le_succ c, Nat.le_trans e (Nat.mul_le_mul_right _ hl), f⟩
theorem gd_lst {w n m : Nat} {ds : List PyData} (h : ∀ d ∈ ds, Gd w n d) (hl : ds.length ≤ m) : Gd (m * (w + 1)) (n + 1) (.list ds) := by
  obtain ⟨a, b, c, e, f⟩ := gd_all h
  exact ⟨a, b, Nat.succ_le_succ c, Nat.le_trans e (Nat.mul_le_mul_right _ hl), f⟩
theorem Gd.ok {w n : Nat} {d : PyData} (h : Gd w n d) (hw : w ≤ 1000000) (hn : n ≤ 40) : ShowOk d :=
  ⟨h.sh, Nat.le_trans h.de hn, shown_fits h.cl (Nat.le_trans h.de (Nat.le_trans hn (by decide))) (Nat.le_trans h.we hw) h.it⟩
end Mq

namespace Lw
open PySem PySem.Spec PyProof.Rows L2 Mq
open SX (S)
/-! ### what becomes of each letter -/
def ledM (fs : List Fd) (w row : List Nat) : List Nat := row.foldl (laidM fs) w
structure Spot where
  lay : Bool
  no : Nat
def kindS (b : Bool) : Str := if b then "lay" else "web"
def spD (p : Spot) : PyData := .tuple [.str (kindS p.lay), .int (p.no : Nat)]
def itD (q : Nat × Spot) : PyData := .tuple [.str (S [q.1]), spD q.2]
inductive Ev where
  | st
  | go (p : Spot)
  | tu (p : Spot)
def evD : Ev → PyData
  | .st => .tuple [.str "stands"]
  | .go p => .tuple [.str "goes", spD p]
  | .tu p => .tuple [.str "turns", spD p]
structure Run where
  ev : List Ev
  st : List (Nat × Spot)
def stepM (fs : List Fd) (k y : Nat) (r : Run) : Run :=
  match r.st.getLast? with
  | .none => ⟨r.ev ++ [.st], r.st ++ [(y, ⟨true, k⟩)]⟩
  | .some (x, p) => match leftM fs x y with
    | .none => ⟨r.ev ++ [.st], r.st ++ [(y, ⟨true, k⟩)]⟩
    | .some [] => ⟨r.ev ++ [.go p], r.st.dropLast⟩
    | .some (c :: _) => ⟨r.ev ++ [.tu p], r.st.dropLast ++ [(c, ⟨true, k⟩)]⟩
def webSt (w : List Nat) : List (Nat × Spot) := (List.range w.length).map fun i => (w.getD i 0, ⟨false, i⟩)
def runM (fs : List Fd) (w row : List Nat) : Nat → Run
  | 0 => ⟨[], webSt w⟩
  | i + 1 => stepM fs i (row.getD i 0) (runM fs w row i)
def zOk (gs : List Fd) : Prop := ∀ g ∈ gs, g.z.length ≤ 1
theorem leftz {gs : List Fd} (h : zOk gs) {x y : Nat} {z : List Nat} (e : leftM gs x y = .some z) : z.length ≤ 1 := by
  unfold leftM at e
  cases hf : gs.find? fun f => decide (f.x = x) && decide (f.y = y) with
  | none => rw [hf] at e; cases e
  | some f =>
    rw [hf] at e
    cases e
    exact h f (List.mem_of_find?_eq_some hf)
theorem FsOk.z {sg : List Nat} {fs : List Fd} (h : FsOk sg fs) : zOk fs := by
  intro g hg
  rcases (h.ok g hg).2.2 with e | ⟨c, _, e⟩
  · rw [e]
    exact Nat.zero_le _
  · rw [e]
    exact Nat.le_refl 1
theorem webSt_fst (w : List Nat) : (webSt w).map (·.1) = w := by
  unfold webSt
  rw [List.map_map]
  refine List.ext_getElem (by simp) fun i h1 h2 => ?_
  rw [List.getElem_map, List.getElem_range]
  show w.getD i 0 = _
  rw [List.getD_eq_getElem?_getD, List.getElem?_eq_getElem h2]
  rfl
theorem step_fst {fs : List Fd} (h : zOk fs) (k y : Nat) (r : Run) : (stepM fs k y r).st.map (·.1) = laidM fs (r.st.map (·.1)) y := by
  unfold stepM laidM
  rw [List.getLast?_map]
  cases r.st.getLast? with
  | none =>
    rw [List.map_append]
    rfl
  | some q =>
    obtain ⟨x, p⟩ := q
    show List.map _ (match leftM fs x y with | .none => _ | .some [] => _ | .some (c :: _) => _ : Run).st = match leftM fs x y with | .none => _ | .some z => _
    cases e : leftM fs x y with
    | none =>
      rw [List.map_append]
      rfl
    | some z =>
      have hz := leftz h e
      match z, hz with
      | [], _ =>
        show List.map _ r.st.dropLast = (List.map _ r.st).dropLast ++ []
        rw [List.append_nil, List.map_dropLast]
      | [c], _ =>
        show List.map _ (r.st.dropLast ++ [(c, _)]) = (List.map _ r.st).dropLast ++ [c]
        rw [List.map_append, List.map_dropLast]
        rfl
theorem led_snoc (fs : List Fd) (w row : List Nat) (y : Nat) : ledM fs w (row ++ [y]) = laidM fs (ledM fs w row) y := by
  unfold ledM
  rw [List.foldl_append]
  rfl
theorem take_snoc {row : List Nat} {i : Nat} (h : i < row.length) : row.take (i + 1) = row.take i ++ [row.getD i 0] := by
  rw [List.take_add_one, List.getD_eq_getElem?_getD, List.getElem?_eq_getElem h]
  rfl
theorem run_fst {fs : List Fd} (h : zOk fs) (w row : List Nat) : ∀ i, i ≤ row.length → (runM fs w row i).st.map (·.1) = ledM fs w (row.take i)
  | 0, _ => webSt_fst w
  | i + 1, hi => by
    show (stepM fs i (row.getD i 0) (runM fs w row i)).st.map (·.1) = _
    rw [step_fst h, run_fst h w row i (by omega), take_snoc (by omega), led_snoc]
theorem step_ev (fs : List Fd) (k y : Nat) (r : Run) : (stepM fs k y r).ev.length = r.ev.length + 1 := by
  unfold stepM
  split
  · exact List.length_append
  · split <;> exact List.length_append
theorem step_st (fs : List Fd) (k y : Nat) (r : Run) : (stepM fs k y r).st.length ≤ r.st.length + 1 := by
  unfold stepM
  split
  · exact Nat.le_of_eq List.length_append
  · split
    · exact Nat.le_of_eq List.length_append
    · show r.st.dropLast.length ≤ _
      rw [List.length_dropLast]
      omega
    · show (r.st.dropLast ++ [_]).length ≤ _
      rw [List.length_append, List.length_dropLast]
      show r.st.length - 1 + 1 ≤ _
      omega
theorem run_len (fs : List Fd) (w row : List Nat) : ∀ i, (runM fs w row i).ev.length = i ∧ (runM fs w row i).st.length ≤ w.length + i
  | 0 => ⟨rfl, by show (webSt w).length ≤ _; unfold webSt; rw [List.length_map, List.length_range]; exact Nat.le_refl _⟩
  | i + 1 => by
    obtain ⟨a, b⟩ := run_len fs w row i
    have h1 := step_ev fs i (row.getD i 0) (runM fs w row i)
    have h2 := step_st fs i (row.getD i 0) (runM fs w row i)
    exact ⟨by show (stepM _ _ _ _).ev.length = _; omega, by show (stepM _ _ _ _).st.length ≤ _; omega⟩
/-- numbers of spots stay small -/
def Low (n : Nat) (r : Run) : Prop := (∀ q ∈ r.st, q.2.no < n) ∧ ∀ e ∈ r.ev, match e with | .st => True | .go p => p.no < n | .tu p => p.no < n
theorem step_low {fs : List Fd} {n k y : Nat} {r : Run} (h : Low n r) (hk : k < n) : Low n (stepM fs k y r) := by
  obtain ⟨h1, h2⟩ := h
  have add : ∀ (l : List (Nat × Spot)) (c : Nat), (∀ q ∈ l, q.2.no < n) → ∀ q ∈ l ++ [(c, (⟨true, k⟩ : Spot))], q.2.no < n := by
    intro l c hl q hq
    rcases List.mem_append.mp hq with hq | hq
    · exact hl q hq
    · rw [List.mem_singleton.mp hq]
      exact hk
  have addE : ∀ (e : Ev), (match e with | .st => True | .go p => p.no < n | .tu p => p.no < n) → ∀ x ∈ r.ev ++ [e], match x with | .st => True | .go p => p.no < n | .tu p => p.no < n := by
    intro e he x hx
    rcases List.mem_append.mp hx with hx | hx
    · exact h2 x hx
    · rw [List.mem_singleton.mp hx]
      exact he
  have dr : ∀ q ∈ r.st.dropLast, q.2.no < n := fun q hq => h1 q ((List.dropLast_sublist _).subset hq)
  unfold stepM
  split
  · exact ⟨add _ _ h1, addE _ trivial⟩
  · rename_i x p e
    have hp : p.no < n := h1 _ (List.mem_of_getLast? e)
    split
    · exact ⟨add _ _ h1, addE _ trivial⟩
    · exact ⟨dr, addE (.go p) hp⟩
    · exact ⟨add _ _ dr, addE (.tu p) hp⟩
theorem run_low (fs : List Fd) (w row : List Nat) {n : Nat} (hw : w.length ≤ n) : ∀ i, i ≤ n → Low n (runM fs w row i)
  | 0, _ => ⟨fun q hq => by
      obtain ⟨i, hi, rfl⟩ := List.mem_map.mp hq
      have := List.mem_range.mp hi
      show i < n
      omega, fun e he => by cases he⟩
  | i + 1, hi => step_low (run_low fs w row hw i (by omega)) (by omega)
theorem gd_sp {n : Nat} {p : Spot} (h : p.no < n) (hn : n ≤ 1000) : Gd 50 1 (spD p) := by
  have h1 : Gd 20 0 (.str (kindS p.lay)) := by
    cases p.lay
    · exact ⟨by decide +kernel, rfl, Nat.le_refl 0, by decide +kernel, rfl⟩
    · exact ⟨by decide +kernel, rfl, Nat.le_refl 0, by decide +kernel, rfl⟩
  refine Gd.mono (gd_tup (w := 20) (n := 0) (m := 2) (fun d hd => ?_) (Nat.le_refl 2)) (by decide) (Nat.le_refl 1)
  simp only [List.mem_cons, List.not_mem_nil, or_false] at hd
  rcases hd with rfl | rfl
  · exact h1
  · exact gd_int (by omega)
theorem gd_ev {n : Nat} {e : Ev} (h : match e with | .st => True | .go p => p.no < n | .tu p => p.no < n) (hn : n ≤ 1000) : Gd 102 2 (evD e) := by
  cases e with
  | st => exact Gd.mono (gd_tup (w := 50) (n := 1) (m := 1) (fun d hd => by rw [List.mem_singleton.mp hd]; exact ⟨by decide +kernel, rfl, by decide, by decide +kernel, rfl⟩) (Nat.le_refl 1)) (by decide) (Nat.le_refl 2)
  | go p =>
    refine gd_tup (w := 50) (n := 1) (m := 2) (fun d hd => ?_) (Nat.le_refl 2)
    simp only [List.mem_cons, List.not_mem_nil, or_false] at hd
    rcases hd with rfl | rfl
    · exact ⟨by decide +kernel, rfl, by decide, by decide +kernel, rfl⟩
    · exact gd_sp h hn
  | tu p =>
    refine gd_tup (w := 50) (n := 1) (m := 2) (fun d hd => ?_) (Nat.le_refl 2)
    simp only [List.mem_cons, List.not_mem_nil, or_false] at hd
    rcases hd with rfl | rfl
    · exact ⟨by decide +kernel, rfl, by decide, by decide +kernel, rfl⟩
    · exact gd_sp h hn
/-- the three answers -/
def websM (fs : List Fd) (w row : List Nat) : List (List Nat) := (List.range (row.length + 1)).map fun i => ledM fs w (row.take i)
def ansM (fs : List Fd) (w row : List Nat) : Nat → PyData
  | 0 => .tuple ((websM fs w row).map fun l => .str (S l))
  | 1 => .tuple ((runM fs w row row.length).ev.map evD)
  | _ => .tuple ((runM fs w row row.length).st.map fun q => spD q.2)
end Lw

namespace Lw
open PySem PySem.Spec PyProof.Rows L2 Mq
open SX (S)
/-! ### rows are looked at; the webs along a row -/
/-- x(e, ..), x a def that is known by what it says of its arguments -/
theorem pe_callR {X : Cx} {CX : CXT} {k : Nat} {f : Addr} {sp : Sp} {E : XK} {x : Str} {e : Expr} {es : List Expr} {t : TA} {p pos : Pos} (F : FnR X.prog X.w X.K X.mg X.base CX k f sp) (hr : Room k X.A)
    (hg : Gl X x) (hm : X.mg x = some (.ref f)) (hk : PySem.W.keepIn X.K (.ref f) = true) (hx : Passes CX X E) (ha : PA X (e :: es) t) (hd : (x == ("__debug__" : Str)) = false := by decide)
    (he : starEach (e :: es) X.env = (false, eval e X.env) :: starEach es X.env := by rfl) (hpl : (backTo pos (starEach es X.env)).any (·.1) = false := by rfl) :
    PE X (.Call (.Name x p) (e :: es) [] pos) (fun σ H Q => t σ H fun vs H1 => sp vs H1 Q E) := by
  refine ⟨fun pins s σ H Q I h => ?_⟩
  refine wpAny_Call_Name_kw (ld_glob I hg hm ?_ hd)
  refine PySem.W.callWith_K (h₀ := X.base) I.ok.mod.kin hk (thn (ha.run pos pins s σ H _ I h) fun us s1 ⟨vs, H1, I1, r, q⟩ => ⟨I1.kIn, ?_⟩) he hpl
  exact wpAny_call (run_fnR F hr hx I1 r q)
def BadS (K : PySem.W.Frag) (H : Hp) (sg : List Nat) (v : V) : Prop := ∀ H', Same H H' → WebBad K H' sg v
theorem BadS.same {K : PySem.W.Frag} {H H' : Hp} {sg : List Nat} {v : V} (h : BadS K H sg v) (e : Same H H') : BadS K H' sg v := fun H2 s => h H2 (e.trans s)
theorem led_len {sg : List Nat} {fs : List Fd} (h : FsOk sg fs) : ∀ (row w : List Nat), (ledM fs w row).length ≤ w.length + row.length
  | [], w => Nat.le_refl _
  | y :: row, w => by
    have h1 := led_len h row (laidM fs w y)
    have h2 : (laidM fs w y).length ≤ w.length + 1 := by
      unfold laidM
      split
      · rw [List.length_append]
        exact Nat.le_refl _
      · split
        · rw [List.length_append]
          exact Nat.le_refl _
        · rename_i z e
          have := left_len h e
          rw [List.length_append, List.length_dropLast]
          omega
    show (ledM fs (laidM fs w y) row).length ≤ w.length + (row.length + 1)
    omega
def spRowsIn (K : PySem.W.Frag) (C CR : Addr) : Sp := fun vs H Q E => ∃ (r fa ta p : Addr) (sg : List Nat) (fs : List Fd) (u : V), vs = [.ref r, .ref p] ∧ SqT K H p [u] ∧ BkAt H C r sg fs fa ta ∧
  ((∃ l, WebGood sg u l ∧ ∀ H', Same H H' → Q .non H') ∨ (BadS K H sg u ∧ ∀ H' d, Same H H' → H' d = none → E (.ref CR) (some d) (upd H' d (.xd [("thing", u)]))))
def spRows (K : PySem.W.Frag) (C CR : Addr) : Sp := fun vs H Q E => ∃ (r fa ta : Addr) (sg : List Nat) (fs : List Fd) (u : V), vs = [.ref r, u] ∧ BkAt H C r sg fs fa ta ∧
  ((∃ l, WebGood sg u l ∧ ∀ H', Same H H' → Q .non H') ∨ (BadS K H sg u ∧ ∀ H' d, Same H H' → H' d = none → E (.ref CR) (some d) (upd H' d (.xd [("thing", u)]))))
/-- what a book, a web and a row are refused for, ahead of an answer -/
def Woven (K : PySem.W.Frag) (CW CR : Addr) (sg : List Nat) (v u : V) (H : Hp) (E : XK) (good : List Nat → List Nat → Prop) : Prop :=
  (∃ l row, WebGood sg v l ∧ WebGood sg u row ∧ good l row) ∨
  (BadS K H sg v ∧ ∀ H' d, Same H H' → H' d = none → E (.ref CW) (some d) (upd H' d (.xd [("thing", v)]))) ∨
  ((∃ l, WebGood sg v l) ∧ BadS K H sg u ∧ ∀ H' d, Same H H' → H' d = none → E (.ref CR) (some d) (upd H' d (.xd [("thing", u)])))
def spWoven (K : PySem.W.Frag) (C CW CR : Addr) : Sp := fun vs H Q E => ∃ (r fa ta : Addr) (sg : List Nat) (fs : List Fd) (v u : V), vs = [.ref r, v, u] ∧ BkAt H C r sg fs fa ta ∧
  Woven K CW CR sg v u H E fun _ _ => ∀ H', Same H H' → Q .non H'
def spWebs (C : Addr) : Sp := fun vs H Q _ => ∃ (r fa ta : Addr) (sg w row : List Nat) (fs : List Fd), vs = [.ref r, .str (S w), .str (S row)] ∧ BkAt H C r sg fs fa ta ∧ FsOk sg fs ∧ w.length ≤ 1000 ∧ row.length ≤ 1000 ∧
  ∀ H' L, Same H H' → H L = none → H' L = some (.lst ((websM fs w row).map fun l => .str (S l))) → Q (.ref L) H'
/-- an answer: 0 webs_along, 1 events, 2 sources -/
def spAns (K : PySem.W.Frag) (C CW CR : Addr) (way : Nat) : Sp := fun vs H Q E => ∃ (r fa ta : Addr) (sg : List Nat) (fs : List Fd) (v u : V), vs = [.ref r, v, u] ∧ BkAt H C r sg fs fa ta ∧ FsOk sg fs ∧
  Woven K CW CR sg v u H E fun l row => ∀ H' x, Same H H' → Td K H' x (ansM fs l row way) → Q x H'
section
variable {P : Program} {w : World} {K : PySem.W.Frag} {mg : Str → Option Value} {base : Heap} {C CW CR : Addr}
theorem ok_check_rows {f fW fB : Addr} {fd fdW : FuncData} (F : Fun K "check_rows" "check_rows" s_check_rows f fd) (B : Blt mg) (R : BkC K C)
    (FW : Fun K "is_word" "is_word" s_is_word fW fdW) (gW : mg "is_word" = some (.ref fW)) (bW : Binds K fdW ["letters", "thing"] [])
    (GW : FnOk P w K mg base CX0 1 fW fdW ["letters", "thing"] (spWord K)) (T : MqE_thing.Txt K mg "BadRow" "BadRow.__init__" CR fB) :
    FnR P w K mg base (L2.CX P w) 3 f (spRows K C CR) := by
  obtain ⟨oc, od, kV, doc, pm, an, cdv, ct, osl, rfl, lk, hcd⟩ := F.ex
  have G := StX.fn_star (P := P) (w := w) (mg := mg) (base := base) (k := 2) (sp := spRowsIn K C CR) (ps := ["book"]) (pv := "rows") (CX := L2.CX P w) lk hcd sc_check_rows StX.cxUp
    (StX.bind_star1 (B := fun us => bindArgs (PySem.W.fnOf "check_rows" "check_rows" (defArgs s_check_rows) (defBody s_check_rows) (defScope s_check_rows) .none kV doc pm an cdv ct) ⟨us, []⟩) (p1 := "book") (pv := "rows") (fun a => by rfl) (fun a r rs => by rfl)) (fun A outer s H vs Q E hr h => ?_)
  · intro A outer s H us vs Q E hr e0 rv h
    obtain ⟨r, fa, ta, sg, fs, u, rfl, hb, h⟩ := h
    refine G A outer s H us _ Q E hr e0 rv ⟨[.ref r], [u], rfl, rfl, sz_le (n := 1) (by decide), fun p hp => ?_⟩
    have s1 := same_new (o := HO.tup [u]) hp
    refine ⟨r, fa, ta, p, sg, fs, u, rfl, Or.inl (Or.inl upd_same), hb.same s1, ?_⟩
    rcases h with ⟨l, hg, q⟩ | ⟨hbad, q⟩
    · exact Or.inl ⟨l, hg, fun H' s' => q H' (s1.trans s')⟩
    · exact Or.inr ⟨hbad.same s1, fun H' d s' hd => q H' d (s1.trans s') hd⟩
  · obtain ⟨r, fa, ta, p, sg, fs, u, rfl, hp, hb, h⟩ := h
    refine ⟨_, (pss_one (ps_for (passes_of rfl) rfl (pi_tup (pv 1)) (pg_name (i := 2) sc_check_rows.nd rfl (Or.inl rfl))
      (pss_one (ps_if (pt_not (pt_val (pe_call GW (hr.mono (by decide)) (by rfl) gW FW.kp bW .nil pass0 (pa_cons (pe_fld (pv 0) rfl) (pa_cons (pv 2) pa_nil))))) (pss_one (MqE_thing.ps_raise rfl T hr (takes_of rfl rfl rfl rfl) (pa_cons (pv 2) pa_nil))) pss_nil)))), ?_⟩
    obtain ⟨⟨dx, h1⟩, h2⟩ := hb
    refine ⟨_, rfl, p, rfl, ⟨_, hp⟩, ?_⟩
    refine for_tup (xs := [u]) (fun i σ H' => Same H H' ∧ (∃ o, σ = [some (.ref r), some (.ref p), o]) ∧ (i = 0 ∨ ∃ l, WebGood sg u l ∧ ∀ H', Same H H' → Q .non H')) ⟨Same.refl H, ⟨_, rfl⟩, Or.inl rfl⟩ (fun i σ H' _ q => Same.tup q.1 hp) ?_ ?_
    · rintro i x σ H2 hx ⟨s2, ⟨o, rfl⟩, _⟩
      obtain rfl : u = x := by
        match i, hx with
        | 0, hx => exact Option.some.inj hx
      refine ⟨_, rfl, r, C, dx, _, _, rfl, s2 _ _ h1, R.cls, R.nL, rfl, _, rfl, sg, u, rfl, ?_⟩
      rcases h with ⟨l, hg, q⟩ | ⟨hbad, q⟩
      · refine Or.inl ⟨l, hg.1, by have := hg.2.2; omega, fun H3 s3 => ⟨_, rfl, ?_⟩⟩
        rw [allB_of hg.2.1]
        exact ifF rfl ⟨s2.trans s3, ⟨_, rfl⟩, Or.inr ⟨l, hg, q⟩⟩
      · have raise : ∀ H3, Same H2 H3 → (∃ v', [u] = [v'] ∧ ∀ d, H3 d = none → E (.ref CR) (some d) (upd H3 d (.xd [("thing", v')]))) := fun H3 s3 => ⟨u, rfl, fun d hd => q H3 d (s2.trans s3) hd⟩
        rcases hbad H2 s2 with ⟨l, hv, hl, ha⟩ | hn
        · refine Or.inl ⟨l, hv, by omega, fun H3 s3 => ⟨_, rfl, ?_⟩⟩
          rw [ha]
          exact ifT rfl ⟨_, rfl, raise H3 s3⟩
        · exact Or.inr ⟨hn, fun H3 s3 => ⟨_, rfl, ifT rfl ⟨_, rfl, raise H3 s3⟩⟩⟩
    · rintro σ H2 ⟨s2, _, z | ⟨l, hg, q⟩⟩
      · cases z
      · exact q H2 s2
theorem ok_check_woven {f fK fR : Addr} {fd fdK fdR : FuncData} (F : Fun K "check_woven" "check_woven" s_check_woven f fd) (R : BkC K C)
    (FK : Fun K "check_web" "check_web" s_check_web fK fdK) (gK : mg "check_web" = some (.ref fK)) (bK : Binds K fdK ["letters", "thing"] []) (GK : FnOk P w K mg base (L2.CX P w) 3 fK fdK ["letters", "thing"] (spCheck K CW))
    (FR : Fun K "check_rows" "check_rows" s_check_rows fR fdR) (gR : mg "check_rows" = some (.ref fR)) (GR : FnR P w K mg base (L2.CX P w) 3 fR (spRows K C CR)) :
    FnOk P w K mg base (L2.CX P w) 4 f fd ["book", "web", "row"] (spWoven K C CW CR) := by
  refine F.okX sc_check_woven (fun vs H Q E h => ?_) (fun cdv A outer s H vs Q E hr h => ?_)
  · obtain ⟨_, _, _, _, _, _, _, rfl, _⟩ := h
    rfl
  · obtain ⟨r, fa, ta, sg, fs, v, u, rfl, hb, h⟩ := h
    refine ⟨_, (pss_cons (ps_expr (pe_call GK (hr.mono (by decide)) (by rfl) gK FK.kp bK .nil (passes_call (takes_of rfl rfl rfl rfl) (fun _ _ _ _ z => z)) (pa_cons (pe_fld (pv 0) rfl) (pa_cons (pv 1) pa_nil))))
      (pss_one (ps_expr (pe_callR GR (hr.mono (by decide)) (by rfl) gR FR.kp (passes_call (takes_of rfl rfl rfl rfl) (fun _ _ _ _ z => z)) (pa_cons (pv 0) (pa_cons (pv 2) pa_nil)))))), ?_⟩
    obtain ⟨dx, h1⟩ := hb.1
    refine ⟨_, rfl, r, C, dx, _, _, rfl, h1, R.cls, R.nL, rfl, _, rfl, sg, v, rfl, ?_⟩
    rcases h with ⟨l, row, hg, hgr, q⟩ | ⟨hbad, q⟩ | ⟨⟨l, hg⟩, hbad, q⟩
    · refine Or.inl ⟨l, hg, fun H1 s1 => ?_⟩
      exact ⟨_, rfl, _, rfl, r, fa, ta, sg, fs, u, rfl, hb.same s1, Or.inl ⟨row, hgr, fun H2 s2 => q H2 (s1.trans s2)⟩⟩
    · exact Or.inr ⟨hbad H (Same.refl H), q⟩
    · refine Or.inl ⟨l, hg, fun H1 s1 => ?_⟩
      exact ⟨_, rfl, _, rfl, r, fa, ta, sg, fs, u, rfl, hb.same s1, Or.inr ⟨hbad.same s1, fun H2 d s2 hd => q H2 d (s1.trans s2) hd⟩⟩
theorem webs_snoc (fs : List Fd) (w row : List Nat) (i : Nat) : ((List.range (i + 1)).map fun k => V.str (S (ledM fs w (row.take k)))) = ((List.range i).map fun k => V.str (S (ledM fs w (row.take k)))) ++ [V.str (S (ledM fs w (row.take i)))] := by
  rw [List.range_succ, List.map_append]
  rfl
theorem ok_webs_behind {f fB : Addr} {fd fdB : FuncData} (F : Fun K "webs_behind" "webs_behind" s_webs_behind f fd)
    (FB : Fun K "laid_behind" "laid_behind" s_laid_behind fB fdB) (gB : mg "laid_behind" = some (.ref fB)) (bB : Binds K fdB ["book", "web", "letter"] []) (GB : FnOk P w K mg base CX0 2 fB fdB ["book", "web", "letter"] (spBehind C)) :
    FnOk P w K mg base CX0 3 f fd ["book", "web", "row"] (spWebs C) := by
  refine F.ok sc_webs_behind (fun vs H Q E h => ?_) (fun cdv A outer s H vs Q E hr h => ?_)
  · obtain ⟨_, _, _, _, _, _, _, rfl, _⟩ := h
    rfl
  · obtain ⟨r, fa, ta, sg, l, row, fs, rfl, hb, hfs, hl, hrl, q⟩ := h
    refine ⟨_, (pss_cons (ps_set (i := 3) sc_webs_behind.nd rfl (Or.inl rfl) (Mq.pe_ls (pa_cons (pv 1) pa_nil)))
      (pss_cons (ps_for PassesOwn.never rfl (pi_str (pv 2)) (pg_name (i := 4) sc_webs_behind.nd rfl (Or.inl rfl))
        (pss_one (ps_expr (pe_bm PySem.F.plainAttrs_list PySem.F.slot_list_append PySem.F.type_list_append mt_append (pv 3) (pa_cons (pe_call GB (hr.mono (by decide)) (by rfl) gB FB.kp bB .nil pass0 (pa_cons (pv 0) (pa_cons (pe_ix ix_list (pv 3) (pe_un un_neg pe_int) (fun _ _ => rfl)) (pa_cons (pv 4) pa_nil)))) pa_nil)))))
      (pss_one (ps_ret (pv 3))))), ?_⟩
    refine ⟨_, rfl, sz_le (n := 1) (by decide), fun L hL _ => ?_⟩
    have s1 := same_new (o := HO.lst [V.str (S l)]) hL
    have hL1 : upd H L (.lst [V.str (S l)]) L = some (.lst ((List.range (0 + 1)).map fun k => V.str (S (ledM fs l (row.take k))))) := upd_same
    generalize upd H L (.lst [V.str (S l)]) = H1 at s1 hL1 ⊢
    refine ⟨_, rfl, S row, rfl, ?_⟩
    refine for_it (walk_S row) (fun i σ H' => Same H H' ∧ H' L = some (.lst ((List.range (i + 1)).map fun k => V.str (S (ledM fs l (row.take k))))) ∧ ∃ o, σ = [some (.ref r), some (.str (S l)), some (.str (S row)), some (.ref L), o]) ⟨s1, hL1, _, rfl⟩ (fun _ _ _ _ _ => trivial) ?_ ?_
    · rintro i x σ H2 H2' hi ⟨s2, hL2, o, rfl⟩ ⟨rfl, rfl⟩
      have hlen := led_len hfs (row.take i) l
      rw [List.length_take] at hlen
      rw [webs_snoc] at hL2
      refine ⟨_, rfl, Or.inl ⟨rfl, _, SqL.of hL2⟩, _, rfl, _, rfl, _, rfl, L, _, -1, _, rfl, rfl, SqL.of hL2, atI_last _ _, _, rfl, r, fa, ta, sg, ledM fs l (row.take i), fs, row.getD i 0, rfl, hb.same s2, hfs, by omega, fun H4 s4 => ?_⟩
      have hL4 := s4 _ _ hL2
      refine ⟨L, _, _, rfl, rfl, hL4, sz_lt (by rw [List.length_append, List.length_map, List.length_range]; show i + 1 ≤ _; omega), ?_, ?_, _, rfl⟩
      · intro b o e
        rw [upd_ne (ne_of_none e hL)]
        exact s4 b o (s2 b o e)
      · rw [upd_same, webs_snoc fs l row (i + 1), webs_snoc fs l row i, take_snoc hi, led_snoc]
    · rintro σ H2 ⟨s2, hL2, o, rfl⟩
      refine ⟨_, rfl, q H2 L s2 hL ?_⟩
      rw [hL2]
      unfold websM
      rw [List.map_map]
      rfl
theorem ok_webs_along {f fV fB : Addr} {fd fdV fdB : FuncData} (F : Fun K "webs_along" "webs_along" s_webs_along f fd) (B : Blt mg)
    (FV : Fun K "check_woven" "check_woven" s_check_woven fV fdV) (gV : mg "check_woven" = some (.ref fV)) (bV : Binds K fdV ["book", "web", "row"] []) (GV : FnOk P w K mg base (L2.CX P w) 4 fV fdV ["book", "web", "row"] (spWoven K C CW CR))
    (FB : Fun K "webs_behind" "webs_behind" s_webs_behind fB fdB) (gB : mg "webs_behind" = some (.ref fB)) (bB : Binds K fdB ["book", "web", "row"] []) (GB : FnOk P w K mg base CX0 3 fB fdB ["book", "web", "row"] (spWebs C)) :
    FnOk P w K mg base (L2.CX P w) 5 f fd ["book", "web", "row"] (spAns K C CW CR 0) := by
  refine F.okX sc_webs_along (fun vs H Q E h => ?_) (fun cdv A outer s H vs Q E hr h => ?_)
  · obtain ⟨_, _, _, _, _, _, _, rfl, _⟩ := h
    rfl
  · obtain ⟨r, fa, ta, sg, fs, v, u, rfl, hb, hfs, h⟩ := h
    refine ⟨_, (pss_cons (ps_expr (pe_call GV (hr.mono (by decide)) (by rfl) gV FV.kp bV .nil (passes_call (takes_of rfl rfl rfl rfl) (fun _ _ _ _ z => z)) (pa_cons (pv 0) (pa_cons (pv 1) (pa_cons (pv 2) pa_nil)))))
      (pss_one (ps_ret (pe_callTy call_tuple_of (by rfl) B.tuple (by decide +kernel) (pa_cons (pe_call GB (hr.mono (by decide)) (by rfl) gB FB.kp bB .nil pass0 (pa_cons (pv 0) (pa_cons (pv 1) (pa_cons (pv 2) pa_nil)))) pa_nil))))), ?_⟩
    refine ⟨_, rfl, _, rfl, _, rfl, r, fa, ta, sg, fs, v, u, rfl, hb, ?_⟩
    rcases h with ⟨l, row, hg, hgr, q⟩ | h | h
    · refine Or.inl ⟨l, row, hg, hgr, fun H1 s1 => ?_⟩
      have e1 := hg.1
      have e2 := hgr.1
      subst e1 e2
      refine ⟨_, rfl, _, rfl, _, rfl, r, fa, ta, sg, l, row, fs, rfl, hb.same s1, hfs, hg.2.2, hgr.2.2, fun H2 L s2 _ hL => ?_⟩
      refine ⟨L, _, rfl, Or.inl ⟨SqL.of hL, fun t ht => ?_⟩⟩
      have s3 := same_new (o := HO.tup ((websM fs l row).map fun l => V.str (S l))) ht
      refine q _ _ ((s1.trans s2).trans s3) ?_
      have z : SqT K (upd H2 t (.tup ((websM fs l row).map fun l => V.str (S l)))) t ((websM fs l row).map fun l => V.str (S l)) := Or.inl (Or.inl upd_same)
      refine .tup z ?_
      have := TdAll.of_strs (K := K) (H := upd H2 t (.tup ((websM fs l row).map fun l => V.str (S l)))) (xs := (websM fs l row).map S)
      rw [List.map_map, List.map_map] at this
      exact this
    · exact Or.inr (Or.inl h)
    · exact Or.inr (Or.inr h)
end
end Lw

namespace Mq
open PySem PySem.Spec PyProof.Rows L2
/-! ### enumerate(v), v a text -/
def Ies (x : Str) : It :=
  ⟨fun i _ => i < x.cps.size, fun i H v H' => ∃ T c, v = .ref T ∧ H T = none ∧ x.cps[i]? = some c ∧ H' = upd H T (.tup [.int (i : Nat), .str ⟨#[c]⟩]), fun i _ => x.cps.size ≤ i⟩
theorem draws_of {prog : Program} {w : World} {A : Around} (hh : A.handled = none) (it : Addr) (x : Str) (t : Tok) {ty : String} (hty : ty = "str_ascii_iterator" ∨ ty = "str_iterator") :
    Draws prog w A it [it] x.cps.size (fun i v => ∃ c u, x.cps[i]? = some c ∧ v = .str ⟨#[c]⟩ u) (fun i h => h.IsStrIter it ty x t i) := by
  rcases hty with e | e
  · rw [e]
    exact Draws.strAscii hh it x t
  · rw [e]
    exact Draws.strWide hh it x t
theorem turn_enumS {P : Program} {w : World} {K : PySem.W.Frag} {elts : List Expr} {kk : Nat} {tpos : Pos} (x : Str) (t : Tok) (e it : Addr) {ty : String} (hty : ty = "str_ascii_iterator" ∨ ty = "str_iterator") :
    Turn P w K (.Tuple elts kk tpos) (Ies x) [e, it] e (fun i h => (∃ old, IsEnum h e it ((i : Nat) : Int) old) ∧ h.IsStrIter it ty x t i ∧ e ≠ it) where
  mem := by simp
  obj := fun i h st b hb => by
    obtain ⟨⟨old, he⟩, ⟨o, ho, hc, hd⟩, _⟩ := st
    have e' : b = e ∨ b = it := by simpa using hb
    rcases e' with z | z
    · rw [z]
      exact ⟨_, he, fun v q => nomatch q⟩
    · rw [z]
      exact ⟨o, ho, fun v q => by rw [hd] at q; cases q⟩
  keep := fun i h h' st k => let ⟨⟨old, he⟩, ⟨o, ho, r⟩, hne⟩ := st; ⟨⟨old, k e (by simp) _ he⟩, ⟨o, k it (by simp) o ho, r⟩, hne⟩
  item := by
    intro X hP hw hK hc i pins s σ H E I hf st hg
    subst hP hw hK
    obtain ⟨⟨old, he⟩, hit, hne⟩ := st
    have hel : e < s.heap.objs.size := Heap.lt_size he
    have hil : it < s.heap.objs.size := by
      obtain ⟨_, q, _⟩ := hit
      exact Heap.lt_size q
    refine wpAny_pyNext_enum_itemD (n := x.cps.size) (draws_of (show X.A.in1.handled = none from I.ok.hd hc) it x t hty) he hit hg hne (by simpa using hne) fun x' h' tk hP' ho hst' hT hsz hk => ?_
    obtain ⟨c, u, hcx, rfl⟩ := hP'
    refine ⟨_, rfl, wpAny_letOwnedTupleGo_enum (s := { s with heap := h', toks := tk + 1 }) ho fun h'' he' sb => ?_⟩
    have hT2 : h''.get? s.heap.objs.size = some { cls := .type "tuple", data := .seq #[.int i tk, .str ⟨#[c]⟩ u] } := (sb.2 _ (Nat.ne_of_gt hel)).trans hT
    have new : ObjOk X.prog X.w (upd H s.heap.objs.size (.tup [.int (i : Nat), .str ⟨#[c]⟩])) h'' s.heap.objs.size (.tup [.int (i : Nat), .str ⟨#[c]⟩]) :=
      ⟨by show 2 ≤ sizeLine; decide, [.int i tk, .str ⟨#[c]⟩ u], .cons ⟨_, rfl⟩ (.cons ⟨_, rfl⟩ .nil), ⟨_, hT2, rfl, _, rfl⟩⟩
    have I1 : Inv X pins σ (upd H s.heap.objs.size (.tup [.int (i : Nat), .str ⟨#[c]⟩])) { s with heap := h'', toks := tk + 1 } :=
      I.turnedNew (ch := [e, it]) (fun b ob hb q => (sb.2 b (fun z => hb (by simp [z]))).trans (hk b ob (fun z => hb (by simp [z])) (fun z => hb (by simp [z])) q)) hf (Nat.le_refl _) new
    refine ⟨.ref s.heap.objs.size, _, I1, rfl, ⟨_, c, rfl, I.hok.fresh (Nat.le_refl _), hcx, rfl⟩, ⟨⟨.str ⟨#[c]⟩ u, ?_⟩, ?_, hne⟩, fun b hb => ?_⟩
    · have e1 : ((i + 1 : Nat) : Int) = (i : Int) + 1 := by omega
      rw [e1]
      exact he'
    · obtain ⟨o, ho2, r⟩ := hst'
      exact ⟨o, (sb.2 it (Ne.symm hne)).trans ho2, r⟩
    · have hb' : b < s.heap.objs.size := by
        have e' : b = e ∨ b = it := by simpa using hb
        rcases e' with z | z
        · rw [z]; exact hel
        · rw [z]; exact hil
      rw [upd_ne (Nat.ne_of_lt hb')]
      exact (hf b hb).1
  done := by
    intro X hP hw hK hc i pins s σ H E I hf st hg
    subst hP hw hK
    obtain ⟨⟨old, he⟩, hit, hne⟩ := st
    obtain ⟨f0, f1, f2, f3, f4, f5⟩ := hf it (by simp)
    have hp : X.A.in1.handled = none := I.ok.hd hc
    have hx : x.cps[i]? = none := Array.getElem?_eq_none hg
    have D : Draws X.prog X.w X.A.in1 it [it] i (fun _ _ => False) (fun j h => j = i ∧ h.IsStrIter it ty x t i) :=
      { live := fun _ _ st => let ⟨o, ho, _⟩ := st.2; ⟨o, ho⟩
        frame := fun _ _ _ st hk => ⟨st.1, let ⟨o, ho, r⟩ := st.2; ⟨o, hk it (by simp) o ho, r⟩⟩
        item := fun j s Q E hi st hQ => absurd hi (by rw [st.1]; exact Nat.lt_irrefl i)
        done := fun s Q E st hE => by
          obtain ⟨_, st⟩ := st
          rcases hty with z | z
          · rw [z] at st
            exact wpAny_nextOf_ascii_end hp st hx hE
          · rw [z] at st
            exact wpAny_nextOf_wide_end hp st hx hE }
    exact wpAny_pyNext_enum_endD D he ⟨rfl, hit⟩ fun h' eb => ⟨rfl, I.turned (t' := s.toks) (fun b o hb q => eb b o hb q) f0 f1 f3 f4 f5⟩
  self := fun A i s Q E st h => let ⟨⟨_, he⟩, _⟩ := st; wpAny_pyIter_enum he h
def iEnumS (ta : TA) : TI := fun σ H R => ta σ H fun vs H1 => ∃ x, vs = [.str x] ∧ R (Ies x) H1
theorem pi_enumS {X : Cx} {e : Expr} {ta : TA} {p pos tpos : Pos} {elts : List Expr} {kk : Nat} (hg : Gl X "enumerate") (hm : X.mg "enumerate" = none) (ha : PA X [e] ta) (hs : starEach [e] X.env = [(false, eval e X.env)] := by rfl) :
    PI X (.Tuple elts kk tpos) (.Call (.Name "enumerate" p) [e] [] pos) (iEnumS ta) := by
  refine ⟨fun pins s σ H R I h => ?_⟩
  refine Call_ (ld_blt I hg hm boot_enumerate (PyProof.Rows.callWith_type1 (thn (ha.run pos pins s σ H _ I h) fun us s1 ⟨vs, H1, I1, r1, q1⟩ => ?_) hs rfl))
  obtain ⟨x, ex, q⟩ := q1
  subst ex
  cases r1 with
  | cons r rr =>
    cases rr
    obtain ⟨t, rfl⟩ := r
    refine call_enumerate_str fun h' he hit hsz hk => wpAny_pyIter_enum he ?_
    have I2 : Inv X pins σ H1 { s1 with heap := h' } := I1.kept (t' := s1.toks) hk
    have hty : strIterType x = "str_ascii_iterator" ∨ strIterType x = "str_iterator" := by
      unfold strIterType
      by_cases c : x.cps.all (· < 128) = true
      · exact Or.inl (if_pos c)
      · exact Or.inr (if_neg c)
    refine ⟨s1.heap.objs.size + 1, [s1.heap.objs.size + 1, s1.heap.objs.size], _, _, H1, rfl, I2, turn_enumS x t (s1.heap.objs.size + 1) s1.heap.objs.size hty, ⟨⟨.none, he⟩, hit, Nat.succ_ne_self _⟩, fun b hb => ?_, q⟩
    have e' : b = s1.heap.objs.size + 1 ∨ b = s1.heap.objs.size := by simpa using hb
    have hle : s1.heap.objs.size ≤ b := by
      rcases e' with z | z
      · rw [z]; exact Nat.le_add_right _ _
      · rw [z]; exact Nat.le_refl _
    exact I1.fpOk hle (I1.hok.fresh hle)
theorem walk_enumS (x : Str) : Walk (Ies x) x.cps.size (fun _ => True) (YPair (fun i => some (.int (i : Nat))) (fun i => x.cps[i]?.map fun c => .str ⟨#[c]⟩)) := by
  refine ⟨fun i _ hi _ => hi, fun _ _ => Nat.le_refl _, fun i H v H' _ _ y => ?_⟩
  obtain ⟨T, c, h1, h2, h3, h4⟩ := y
  exact ⟨T, .int (i : Nat), .str ⟨#[c]⟩, h1, h2, h4, rfl, by show Option.map _ x.cps[i]? = _; rw [h3]; rfl⟩
end Mq

namespace Lw
open PySem PySem.Spec PyProof.Rows L2 Mq
open SX (S)
theorem push_same {H H2 : Hp} {L : Addr} {o : HO} (hL : H L = none) (s : Same H H2) : Same H (upd H2 L o) := fun b u e => (upd_ne (ne_of_none e hL)).trans (s b u e)
/-! ### the law's own book -/
def wKv (sg : List Nat) (ld : Addr) : List (Key × V) := [(.inr "signs", .str (S sg)), (.inr "folds", .ref ld)]
structure WAt (H : Hp) (wd ld : Addr) (sg : List Nat) (gs : List Fd) : Prop where
  w : H wd = some (.dK (wKv sg ld))
  l : H ld = some (.dT (tabF gs))
theorem WAt.same {H H' : Hp} {wd ld : Addr} {sg : List Nat} {gs : List Fd} (h : WAt H wd ld sg gs) (e : Same H H') : WAt H' wd ld sg gs := ⟨e _ _ h.w, e _ _ h.l⟩
theorem WAt.off {D C : Addr} {T : Nat} {H H' : Hp} {wd ld : Addr} {sg : List Nat} {gs : List Fd} (h : WAt H wd ld sg gs) (f : Off D C H H') (k : DeckAt D C T H) : WAt H' wd ld sg gs := by
  refine ⟨f wd _ ?_ ?_ h.w, f.at k h.l ⟨(fun _ z => nomatch z), (fun _ z => nomatch z)⟩⟩
  · rintro rfl
    obtain ⟨m, t, js, e, _⟩ := k.ex
    rw [h.w] at e
    have e2 := Option.some.inj e
    injection e2 with e2
    have e3 := congrArg List.length e2
    exact absurd e3 (by show ¬ 2 = 3; decide)
  · rintro rfl
    obtain ⟨m, t, js, _, e, _⟩ := k.ex
    rw [h.w] at e
    cases e
theorem joinW_one : ∀ l : List Nat, TL.joinL [] (l.map fun c => [c]) = l
  | [] => rfl
  | [c] => rfl
  | c :: d :: l => by
    show [c] ++ ([] ++ TL.joinL [] ((d :: l).map fun c => [c])) = _
    rw [joinW_one (d :: l)]
    rfl
theorem ones_sum (l : List Nat) : (((l.map fun c => [c]).map S).map (·.length)).sum = l.length := by
  induction l with
  | nil => rfl
  | cons c l ih =>
    rw [List.map_cons, List.map_cons, List.map_cons, List.sum_cons, ih, SX.S_len]
    show 1 + l.length = l.length + 1
    omega
theorem ledz_len {gs : List Fd} (h : zOk gs) : ∀ (row w : List Nat), (ledM gs w row).length ≤ w.length + row.length
  | [], w => Nat.le_refl _
  | y :: row, w => by
    have h1 := ledz_len h row (laidM gs w y)
    have h2 : (laidM gs w y).length ≤ w.length + 1 := by
      unfold laidM
      split
      · rw [List.length_append]
        exact Nat.le_refl _
      · split
        · rw [List.length_append]
          exact Nat.le_refl _
        · rename_i z e
          have := leftz h e
          rw [List.length_append, List.length_dropLast]
          omega
    show (ledM gs (laidM gs w y) row).length ≤ w.length + (row.length + 1)
    omega
end Lw

namespace Mq
open PySem PySem.Spec PyProof.Rows L2
/-! ### sorted(xs), xs a list of tuples of three texts -/
def txt3 (x : Str × Str × Str) : List (Int ⊕ List Nat) := [.inr x.1.cps.toList, .inr x.2.1.cps.toList, .inr x.2.2.cps.toList]
def ltS3 (x y : Str × Str × Str) : Bool := (PyProof.Rows.listOrd PyProof.Rows.itemOrd).blt (txt3 x) (txt3 y)
def Is3 (H : Hp) (f : Addr → Str × Str × Str) (b : Addr) : Prop := H b = some (.tup [.str (f b).1, .str (f b).2.1, .str (f b).2.2])
def rSorted3 (K : PySem.W.Frag) : List V → Hp → VK → Prop := fun xs H Q => ∃ (a : Addr) (as : List Addr) (f : Addr → Str × Str × Str), xs = [.ref a] ∧ SqL K H a (as.map V.ref) ∧ (∀ b ∈ as, Is3 H f b) ∧
  ∀ (qs : List Addr) (p : Addr), qs.Perm as → (∀ i j, i ≤ j → j < qs.length → ltS3 (f (qs.getD j 0)) (f (qs.getD i 0)) = false) → H p = none → Q (.ref p) (upd H p (.lst (qs.map V.ref)))
theorem vals_refs : ∀ {as : List Addr} {us : List Value}, Vals (as.map V.ref) us → us = as.map Value.ref
  | [], _, .nil => rfl
  | b :: as, _, @Paired.cons _ _ _ _ y _ _ r rr => by
    have e : y = Value.ref b := r
    rw [e, vals_refs rr]
    rfl
section
variable {X : Cx}
theorem call_sorted3 : CallR X (.builtin "sorted") (rSorted3 X.K) := by
  intro pins s σ H xs us Q I r q
  obtain ⟨a, as, f, rfl, ha, h3, q⟩ := q
  obtain ⟨u, rfl, rx⟩ := vals1 r
  cases rx
  obtain ⟨its, rv, hl, hz⟩ := I.list ha
  have ei : its = as.map Value.ref := vals_refs rv
  subst ei
  have obj : ∀ b ∈ as, ∃ (ob : Obj) (n : Nat) (t1 t2 t3 : Tok), s.heap.get? b = some ob ∧ ob.cls = .type "tuple" ∧ ob.data = .seq #[.str (f b).1 t1, .str (f b).2.1 t2, .str (f b).2.2 t3] n := by
    intro b hb
    obtain ⟨_, its, r2, ob, h1, h2, n, h4⟩ := (show ObjOk X.prog X.w H s.heap b (.tup [.str (f b).1, .str (f b).2.1, .str (f b).2.2]) from I.hok b _ (h3 b hb))
    cases r2 with
    | cons a1 r2 =>
      cases r2 with
      | cons a2 r2 =>
        cases r2 with
        | cons a3 r2 =>
          cases r2
          obtain ⟨t1, rfl⟩ := a1
          obtain ⟨t2, rfl⟩ := a2
          obtain ⟨t3, rfl⟩ := a3
          exact ⟨ob, n, t1, t2, t3, h1, h2, h4⟩
  have tups : ∀ l : List Addr, (∀ b ∈ l, b ∈ as) → ∃ fs, PyProof.Rows.TupsOf s.heap (fun _ => true) (l.map Value.ref) fs := by
    intro l
    induction l with
    | nil => intro _; exact ⟨[], .nil⟩
    | cons b l ih =>
      intro hl
      obtain ⟨fs, hf⟩ := ih fun x hx => hl x (List.mem_cons_of_mem _ hx)
      obtain ⟨ob, n, t1, t2, t3, h1, h2, h4⟩ := obj b (hl b List.mem_cons_self)
      exact ⟨_, .cons ⟨b, ob, _, n, rfl, h1, h2, h4, rfl, fun z => (by cases z), fun _ => ⟨_, _, rfl⟩⟩ hf⟩
  obtain ⟨fs, hfs⟩ := tups as fun _ h => h
  have keyC : ∀ b ∈ as, PyProof.Rows.G.tupKeyC s.heap (fun _ => true) (.ref b) = some (txt3 (f b)) := by
    intro b hb
    obtain ⟨ob, n, t1, t2, t3, h1, h2, h4⟩ := obj b hb
    have hT : PyProof.Rows.G.isTupObj s.heap (.ref b) = true := by
      simp [PyProof.Rows.G.isTupObj, h1, h2]
    unfold PyProof.Rows.G.tupKeyC
    rw [if_pos hT]
    simp only [PyProof.Rows.tupKey, h1, h4]
    rfl
  refine PyProof.Rows.G.sorted_tups (vs := as.map Value.ref) hl.isList hfs (fun v hv => ?_) (by rw [List.length_map] at hz ⊢; exact hz) fun st' hp hs _ => ?_
  · obtain ⟨b, hb, rfl⟩ := List.mem_map.mp hv
    exact ⟨_, keyC b hb⟩
  obtain ⟨e', he'⟩ := PyProof.Rows.sortedAll_at s.heap (as.map Value.ref) ((arrOf st').map (·.2))
  have mem : ∀ p ∈ (arrOf st').toList, p.1 = p.2 ∧ p.1 ∈ as.map Value.ref := fun p hp' => by
    have h1 := (hp.toList.mem_iff (a := p)).mp hp'
    rw [PyProof.Rows.pairsOf_toList] at h1
    exact PyProof.Rows.mem_zip_self h1
  obtain ⟨qs, hq1, hq2⟩ : ∃ qs : List Addr, (arrOf st').toList.map (·.2) = qs.map Value.ref ∧ qs.Perm as := by
    have h1 : ((arrOf st').toList.map (·.2)).Perm (as.map Value.ref) := by
      have h2 := hp.toList.map (fun p : Keyed => p.2)
      rw [PyProof.Rows.pairsOf_toList] at h2
      rw [List.map_snd_zip (Nat.le_refl _)] at h2
      exact h2
    exact perm_back h1
  have hql : qs.length = as.length := hq2.length_eq
  have harr : (arrOf st').toList.length = qs.length := by
    have h1 := congrArg List.length hq1
    rw [List.length_map, List.length_map] at h1
    exact h1
  have hkk : ∀ i, i < qs.length → PyProof.Rows.KK (PyProof.Rows.G.tupKindC s.heap fun _ => true) (arrOf st') i = txt3 (f (qs.getD i 0)) := by
    intro i hi
    have hi' : i < (arrOf st').toList.length := by omega
    have e1 : (arrOf st')[i]? = some (arrOf st').toList[i] := by
      rw [← Array.getElem?_toList, List.getElem?_eq_getElem hi']
    obtain ⟨m1, m2⟩ := mem _ (List.getElem_mem hi')
    have e2 : (arrOf st').toList[i].2 = .ref (qs.getD i 0) := by
      have h1 := congrArg (fun l => l[i]?) hq1
      simp only [List.getElem?_map, List.getElem?_eq_getElem hi', List.getElem?_eq_getElem hi, Option.map_some, Option.some.injEq] at h1
      rw [h1, List.getD_eq_getElem?_getD, List.getElem?_eq_getElem hi]
      rfl
    have hin : qs.getD i 0 ∈ as := hq2.mem_iff.mp (by rw [List.getD_eq_getElem?_getD, List.getElem?_eq_getElem hi]; exact List.getElem_mem hi)
    unfold PyProof.Rows.KK
    rw [e1]
    show (PyProof.Rows.G.tupKeyC _ _ (arrOf st').toList[i].1).getD _ = _
    rw [m1, e2, keyC _ hin]
    rfl
  have srt : ∀ i j, i ≤ j → j < qs.length → ltS3 (f (qs.getD j 0)) (f (qs.getD i 0)) = false := by
    intro i j hij hj
    have h1 := hs i j hij (by rw [PyProof.Rows.pairsOf_size, List.length_map]; omega)
    rw [hkk i (by omega), hkk j hj] at h1
    exact h1
  have vals : ∀ l : List Addr, Vals (l.map V.ref) (l.map Value.ref) := fun l => by
    induction l with
    | nil => exact .nil
    | cons b l ih => exact .cons rfl ih
  have hout : ((arrOf st').map (·.2)).toList = qs.map Value.ref := by
    rw [Array.toList_map]
    exact hq1
  have hz2 : (qs.map V.ref).length ≤ sizeLine := by
    rw [List.length_map, hql]
    rw [List.length_map] at hz
    exact hz
  have fresh := I.hok.fresh (Nat.le_succ s.heap.objs.size)
  refine ⟨.ref (s.heap.objs.size + 1), upd H (s.heap.objs.size + 1) (.lst (qs.map V.ref)), ?_, rfl, q qs _ hq2 srt fresh⟩
  refine I.laid (t' := s.toks) (fun b u e => PyProof.Rows.sortedAll_old e) (Nat.le_succ _) ⟨hz2, qs.map Value.ref, e', vals qs, ?_⟩
  rw [← hout, Array.toArray_toList]
  exact he'
end
end Mq

namespace Lw
open PySem PySem.Spec PyProof.Rows L2 Mq
open SX (S)
/-! ### the book that is drawn -/
def menuW : List (List Nat) := [[97, 98], [97, 98], [97, 120], [97, 98, 99]]
theorem menu_ok : ∀ sg ∈ menuW, SgOk sg ∧ sg.Nodup ∧ sg.length ≤ 3 := by
  intro sg h
  have h1 : (menuW.all fun sg => decide (0 < sg.length) && (decide (sg.length ≤ 3) && (sg.all (fun c => decide (c < 128)) && (lettersB sg && decide sg.Nodup)))) = true := by decide +kernel
  have h2 := List.all_eq_true.mp h1 sg h
  obtain ⟨a, h2⟩ := Bool.and_eq_true_iff.mp h2
  obtain ⟨b, h2⟩ := Bool.and_eq_true_iff.mp h2
  obtain ⟨c, h2⟩ := Bool.and_eq_true_iff.mp h2
  obtain ⟨d, e⟩ := Bool.and_eq_true_iff.mp h2
  have b' := of_decide_eq_true b
  exact ⟨⟨of_decide_eq_true a, by omega, fun x hx => of_decide_eq_true (List.all_eq_true.mp c x hx), d⟩, of_decide_eq_true e, b'⟩
def keyN (g : Fd) : Nat × Nat := (g.x, g.y)
def Apart (gs : List Fd) : Prop := gs.Pairwise fun a b => keyN a ≠ keyN b
structure GsOk (sg : List Nat) (gs : List Fd) : Prop where
  few : gs.length ≤ 200
  ok : ∀ f ∈ gs, fdOk sg f
  nd : Apart gs
theorem nd_inj {l : List Nat} (h : l.Nodup) {a b : Nat} (ha : a < l.length) (hb : b < l.length) (e : l.getD a 0 = l.getD b 0) : a = b := by
  rw [List.getD_eq_getElem?_getD, List.getD_eq_getElem?_getD, List.getElem?_eq_getElem ha, List.getElem?_eq_getElem hb] at e
  refine (List.getElem?_inj ha h).mp ?_
  rw [List.getElem?_eq_getElem ha, List.getElem?_eq_getElem hb]
  exact congrArg some e
theorem getD_mem {l : List Nat} {a : Nat} (ha : a < l.length) : l.getD a 0 ∈ l := by
  rw [List.getD_eq_getElem?_getD, List.getElem?_eq_getElem ha]
  exact List.getElem_mem ha
/-- what is drawn ahead of row i, column j -/
structure Part (sg : List Nat) (i j : Nat) (gs : List Fd) : Prop where
  len : gs.length ≤ 3 * i + j
  ok : ∀ f ∈ gs, fdOk sg f
  nd : Apart gs
  low : ∀ g ∈ gs, ∃ a b, a < sg.length ∧ b < sg.length ∧ g.x = sg.getD a 0 ∧ g.y = sg.getD b 0 ∧ (a < i ∨ (a = i ∧ b < j))
theorem Part.start (sg : List Nat) : Part sg 0 0 [] := ⟨Nat.zero_le _, (fun _ h => by cases h), .nil, fun _ h => by cases h⟩
theorem Part.skip {sg : List Nat} {i j : Nat} {gs : List Fd} (p : Part sg i j gs) : Part sg i (j + 1) gs :=
  ⟨by have := p.len; omega, p.ok, p.nd, fun g hg => by
    obtain ⟨a, b, h1, h2, h3, h4, h5⟩ := p.low g hg
    exact ⟨a, b, h1, h2, h3, h4, by omega⟩⟩
theorem Part.row {sg : List Nat} {i : Nat} {gs : List Fd} (p : Part sg i sg.length gs) (h3 : sg.length ≤ 3) : Part sg (i + 1) 0 gs :=
  ⟨by have := p.len; omega, p.ok, p.nd, fun g hg => by
    obtain ⟨a, b, h1, h2, h3, h4, h5⟩ := p.low g hg
    exact ⟨a, b, h1, h2, h3, h4, by omega⟩⟩
theorem Part.other {sg : List Nat} {i j : Nat} {gs : List Fd} (p : Part sg i j gs) (hn : sg.Nodup) (hi : i < sg.length) (hj : j < sg.length) : ∀ g ∈ gs, keyN g ≠ (sg.getD i 0, sg.getD j 0) := by
  intro g hg e
  obtain ⟨a, b, h1, h2, h3, h4, h5⟩ := p.low g hg
  injection e with e1 e2
  have := nd_inj hn h1 hi (h3.symm.trans e1)
  have := nd_inj hn h2 hj (h4.symm.trans e2)
  omega
theorem Part.put {sg z : List Nat} {i j : Nat} {gs : List Fd} (p : Part sg i j gs) (hn : sg.Nodup) (hi : i < sg.length) (hj : j < sg.length) (hz : z = [] ∨ ∃ c ∈ sg, z = [c]) :
    Part sg i (j + 1) (gs ++ [⟨sg.getD i 0, sg.getD j 0, z⟩]) := by
  refine ⟨by have := p.len; rw [List.length_append]; show gs.length + 1 ≤ _; omega, fun f hf => ?_, ?_, fun g hg => ?_⟩
  · rcases List.mem_append.mp hf with hf | hf
    · exact p.ok f hf
    · rw [List.mem_singleton.mp hf]
      exact ⟨getD_mem hi, getD_mem hj, hz⟩
  · refine List.pairwise_append.mpr ⟨p.nd, List.pairwise_singleton _ _, fun a ha b hb => ?_⟩
    rw [List.mem_singleton.mp hb]
    exact p.other hn hi hj a ha
  · rcases List.mem_append.mp hg with hg | hg
    · exact p.skip.low g hg
    · rw [List.mem_singleton.mp hg]
      exact ⟨i, j, hi, hj, rfl, rfl, Or.inr ⟨rfl, Nat.lt_succ_self j⟩⟩
theorem tab_new {gs : List Fd} {x y : Nat} (h : ∀ g ∈ gs, keyN g ≠ (x, y)) : ∀ p ∈ tabF gs, p.1 ≠ [Sum.inr (S [x]), Sum.inr (S [y])] := by
  intro p hp e
  obtain ⟨g, hg, rfl⟩ := List.mem_map.mp hp
  injection e with e1 e2
  injection e2 with e2 _
  exact h g hg (Prod.ext (S_one.mp (Sum.inr.inj e1)) (S_one.mp (Sum.inr.inj e2)))
theorem new_ne {D C : Addr} {T : Nat} {H : Hp} {q : Addr} (k : DeckAt D C T H) (h : H q = none) : q ≠ D ∧ q ≠ C := by
  obtain ⟨_, _, _, e1, e2, _⟩ := k.ex
  refine ⟨?_, ?_⟩
  · rintro rfl
    rw [h] at e1
    cases e1
  · rintro rfl
    rw [h] at e2
    cases e2

def spBookL : Sp := fun vs H Q _ => ∃ (D C : Addr) (T : Nat) (sg : List Nat), vs = [.ref D, .str (S sg)] ∧ sg ∈ menuW ∧ DeckAt D C T H ∧ T ≤ 900000 ∧
  ∀ H' wd ld gs, GsOk sg gs → WAt H' wd ld sg gs → DeckAt D C (T + 40) H' → Off D C H H' → Q (.ref wd) H'
/-- where the inner loop stands -/
structure Bk (σ : L2.St) (sg : List Nat) (way x y : Nat) : Prop where
  h1 : σ[1]? = some (some (.str (S sg)))
  h2 : σ[2]? = some (some (.int (way : Nat)))
  h4 : σ[4]? = some (some (.str (S [x])))
  h5 : σ[5]? = some (some (.str (S [y])))
  pos : 0 < sg.length
  few : sg.length ≤ 10
def tGone : TE := fun σ H Q => (∃ sg way x y, Bk σ sg way x y) ∧ ∀ b, Q (.bl b) H
def tBook6 : TT := fun σ H Q => (∃ sg way x y, Bk σ sg way x y) ∧ (∃ b : Bool, σ[6]? = some (some (.bl b))) ∧ ∀ b, Q b H
def tBook5 : TT := fun σ H Q => (∃ sg way x y, Bk σ sg way x y) ∧ ∀ b, Q b H
def tBookD : TT := fun σ H Q => ∃ (D C : Addr) (T way : Nat), σ[0]? = some (some (.ref D)) ∧ σ[2]? = some (some (.int (way : Nat))) ∧ DeckAt D C T H ∧ T ≤ 1000000 ∧ (Q false H) ∧ ∀ H' b, DeckAt D C (T + 1) H' → Off D C H H' → Q b H'
section
variable {P : Program} {w : World} {K : PySem.W.Frag} {mg : Str → Option Value} {base : Heap}
theorem ok_law_book {f fD fP : Addr} {fd fdD fdP : FuncData} (F : Fun K "_law_book" "_law_book" s__law_book f fd)
    (FD : Fun K "_law_draw" "_law_draw" s__law_draw fD fdD) (gD : mg "_law_draw" = some (.ref fD)) (bD : Binds K fdD ["_law_deck_here", "_law_many"] []) (GD : FnOk P w K mg base CX0 1 fD fdD ["_law_deck_here", "_law_many"] spDraw)
    (FP : Fun K "_law_pick" "_law_pick" s__law_pick fP fdP) (gP : mg "_law_pick" = some (.ref fP)) (bP : Binds K fdP ["_law_deck_here", "_law_some"] []) (GP : FnOk P w K mg base CX0 2 fP fdP ["_law_deck_here", "_law_some"] spPick) :
    FnOk P w K mg base CX0 3 f fd ["_law_deck_here", "_law_signs"] spBookL := by
  refine F.ok sc__law_book (fun vs H Q E h => ?_) (fun cdv A outer s H vs Q E hr h => ?_)
  · obtain ⟨_, _, _, _, rfl, _⟩ := h
    rfl
  · obtain ⟨D, C, T, sg, rfl, hsg, hdk, hT, q⟩ := h
    obtain ⟨hs, hnd, h3⟩ := menu_ok sg hsg
    have hu1 : (A.deeper (envOfC "_law_book" (defScope s__law_book) s.heap.objs.size f cdv)).units + 1 < cLine := by
      have := hr.units
      omega
    refine ⟨_, (pss_cons (ps_par (i := 2) (j := 3) rfl sc__law_book.nd rfl rfl (by decide) rfl rfl (pa_cons (pe_call GD (hr.mono (by decide)) (by rfl) gD FD.kp bD .nil pass0 (pa_cons (pv 0) (pa_cons pe_int pa_nil))) (pa_cons pe_dnewT pa_nil)) (by rfl))
      (pss_cons (ps_for PassesOwn.never rfl (pi_str (pv 1)) (pg_name (i := 4) sc__law_book.nd rfl (Or.inl rfl))
        (pss_one (ps_for PassesOwn.never rfl (pi_str (pv 1)) (pg_name (i := 5) sc__law_book.nd rfl (Or.inl rfl))
          (pss_cons (ps_set (i := 6) sc__law_book.nd rfl (Or.inl rfl) (pe_or
              (PE_imp (t' := tGone) (pe_and (pe_cmpR op_eq (pv 2) pe_int (nomark _)) (pe_and (pe_cmpR op_ne (pv 4) (pv 5) (nomark _)) (pe_one (pe_cmpR op_eq (pv 5) (pe_ix ix_str (pv 1) (pe_un un_neg pe_int) (fun _ _ => rfl)) (nomark _))))) (fun σ H Q h => by
                obtain ⟨⟨sg, way, x, y, k⟩, q⟩ := h
                have hlz : (S sg).length ≤ sizeLine := by
                  rw [SX.S_len]
                  exact sz_le (by have := k.few; omega)
                obtain ⟨u, z, e⟩ : ∃ u z, sg = u ++ [z] := by
                  rcases List.eq_nil_or_concat sg with e | ⟨u, z, e⟩
                  · have := k.pos
                    rw [e] at this
                    cases this
                  · exact ⟨u, z, by rw [e, List.concat_eq_append]⟩
                refine ⟨_, k.h2, rfl, _, rfl, ite2 (fun _ => ⟨_, k.h4, _, k.h5, rfl, _, rfl, ite2 (fun _ => ⟨_, k.h5, _, k.h1, _, rfl, S sg, -1, z, rfl, rfl, hlz, by rw [e]; exact atI_last u z, rfl, q _⟩) (fun _ => q _)⟩) (fun _ => q _)⟩))
              (pe_one (PE_imp (t' := tGone) (pe_and (pe_cmpR op_eq (pv 2) pe_int (nomark _)) (pe_one (pe_cmpR op_eq (pe_op op_add_str (pv 4) (pv 5)) (pe_slice C8.sl_txt (pv 1) po_none (po_some pe_int)) (nomark _)))) (fun σ H Q h => by
                obtain ⟨⟨sg, way, x, y, k⟩, q⟩ := h
                have hlz : (S sg).length ≤ sizeLine := by
                  rw [SX.S_len]
                  exact sz_le (by have := k.few; omega)
                exact ⟨_, k.h2, rfl, _, rfl, ite2 (fun _ => ⟨_, k.h4, _, k.h5, S [x], S [y], rfl, rfl, sz_le (n := 2) (by decide), _, k.h1, 2, rfl, S sg, rfl, hlz, rfl, q _⟩) (fun _ => q _)⟩)))))
          (pss_one (ps_if (PT_imp (t' := tBook6) (PW.pt (pw_or (PW.pt (pw_and (pt_cmpR op_eq (pv 2) pe_int (nomark _)) (pw_and1 (pt_cmpR op_eq (pv 4) (pv 5) (nomark _))))) (pw_or1 (pt_val (pv 6))))) (fun σ H Q h => by
                obtain ⟨⟨sg, way, x, y, k⟩, ⟨b, h6⟩, q⟩ := h
                exact ⟨_, k.h2, rfl, _, rfl, ite2 (fun _ => ⟨_, k.h4, _, k.h5, rfl, _, rfl, ite2 (fun _ => q _) (fun _ => ⟨_, h6, _, rfl, q _⟩)⟩) (fun _ => ifF rfl ⟨_, h6, _, rfl, q _⟩)⟩))
              (pss_one (ps_dput hu1 (pv 3) (pe_tup (pa_cons (pv 4) (pa_cons (pv 5) pa_nil))) pe_str rfl))
              (pss_one (ps_if (PT_imp (t' := tBook5) (PW.pt (pw_or (PW.pt (pw_and (pt_cmpR op_eq (pv 2) pe_int (nomark _)) (pw_and (pt_cmpR op_eq (pv 4) (pv 5) (nomark _)) (pw_and1 (pt_cmpR op_ne (pv 4) (pe_ix ix_str (pv 1) pe_int (fun _ _ => rfl)) (nomark _)))))) (pw_or1 (PW.pt (pw_and (pt_cmpR op_eq (pv 2) pe_int (nomark _)) (pw_and1 (pt_cmpR op_ne (pv 4) (pv 5) (nomark _)))))))) (fun σ H Q h => by
                  obtain ⟨⟨sg, way, x, y, k⟩, q⟩ := h
                  have hlz : (S sg).length ≤ sizeLine := by
                    rw [SX.S_len]
                    exact sz_le (by have := k.few; omega)
                  exact ⟨_, k.h2, rfl, _, rfl, ite2 (fun _ => ⟨_, k.h4, _, k.h5, rfl, _, rfl, ite2
                      (fun _ => ⟨_, k.h4, _, k.h1, S sg, 0, sg.getD 0 0, rfl, rfl, hlz, at_get (k := 0) k.pos, rfl, _, rfl, ite2 (fun _ => q _) (fun _ => ⟨_, k.h2, rfl, _, rfl, ite2 (fun _ => ⟨_, k.h4, _, k.h5, rfl, _, rfl, q _⟩) (fun _ => q _)⟩)⟩)
                      (fun _ => ifF rfl ⟨_, k.h2, rfl, _, rfl, ite2 (fun _ => ⟨_, k.h4, _, k.h5, rfl, _, rfl, q _⟩) (fun _ => q _)⟩)⟩)
                    (fun _ => ifF rfl ⟨_, k.h2, rfl, _, rfl, ite2 (fun _ => ⟨_, k.h4, _, k.h5, rfl, _, rfl, q _⟩) (fun _ => q _)⟩)⟩))
                (pss_one (ps_dput hu1 (pv 3) (pe_tup (pa_cons (pv 4) (pa_cons (pv 5) pa_nil))) (pv 5) rfl))
                (pss_one (ps_if (PT_imp (t' := tBookD) (PW.pt (pw_and (pt_cmpR op_gt (pv 2) pe_int (nomark _)) (pw_and1 (pt_cmpR op_eq (pe_call GD (hr.mono (by decide)) (by rfl) gD FD.kp bD .nil pass0 (pa_cons (pv 0) (pa_cons pe_int pa_nil))) pe_int (nomark _))))) (fun σ H Q h => by
                    obtain ⟨D, C, T, way, h0, h2, dk, hT, q0, q⟩ := h
                    exact ⟨_, h2, _, _, rfl, rfl, _, rfl, ite2 (fun _ => ⟨_, h0, D, C, T, 2, rfl, dk, hT, by decide, by decide, fun H1 r hr dk1 off1 => ⟨rfl, _, rfl, q _ _ dk1 off1⟩⟩) (fun _ => q0)⟩))
                  (pss_one (ps_dput hu1 (pv 3) (pe_tup (pa_cons (pv 4) (pa_cons (pv 5) pa_nil))) (pe_call GP (hr.mono (by decide)) (by rfl) gP FP.kp bP .nil pass0 (pa_cons (pv 0) (pa_cons (Mq.pe_ls (pa_cons pe_str (pa_cons pe_str (pa_cons (pv 5) (pa_cons (pe_call GP (hr.mono (by decide)) (by rfl) gP FP.kp bP .nil pass0 (pa_cons (pv 0) (pa_cons (pv 1) pa_nil))) pa_nil))))) pa_nil))) rfl))
                  pss_nil))))))))))
      (pss_one (ps_ret (pe_disp (pps_cons pe_str (pv 1) (pps_cons pe_str (pv 3) pps_nil)) (by rfl) (by rfl) (fun z => by cases z) (by decide)))))), ?_⟩
    refine ⟨_, rfl, D, C, T, 11, rfl, hdk, by omega, by decide, by decide, fun H2 way hway dk2 off2 => ?_⟩
    refine fun ld hld => ?_
    have dk3 := dk2.same (same_new (o := HO.dT []) hld)
    have hneH : ∀ b o, b ≠ D → b ≠ C → H b = some o → b ≠ ld := fun b o h1 h2 e => ne_of_none (off2 b o h1 h2 e) hld
    have off03 : Off D C H (upd H2 ld (.dT [])) := off2.trans (Off.same (same_new hld))
    have hl3 : upd H2 ld (.dT []) ld = some (.dT (tabF [])) := upd_same
    generalize upd H2 ld (.dT []) = H3 at dk3 off03 hl3 ⊢
    refine ⟨_, _, rfl, ?_⟩
    refine ⟨_, rfl, S sg, rfl, ?_⟩
    refine for_it (walk_S sg) (fun i σ H' => DeckAt D C (T + 1 + 9 * i) H' ∧ Off D C H H' ∧ ∃ gs o4 o5 o6, Part sg i 0 gs ∧ H' ld = some (.dT (tabF gs)) ∧ σ = [some (.ref D), some (.str (S sg)), some (.int (way : Nat)), some (.ref ld), o4, o5, o6])
      ⟨dk3, off03, [], _, _, _, Part.start sg, hl3, rfl⟩ (fun _ _ _ _ _ => trivial) ?_ ?_
    · rintro i x σ H5 H5' hi ⟨dk5, off5, gs0, o4, o5, o6, hp0, hl5, rfl⟩ ⟨rfl, rfl⟩
      refine ⟨_, rfl, S sg, rfl, ?_⟩
      refine for_it (walk_S sg) (fun j σ H' => DeckAt D C (T + 1 + 9 * i + 3 * j) H' ∧ Off D C H H' ∧ ∃ gs o5 o6, Part sg i j gs ∧ H' ld = some (.dT (tabF gs)) ∧ σ = [some (.ref D), some (.str (S sg)), some (.int (way : Nat)), some (.ref ld), some (.str (S [sg.getD i 0])), o5, o6])
        ⟨dk5, off5, gs0, _, _, hp0, hl5, rfl⟩ (fun _ _ _ _ _ => trivial) ?_ ?_
      · rintro j x σ H6 H6' hj ⟨dk6, off6, gs, o5, o6, hp6, hl6, rfl⟩ ⟨rfl, rfl⟩
        have hlen : (tabF gs).length < sizeLine := by
          unfold tabF
          rw [List.length_map]
          have := hp6.len
          exact sz_lt (by omega)
        have put : ∀ (H8 : Hp) (z : List Nat) (T' : Nat), (z = [] ∨ ∃ c ∈ sg, z = [c]) → DeckAt D C T' H8 → T' ≤ T + 1 + 9 * i + 3 * (j + 1) → Off D C H H8 → H8 ld = some (.dT (tabF gs)) → ∀ p, H8 p = none →
            DPut (upd H8 p (.tup [.str (S [sg.getD i 0]), .str (S [sg.getD j 0])])) ld (.ref p) (.str (S z)) (upd (upd H8 p (.tup [.str (S [sg.getD i 0]), .str (S [sg.getD j 0])])) ld (.dT (tabF (gs ++ [⟨sg.getD i 0, sg.getD j 0, z⟩])))) ∧
            DeckAt D C (T + 1 + 9 * i + 3 * (j + 1)) (upd (upd H8 p (.tup [.str (S [sg.getD i 0]), .str (S [sg.getD j 0])])) ld (.dT (tabF (gs ++ [⟨sg.getD i 0, sg.getD j 0, z⟩])))) ∧
            Off D C H (upd (upd H8 p (.tup [.str (S [sg.getD i 0]), .str (S [sg.getD j 0])])) ld (.dT (tabF (gs ++ [⟨sg.getD i 0, sg.getD j 0, z⟩])))) := by
          intro H8 z T' hz dk8 hT8 off8 hl8 p hp
          have s9 := same_new (o := HO.tup [.str (S [sg.getD i 0]), .str (S [sg.getD j 0])]) hp
          have hl9 := s9 _ _ hl8
          have dk9 := (dk8.same s9).mono hT8
          have hk9 : upd H8 p (.tup [.str (S [sg.getD i 0]), .str (S [sg.getD j 0])]) p = some (.tup [.str (S [sg.getD i 0]), .str (S [sg.getD j 0])]) := upd_same
          have off9 := off8.trans (Off.same s9)
          generalize upd H8 p (.tup [.str (S [sg.getD i 0]), .str (S [sg.getD j 0])]) = H9 at hl9 dk9 hk9 off9 ⊢
          have hput : putK (tabF gs) [Sum.inr (S [sg.getD i 0]), Sum.inr (S [sg.getD j 0])] (V.str (S z)) = tabF (gs ++ [⟨sg.getD i 0, sg.getD j 0, z⟩]) := by
            rw [putK_new (tab_new (hp6.other hnd hi hj))]
            exact (tab_snoc gs ⟨sg.getD i 0, sg.getD j 0, z⟩).symm
          have nD : D ≠ ld := by
            rintro rfl
            obtain ⟨_, _, _, e, _⟩ := dk9.ex
            rw [hl9] at e
            cases e
          have nC : C ≠ ld := by
            rintro rfl
            obtain ⟨_, _, _, _, e, _⟩ := dk9.ex
            rw [hl9] at e
            cases e
          refine ⟨?_, ?_, ?_⟩
          · rw [← hput]
            exact DPut.t (k := [Sum.inr (S [sg.getD i 0]), Sum.inr (S [sg.getD j 0])]) hl9 hk9 hlen
          · obtain ⟨m, t, js, a1, a2, a3, a4⟩ := dk9.ex
            exact ⟨m, t, js, (upd_ne nD).trans a1, (upd_ne nC).trans a2, a3, a4⟩
          · intro b o h1 h2 e
            rw [upd_ne (hneH b o h1 h2 e)]
            exact off9 b o h1 h2 e
        have bk : ∀ o6, Bk [some (.ref D), some (.str (S sg)), some (.int (way : Nat)), some (.ref ld), some (.str (S [sg.getD i 0])), some (.str (S [sg.getD j 0])), o6] sg way (sg.getD i 0) (sg.getD j 0) := fun _ => ⟨rfl, rfl, rfl, rfl, hs.pos, hs.few⟩
        refine ⟨⟨_, _, _, _, bk o6⟩, fun b1 => ⟨_, rfl, ite2 (fun _ => ?_) (fun _ => ⟨⟨_, _, _, _, bk o6⟩, fun b2 => ?_⟩)⟩⟩
        all_goals
          refine ⟨⟨_, _, _, _, bk _⟩, ⟨_, rfl⟩, fun t1 => ite2 (fun _ => ?_) (fun _ => ⟨⟨_, _, _, _, bk _⟩, fun t2 => ite2 (fun _ => ?_) (fun _ => ⟨D, C, _, way, rfl, rfl, dk6, by omega, ifF rfl ⟨dk6.mono (by omega), off6, gs, _, _, hp6.skip, hl6, rfl⟩, fun H7 t3 dk7 off7 => ite2 (fun _ => ?_) (fun _ => ?_)⟩)⟩)⟩
          · refine ⟨_, rfl, _, rfl, _, rfl, sz_le (n := 2) (by decide), fun p hp => ?_⟩
            obtain ⟨a1, a2, a3⟩ := put _ [] _ (Or.inl rfl) dk6 (by omega) off6 hl6 p hp
            exact ⟨ld, _, rfl, a1, a2, a3, _, _, _, hp6.put hnd hi hj (Or.inl rfl), upd_same, rfl⟩
          · refine ⟨_, rfl, _, rfl, _, rfl, _, rfl, sz_le (n := 2) (by decide), fun p hp => ?_⟩
            obtain ⟨a1, a2, a3⟩ := put _ [sg.getD j 0] _ (Or.inr ⟨_, getD_mem hj, rfl⟩) dk6 (by omega) off6 hl6 p hp
            exact ⟨ld, _, rfl, a1, a2, a3, _, _, _, hp6.put hnd hi hj (Or.inr ⟨_, getD_mem hj, rfl⟩), upd_same, rfl⟩
          · have hl7 := off7.at dk6 hl6 ⟨(fun _ z => nomatch z), (fun _ z => nomatch z)⟩
            refine ⟨_, rfl, _, rfl, _, rfl, _, rfl, D, C, _, _, rfl, dk7, by omega, Or.inl ⟨sg, rfl, hs.pos, by have := hs.few; omega, fun H8 c hc dk8 off8 => ?_⟩⟩
            have hl8 := off8.at dk7 hl7 ⟨(fun _ z => nomatch z), (fun _ z => nomatch z)⟩
            refine ⟨sz_le (n := 4) (by decide), fun pm hpm _ => ?_⟩
            have s9 := same_new (o := HO.lst [V.str "", V.str "", V.str (S [sg.getD j 0]), V.str (S [c])]) hpm
            refine ⟨D, C, _, .ref pm, rfl, dk8.same s9, by omega, Or.inr ⟨pm, _, rfl, upd_same, (new_ne dk8 hpm).2, Nat.zero_lt_succ _, by show 4 ≤ 1000; decide, fun H10 v hv dk10 off10 => ?_⟩⟩
            have hl10 := off10.at (dk8.same s9) (s9 _ _ hl8) ⟨(fun _ z => nomatch z), (fun _ z => nomatch z)⟩
            have off010 := ((off6.trans off7).trans off8).trans ((Off.same s9).trans off10)
            obtain ⟨z, hz, rfl⟩ : ∃ z : List Nat, (z = [] ∨ ∃ c ∈ sg, z = [c]) ∧ v = .str (S z) := by
              simp only [List.mem_cons, List.not_mem_nil, or_false] at hv
              rcases hv with rfl | rfl | rfl | rfl
              · exact ⟨[], Or.inl rfl, rfl⟩
              · exact ⟨[], Or.inl rfl, rfl⟩
              · exact ⟨_, Or.inr ⟨_, getD_mem hj, rfl⟩, rfl⟩
              · exact ⟨_, Or.inr ⟨_, hc, rfl⟩, rfl⟩
            refine ⟨_, rfl, _, rfl, _, rfl, sz_le (n := 2) (by decide), fun p hp => ?_⟩
            obtain ⟨a1, a2, a3⟩ := put _ z _ hz dk10 (by omega) off010 hl10 p hp
            exact ⟨ld, _, rfl, a1, a2, a3, _, _, _, hp6.put hnd hi hj hz, upd_same, rfl⟩
          · have hl7 := off7.at dk6 hl6 ⟨(fun _ z => nomatch z), (fun _ z => nomatch z)⟩
            exact ⟨dk7.mono (by omega), off6.trans off7, gs, _, _, hp6.skip, hl7, rfl⟩
      · rintro σ H6 ⟨dk6, off6, gs, o5, o6, hp6, hl6, rfl⟩
        exact ⟨dk6.mono (by omega), off6, gs, _, _, _, hp6.row h3, hl6, rfl⟩
    · rintro σ H5 ⟨dk5, off5, gs, o4, o5, o6, hp5, hl5, rfl⟩
      refine fun wd hwd => ?_
      have s7 := same_new (o := HO.dK []) hwd
      refine ⟨_, rfl, _, rfl, upd_same, wKv sg ld, rfl, by show 2 ≤ 15; decide, ?_⟩
      have nl : ld ≠ wd := by
        rintro rfl
        rw [hl5] at hwd
        cases hwd
      obtain ⟨nD, nC⟩ := new_ne dk5 hwd
      refine q _ wd ld gs ⟨by have := hp5.len; omega, hp5.ok, hp5.nd⟩ ⟨upd_same.trans ?_, (upd_ne nl).trans ((upd_ne nl).trans hl5)⟩ ?_ ?_
      · rfl
      · obtain ⟨m, t, js, a1, a2, a3, a4⟩ := (dk5.mono (T' := T + 40) (by omega)).ex
        exact ⟨m, t, js, (upd_ne (Ne.symm nD)).trans ((upd_ne (Ne.symm nD)).trans a1), (upd_ne (Ne.symm nC)).trans ((upd_ne (Ne.symm nC)).trans a2), a3, a4⟩
      · intro b o h1 h2 e
        have e5 := off5 b o h1 h2 e
        rw [upd_ne (ne_of_none e5 hwd)]
        exact s7 b o e5
end
end Lw

namespace Lw
open PySem PySem.Spec PyProof.Rows L2 Mq
open SX (S)
/-! ### the drawn book, made -/
theorem ltSS_irr (x : Str × Str) : ltSS x x = false := (PyProof.Rows.listOrd PyProof.Rows.itemOrd).irrefl (txt2 x)
theorem ltSS_trans {x y z : Str × Str} (h1 : ltSS x y = true) (h2 : ltSS y z = true) : ltSS x z = true := (PyProof.Rows.listOrd PyProof.Rows.itemOrd).trans (txt2 x) (txt2 y) (txt2 z) h1 h2
def AscP (fs : List Fd) : Prop := fs.Pairwise fun a b => ltSS (keyF a) (keyF b) = true
theorem key_apart {f g : Fd} (h : keyN f ≠ keyN g) : keyF f ≠ keyF g := fun e => h (by
  have e' : (S [f.x], S [f.y]) = (S [g.x], S [g.y]) := e
  injection e' with a b
  exact Prod.ext (S_one.mp a) (S_one.mp b))
theorem perm_lift {α β : Type} {f : α → β} {l m : List β} (h : l.Perm m) : ∀ {gs : List α}, m = gs.map f → ∃ fs : List α, l = fs.map f ∧ fs.Perm gs := by
  induction h with
  | nil =>
    intro gs e
    cases gs with
    | nil => exact ⟨[], rfl, .nil⟩
    | cons g gs => cases e
  | cons x _ ih =>
    intro gs e
    cases gs with
    | nil => cases e
    | cons g gs =>
      injection e with e1 e2
      obtain ⟨fs, a, b⟩ := ih e2
      exact ⟨g :: fs, by rw [a, e1]; rfl, b.cons g⟩
  | swap x y l =>
    intro gs e
    match gs, e with
    | [], e => cases e
    | [g], e => cases e
    | g1 :: g2 :: gs, e =>
      injection e with e1 e2
      injection e2 with e2 e3
      exact ⟨g2 :: g1 :: gs, by rw [e1, e2, e3]; rfl, .swap g1 g2 gs⟩
  | trans _ _ ih1 ih2 =>
    intro gs e
    obtain ⟨fs, a, b⟩ := ih2 e
    obtain ⟨fs', a', b'⟩ := ih1 a
    exact ⟨fs', a', b'.trans b⟩
theorem Apart.perm {fs gs : List Fd} (h : Apart gs) (p : fs.Perm gs) : Apart fs := (p.pairwise_iff fun h e => h e.symm).mpr h
theorem lt3_of {x y : Str × Str × Str} (h : ltSS (x.1, x.2.1) (y.1, y.2.1) = true) : ltS3 x y = true := by
  have e1 : ltSS (x.1, x.2.1) (y.1, y.2.1) = (decide (x.1.cps.toList < y.1.cps.toList) || (!decide (y.1.cps.toList < x.1.cps.toList) && (decide (x.2.1.cps.toList < y.2.1.cps.toList) || (!decide (y.2.1.cps.toList < x.2.1.cps.toList) && false)))) := rfl
  have e2 : ltS3 x y = (decide (x.1.cps.toList < y.1.cps.toList) || (!decide (y.1.cps.toList < x.1.cps.toList) && (decide (x.2.1.cps.toList < y.2.1.cps.toList) || (!decide (y.2.1.cps.toList < x.2.1.cps.toList) && (decide (x.2.2.cps.toList < y.2.2.cps.toList) || (!decide (y.2.2.cps.toList < x.2.2.cps.toList) && false)))))) := rfl
  rw [e1] at h
  rw [e2]
  revert h
  generalize decide (x.1.cps.toList < y.1.cps.toList) = a
  generalize decide (y.1.cps.toList < x.1.cps.toList) = b
  generalize decide (x.2.1.cps.toList < y.2.1.cps.toList) = c
  generalize decide (y.2.1.cps.toList < x.2.1.cps.toList) = d
  cases a <;> cases b <;> cases c <;> cases d <;> simp
def tri (f : Fd) : Str × Str × Str := (S [f.x], S [f.y], S f.z)
def triOf (H : Hp) (b : Addr) : Str × Str × Str := match H b with
  | some (.tup [.str x, .str y, .str z]) => (x, y, z)
  | _ => ("", "", "")
theorem triOf_eq {H : Hp} {b : Addr} {f : Fd} (h : H b = some (.tup (fdV f))) : triOf H b = tri f := by
  unfold triOf
  rw [h]
  rfl
theorem sorted_tri {gs : List Fd} {f : Addr → Str × Str × Str} {bs qs : List Addr} (hg : Apart gs) (h1 : bs.map f = gs.map tri) (h3 : qs.Perm bs)
    (h4 : ∀ i j, i ≤ j → j < qs.length → ltS3 (f (qs.getD j 0)) (f (qs.getD i 0)) = false) : ∃ fs : List Fd, fs.Perm gs ∧ AscP fs ∧ qs.map f = fs.map tri := by
  have h5 : (qs.map f).Perm (gs.map tri) := by
    rw [← h1]
    exact h3.map _
  obtain ⟨fs, e, p⟩ := perm_lift h5 rfl
  have ap := List.pairwise_iff_getElem.mp (hg.perm p)
  have hl : qs.length = fs.length := by
    have := congrArg List.length e
    rwa [List.length_map, List.length_map] at this
  have at' : ∀ i (h : i < fs.length), f (qs.getD i 0) = tri fs[i] := by
    intro i h
    have e1 : (qs.map f)[i]? = (fs.map tri)[i]? := by rw [e]
    rw [List.getElem?_map, List.getElem?_map, List.getElem?_eq_getElem h, List.getElem?_eq_getElem (by omega)] at e1
    rw [List.getD_eq_getElem?_getD, List.getElem?_eq_getElem (by omega)]
    exact Option.some.inj e1
  refine ⟨fs, p, List.pairwise_iff_getElem.mpr fun i j hi hj hij => ?_, e⟩
  have h := h4 i j (by omega) (by omega)
  rw [at' i hi, at' j hj] at h
  have h2 : ltSS (keyF fs[j]) (keyF fs[i]) = false := by
    cases e2 : ltSS (keyF fs[j]) (keyF fs[i]) with
    | false => rfl
    | true =>
      have := lt3_of (x := tri fs[j]) (y := tri fs[i]) e2
      rw [h] at this
      cases this
  exact lt_of h2 (fun z => key_apart (ap i j hi hj hij) z.symm)
theorem fs_ok {sg : List Nat} {fs gs : List Fd} (h : GsOk sg gs) (p : fs.Perm gs) (a : AscP fs) : FsOk sg fs := by
  refine ⟨by rw [p.length_eq]; exact h.few, fun f hf => h.ok f (p.mem_iff.mp hf), fun i j hij hj f g hf hg => ?_⟩
  have := List.pairwise_iff_getElem.mp a i j (by omega) hj hij
  rw [List.getElem?_eq_getElem hj] at hg
  rw [List.getElem?_eq_getElem (by omega)] at hf
  cases hf
  cases hg
  exact this
theorem tab_at : ∀ {gs : List Fd}, Apart gs → ∀ {f : Fd}, f ∈ gs → valV (tabF gs) [Sum.inr (S [f.x]), Sum.inr (S [f.y])] = some (.str (S f.z))
  | [], _, f, hf => by cases hf
  | g :: gs, h, f, hf => by
    obtain ⟨h1, h2⟩ := List.pairwise_cons.mp h
    unfold valV tabF
    rw [List.map_cons]
    by_cases e : keyN g = keyN f
    · have e2 : g = f := by
        rcases List.mem_cons.mp hf with r | r
        · exact r.symm
        · exact absurd e (h1 f r)
      subst e2
      simp [List.find?_cons]
    · have e3 : f ∈ gs := by
        rcases List.mem_cons.mp hf with r | r
        · rw [r] at e
          exact absurd rfl e
        · exact r
      rw [List.find?_cons_of_neg]
      · exact tab_at h2 e3
      · intro z
        have z' := of_decide_eq_true z
        injection z' with z1 z2
        injection z2 with z2 _
        exact e (Prod.ext (S_one.mp (Sum.inr.inj z1)) (S_one.mp (Sum.inr.inj z2)))
theorem find_mem : ∀ {gs : List Fd}, Apart gs → ∀ {f : Fd}, f ∈ gs → leftM gs f.x f.y = .some f.z
  | [], _, f, hf => by cases hf
  | g :: gs, h, f, hf => by
    obtain ⟨h1, h2⟩ := List.pairwise_cons.mp h
    unfold leftM
    by_cases e : keyN g = keyN f
    · have e2 : g = f := by
        rcases List.mem_cons.mp hf with r | r
        · exact r.symm
        · exact absurd e (h1 f r)
      subst e2
      rw [List.find?_cons_of_pos (by rw [decide_eq_true rfl, decide_eq_true rfl]; rfl)]
      rfl
    · have e3 : f ∈ gs := by
        rcases List.mem_cons.mp hf with r | r
        · rw [r] at e
          exact absurd rfl e
        · exact r
      rw [List.find?_cons_of_neg]
      · exact find_mem h2 e3
      · intro z
        obtain ⟨z1, z2⟩ := Bool.and_eq_true_iff.mp z
        exact e (Prod.ext (of_decide_eq_true z1) (of_decide_eq_true z2))
theorem left_some {gs : List Fd} {x y : Nat} {z : List Nat} (h : leftM gs x y = .some z) : ∃ f ∈ gs, f.x = x ∧ f.y = y ∧ f.z = z := by
  unfold leftM at h
  cases hf : gs.find? fun f => decide (f.x = x) && decide (f.y = y) with
  | none => rw [hf] at h; cases h
  | some f =>
    rw [hf] at h
    cases h
    have h2 := List.find?_some hf
    obtain ⟨z1, z2⟩ := Bool.and_eq_true_iff.mp h2
    exact ⟨f, List.mem_of_find?_eq_some hf, of_decide_eq_true z1, of_decide_eq_true z2, rfl⟩
theorem left_eq {fs gs : List Fd} (h : Apart gs) (p : fs.Perm gs) (x y : Nat) : leftM fs x y = leftM gs x y := by
  cases e : leftM fs x y with
  | some z =>
    obtain ⟨f, hf, rfl, rfl, rfl⟩ := left_some e
    exact (find_mem h (p.mem_iff.mp hf)).symm
  | none =>
    cases e2 : leftM gs x y with
    | none => rfl
    | some z =>
      obtain ⟨f, hf, rfl, rfl, rfl⟩ := left_some e2
      rw [find_mem (h.perm p) (p.mem_iff.mpr hf)] at e
      cases e
theorem laid_eq {fs gs : List Fd} (h : Apart gs) (p : fs.Perm gs) : laidM fs = laidM gs := by
  funext w y
  unfold laidM
  simp only [left_eq h p]
theorem led_eq {fs gs : List Fd} (h : Apart gs) (p : fs.Perm gs) : ledM fs = ledM gs := by
  funext w row
  unfold ledM
  rw [laid_eq h p]
theorem make_same {H H' : Hp} {x dx CR : Addr} (hx : H x = none) (hdx : H dx = none) (hne : dx ≠ x) (k : ∀ b o, upd (upd H dx (.own x)) x (.ins CR dx []) b = some o → b ≠ x → H' b = some o) : Same H H' := by
  intro b o e
  have e1 : b ≠ x := ne_of_none e hx
  have e2 : b ≠ dx := ne_of_none e hdx
  exact k b o ((upd_ne e1).trans ((upd_ne e2).trans e)) e1
theorem FdAll.snoc {K : PySem.W.Frag} {H : Hp} : ∀ {vs : List V} {fs : List Fd} {v : V} {f : Fd}, FdAll K H vs fs → FdAt K H v f → FdAll K H (vs ++ [v]) (fs ++ [f])
  | _, _, _, _, .nil, h => .cons h .nil
  | _, _, _, _, .cons a b, h => .cons a (FdAll.snoc b h)
theorem run_eq {fs gs : List Fd} (h : Apart gs) (p : fs.Perm gs) (w row : List Nat) : ∀ i, runM fs w row i = runM gs w row i
  | 0 => rfl
  | i + 1 => by
    show stepM fs i _ (runM fs w row i) = stepM gs i _ (runM gs w row i)
    rw [run_eq h p w row i]
    unfold stepM
    simp only [left_eq h p]
theorem ans_eq {fs gs : List Fd} (h : Apart gs) (p : fs.Perm gs) (w row : List Nat) (way : Nat) : ansM fs w row way = ansM gs w row way := by
  unfold ansM websM
  rw [run_eq h p, led_eq h p]
inductive TriAt (H : Hp) : List Addr → List Fd → Prop
  | nil : TriAt H [] []
  | cons {b : Addr} {bs : List Addr} {f : Fd} {fs : List Fd} : H b = some (.tup (fdV f)) → TriAt H bs fs → TriAt H (b :: bs) (f :: fs)
theorem TriAt.mv {H H' : Hp} (e : ∀ b xs, H b = some (.tup xs) → H' b = some (.tup xs)) : ∀ {bs : List Addr} {fs : List Fd}, TriAt H bs fs → TriAt H' bs fs
  | _, _, .nil => .nil
  | _, _, .cons a b => .cons (e _ _ a) (b.mv e)
theorem TriAt.snoc {H : Hp} : ∀ {bs : List Addr} {fs : List Fd} {b : Addr} {f : Fd}, TriAt H bs fs → H b = some (.tup (fdV f)) → TriAt H (bs ++ [b]) (fs ++ [f])
  | _, _, _, _, .nil, h => .cons h .nil
  | _, _, _, _, .cons a b, h => .cons a (b.snoc h)
theorem TriAt.len {H : Hp} : ∀ {bs : List Addr} {fs : List Fd}, TriAt H bs fs → bs.length = fs.length
  | _, _, .nil => rfl
  | _, _, .cons a b => congrArg (· + 1) b.len
theorem TriAt.map {H : Hp} : ∀ {bs : List Addr} {fs : List Fd}, TriAt H bs fs → bs.map (triOf H) = fs.map tri ∧ ∀ b ∈ bs, ∃ f, H b = some (.tup (fdV f))
  | _, _, .nil => ⟨rfl, fun b h => by cases h⟩
  | _, _, .cons a b => by
    obtain ⟨h1, h2⟩ := b.map
    refine ⟨by rw [List.map_cons, List.map_cons, triOf_eq a, h1], fun x hx => ?_⟩
    rcases List.mem_cons.mp hx with rfl | hx
    · exact ⟨_, a⟩
    · exact h2 x hx
theorem fd_inj {f g : Fd} (h : tri f = tri g) : fdV f = fdV g := by
  have h1 := congrArg (·.1) h
  have h2 := congrArg (·.2.1) h
  have h3 := congrArg (·.2.2) h
  show [V.str (tri f).1, V.str (tri f).2.1, V.str (tri f).2.2] = _
  rw [h]
  rfl
theorem fds_of {K : PySem.W.Frag} {H : Hp} : ∀ {qs : List Addr} {fs : List Fd}, (∀ b ∈ qs, ∃ f, H b = some (.tup (fdV f))) → qs.map (triOf H) = fs.map tri → FdAll K H (qs.map V.ref) fs
  | [], [], _, _ => .nil
  | [], _ :: _, _, h => by cases h
  | _ :: _, [], _, h => by cases h
  | q :: qs, f :: fs, h1, h2 => by
    injection h2 with e1 e2
    obtain ⟨g, hg⟩ := h1 q List.mem_cons_self
    rw [triOf_eq hg] at e1
    refine .cons ⟨q, rfl, Or.inl (Or.inl ?_)⟩ (fds_of (fun b hb => h1 b (List.mem_cons_of_mem _ hb)) e2)
    rw [hg, fd_inj e1]
def spCode (K : PySem.W.Frag) (C : Addr) : Sp := fun vs H Q _ => ∃ (wd ld : Addr) (sg : List Nat) (gs : List Fd), vs = [.ref wd] ∧ WAt H wd ld sg gs ∧ GsOk sg gs ∧ SgOk sg ∧
  ∀ H' r fa ta fs xs, fs.Perm gs → FsOk sg fs → BkAt H' C r sg fs fa ta → SqT K H' fa xs → FdAll K H' xs fs → Same H H' → Q (.ref r) H'
section
variable {P : Program} {w : World} {K : PySem.W.Frag} {mg : Str → Option Value} {base : Heap} {C : Addr}
theorem ok_code {f fB : Addr} {fd fdB : FuncData} (F : Fun K "_law_code" "_law_code" s__law_code f fd) (B : Blt mg) (bS : mg "sorted" = none)
    (gC : mg "Book" = some (.ref C)) (M : Mk K C fB) (bB : Binds K fdB ["self", "letters", "folds"] []) (GB : FnOk P w K mg base CX0 3 fB fdB ["self", "letters", "folds"] (spBook K C)) :
    FnOk P w K mg base CX0 5 f fd ["_law_f"] (spCode K C) := by
  refine F.ok sc__law_code (fun vs H Q E h => ?_) (fun cdv A outer s H vs Q E hr h => ?_)
  · obtain ⟨_, _, _, _, rfl, _⟩ := h
    rfl
  · obtain ⟨wd, ld, sg, gs, rfl, hw, hgs, hs, q⟩ := h
    have hu1 : (A.deeper (envOfC "_law_code" (defScope s__law_code) s.heap.objs.size f cdv)).units + 1 < cLine := by
      have := hr.units
      omega
    refine ⟨_, pss_one (ps_ret (pe_make M GB (hr.mono (by decide)) (by rfl) gC bB .nil pass0 (pa_cons (pe_dget hu1 (pv 0) pe_str (fun _ _ => rfl)) (pa_cons (pe_callTy call_tuple_of (by rfl) B.tuple (by decide +kernel) (pa_cons (pe_callB call_sorted3 (by rfl) bS (by decide +kernel) (pa_cons (pe_lock (pe_lc (own := [("_law_x", 1), ("_law_y", 2)]) (g := gTup K 2 (gCons (gName 1) (gCons (gName 2) gNil))) (tt := tYes) rfl sc__law_code.nd (pi_keys (pe_dget hu1 (pv 0) pe_str (fun _ _ => rfl))) (blkOk_by (own := [("_law_x", 1), ("_law_y", 2)]) (N := ["_law_f", "_law_x", "_law_y"]) (sc := defScope s__law_code) (by decide +kernel)) (fun _ _ _ _ _ => pg_tup rfl (pgs_cons (pg_name (i := 1) sc__law_code.nd rfl (Or.inl rfl)) (pgs_cons (pg_name (i := 2) sc__law_code.nd rfl (Or.inl rfl)) pgs_nil))) (fun _ _ _ _ _ => pts_nil) (fun _ _ _ _ _ => (pe_tup (pa_cons (pv 1) (pa_cons (pv 2) (pa_cons (pe_dget hu1 (pe_dget hu1 (pv 0) pe_str (fun _ _ => rfl)) (pe_tup (pa_cons (pv 1) (pa_cons (pv 2) pa_nil))) (fun _ _ => rfl)) pa_nil))))))) pa_nil)) pa_nil)) pa_nil)))), ?_⟩
    refine ⟨_, rfl, wd, _, rfl, DGet.k (k := .inr "signs") hw.w, ?_⟩
    refine ⟨ld, _, hw.l, trivial, fun od => ?_⟩
    have nwl : wd ≠ ld := by
      rintro rfl
      have := hw.w
      rw [hw.l] at this
      cases this
    have hw0 : upd H ld (.frz od (.dT (tabF gs))) wd = some (.dK (wKv sg ld)) := (upd_ne nwl).trans hw.w
    have hl0 : upd H ld (.frz od (.dT (tabF gs))) ld = some (.frz od (.dT (tabF gs))) := upd_same
    have back : ∀ H', Same (upd H ld (.frz od (.dT (tabF gs)))) H' → Same H (upd H' ld (.dT (tabF gs))) := by
      intro H' s' b o e
      by_cases hb : b = ld
      · subst hb
        rw [hw.l] at e
        rw [← e]
        exact upd_same
      · exact (upd_ne hb).trans (s' b o ((upd_ne hb).trans e))
    generalize upd H ld (.frz od (.dT (tabF gs))) = H0 at hw0 hl0 back ⊢
    refine ⟨_, rfl, wd, _, rfl, DGet.k (k := .inr "folds") hw0, ld, od, rfl, Or.inr ⟨tabF gs, hl0, fun L hL => ?_⟩⟩
    have lg : (tabF gs).length = gs.length := by
      unfold tabF
      rw [List.length_map]
    refine lc_yes (walk_keysT (d := ld) (o := od) (kvs := tabF gs)) (fun i H' => Same H0 H' ∧ ∃ bs, H' L = some (.lst (bs.map V.ref)) ∧ TriAt H' bs (gs.take i)) ⟨same_new hL, [], upd_same, .nil⟩ (fun i H' _ q => q.1 _ _ hl0) ?_ ?_
    · rintro i x H2 H3 hi ⟨s2, bs, hL2, tr⟩ ⟨rfl, k, v, b, hk, rfl, hb⟩
      rw [lg] at hi
      have hg : gs[i]? = some gs[i] := List.getElem?_eq_getElem hi
      have hmem : gs[i] ∈ gs := List.getElem_mem hi
      generalize gs[i] = fo at hg hmem
      unfold tabF at hk
      rw [List.getElem?_map, hg] at hk
      cases hk
      have hb' : H3 b = some (.tup [V.str (S [fo.x]), V.str (S [fo.y])]) := hb
      refine ⟨b, _, rfl, Or.inl (Or.inl hb'), rfl, _, _, rfl, _, _, rfl, rfl, rfl, ?_⟩
      have hw2 := s2 _ _ hw0
      refine ⟨_, rfl, _, rfl, _, rfl, wd, _, rfl, DGet.k (k := .inr "folds") hw2, _, rfl, _, rfl, sz_le (n := 2) (by decide), fun p2 hp2 => ?_⟩
      have s3 := same_new (o := HO.tup [V.str (S [fo.x]), V.str (S [fo.y])]) hp2
      have gg : DGet (upd H3 p2 (.tup [V.str (S [fo.x]), V.str (S [fo.y])])) ld (.ref p2) (some (.str (S fo.z))) := by
        rw [← tab_at hgs.nd hmem]
        exact Or.inr ⟨tabF gs, [Sum.inr (S [fo.x]), Sum.inr (S [fo.y])], p2, Or.inr ⟨od, s3 _ _ (s2 _ _ hl0)⟩, rfl, upd_same, rfl⟩
      refine ⟨ld, _, rfl, gg, sz_le (n := 3) (by decide), fun p3 hp3 => ?_⟩
      have s4 := s3.trans (same_new (o := HO.tup [V.str (S [fo.x]), V.str (S [fo.y]), V.str (S fo.z)]) hp3)
      have h3' : upd (upd H3 p2 (.tup [V.str (S [fo.x]), V.str (S [fo.y])])) p3 (.tup [V.str (S [fo.x]), V.str (S [fo.y]), V.str (S fo.z)]) p3 = some (.tup (fdV fo)) := upd_same
      generalize upd (upd H3 p2 (.tup [V.str (S [fo.x]), V.str (S [fo.y])])) p3 (.tup [V.str (S [fo.x]), V.str (S [fo.y]), V.str (S fo.z)]) = H4 at s4 h3' ⊢
      have hL4 := s4 _ _ hL2
      have hbl : bs.length ≤ 200 := by
        have := tr.len
        rw [List.length_take] at this
        have := hgs.few
        omega
      refine ⟨_, hL4, sz_lt (by rw [List.length_map]; omega), push_same hL (s2.trans s4), bs ++ [p3], ?_, ?_⟩
      · rw [upd_same, List.map_append]
        rfl
      · have mv : ∀ c xs, H4 c = some (.tup xs) → upd H4 L (.lst (bs.map V.ref ++ [V.ref p3])) c = some (.tup xs) := by
          intro c xs e
          refine (upd_ne ?_).trans e
          rintro rfl
          rw [hL4] at e
          cases e
        rw [List.take_add_one, hg]
        exact ((tr.mv fun c xs e => s4 _ _ e).mv mv).snoc (mv _ _ h3')
    · rintro H2 ⟨s2, bs, hL2, tr⟩
      rw [lg, List.take_length] at tr
      have nLl : L ≠ ld := by
        rintro rfl
        rw [hl0] at hL
        cases hL
      refine ⟨s2 _ _ hl0, ?_⟩
      have s3 := back H2 s2
      have hL3 : upd H2 ld (.dT (tabF gs)) L = some (.lst (bs.map V.ref)) := (upd_ne nLl).trans hL2
      have tr3 : TriAt (upd H2 ld (.dT (tabF gs))) bs gs := tr.mv fun c xs e => by
        refine (upd_ne ?_).trans e
        rintro rfl
        rw [s2 _ _ hl0] at e
        cases e
      generalize upd H2 ld (.dT (tabF gs)) = H3 at s3 hL3 tr3 ⊢
      obtain ⟨m1, m2⟩ := tr3.map
      refine ⟨L, bs, triOf H3, rfl, SqL.of hL3, fun b hb => ?_, fun qs p hq1 hq2 hp => ?_⟩
      · obtain ⟨fo, hfo⟩ := m2 b hb
        unfold Is3
        rw [triOf_eq hfo]
        exact hfo
      obtain ⟨fs, fp, fa, fe⟩ := sorted_tri hgs.nd m1 hq1 hq2
      have hfs := fs_ok hgs fp fa
      have all3 : FdAll K H3 (qs.map V.ref) fs := fds_of (fun b hb => m2 b (hq1.mem_iff.mp hb)) fe
      have t4 := same_new (o := HO.lst (qs.map V.ref)) hp
      have z4 : upd H3 p (.lst (qs.map V.ref)) p = some (.lst (qs.map V.ref)) := upd_same
      have s4 := s3.trans t4
      have all4 := all3.kp (KpT.same t4)
      generalize upd H3 p (.lst (qs.map V.ref)) = H4 at s4 z4 all4 ⊢
      refine ⟨p, _, rfl, Or.inl ⟨SqL.of z4, fun fa' hfa => ?_⟩⟩
      have t5 := same_new (o := HO.tup (qs.map V.ref)) hfa
      have hf5 : SqT K (upd H4 fa' (.tup (qs.map V.ref))) fa' (qs.map V.ref) := Or.inl (Or.inl upd_same)
      have all5 := all4.kp (KpT.same t5)
      have s5 := s4.trans t5
      generalize upd H4 fa' (.tup (qs.map V.ref)) = H5 at hf5 all5 s5 ⊢
      refine fun x dx hx hdx hne => ⟨x, dx, fa', sg, fs, qs.map V.ref, rfl, upd_same, ?_, ?_, hfs, hs, fun H6 ta hbk keep => ⟨rfl, ?_⟩⟩
      · exact Same.tup (same_new ((upd_ne (Ne.symm hne)).trans hx)) (Same.tup (same_new hdx) hf5)
      · exact (all5.kp (KpT.same (same_new hdx))).kp (KpT.same (same_new ((upd_ne (Ne.symm hne)).trans hx)))
      · have sm := make_same hx hdx hne keep
        exact q H6 x fa' ta fs _ fp hfs hbk (Same.tup sm hf5) (all5.kp (KpT.same sm)) (s5.trans sm)
end
end Lw

namespace Mq
open PySem PySem.Spec PyProof.Rows L2
/-! ### a text, from its end -/
def revS (z : Str) : Str := ⟨z.cps.toList.reverse.toArray⟩
theorem rev_ix (n : Nat) : Builtin.Str.strSliceIndices none none (-1) n = (List.range n).reverse := by
  rw [← PySem.W.krv_range, ← PySem.W.krv_sliceRange]
  rfl
theorem rev_pick (z : Str) : (Builtin.Str.strSliceIndices none none (-1) z.length).filterMap (z.cps[·]?) = z.cps.toList.reverse := by
  rw [rev_ix]
  show ((List.range z.cps.size).reverse).filterMap (z.cps[·]?) = _
  rw [List.filterMap_reverse, PySem.W.krv_all]
def tRevS (te : TE) : TE := fun σ H Q => te σ H fun x H1 => ∃ z : Str, x = .str z ∧ z.length ≤ sizeLine ∧ Q (.str (revS z)) H1
theorem pe_revS {X : Cx} {e : Expr} {te : TE} {k : Nat} {p1 p2 p3 pos : Pos} (he : PE X e te) : PE X (.Subscript e (.Slice none none (some (.UnaryOp .USub (.Constant (.int 1) k p1) p2)) p3) pos) (tRevS te) := by
  refine ⟨fun pins s σ H Q I0 h => ?_⟩
  refine Subscript_ (thn (he.run pins s σ H _ I0 h) fun v s1 ⟨x, H1, I1, r1, q1⟩ => ?_)
  obtain ⟨z, ez, hz, q⟩ := q1
  subst ez
  obtain ⟨tz, rfl⟩ := r1
  have back : PO X (some (.UnaryOp .USub (.Constant (.int 1) k p1) p2)) (tPart (tUn (rU fun i => .int (-i)) (tC (.int 1)))) := po_some (pe_un un_neg pe_int)
  refine wpAny_Slice (thn (po_none.run pins s1 σ H1 (fun o G => o = none ∧ G = H1) I1 ⟨rfl, rfl⟩) fun v1 s2 ⟨o1, G1, I2, a1, b1, c1⟩ => ?_)
  subst b1 c1
  refine thn (po_none.run pins s2 σ G1 (fun o G => o = none ∧ G = G1) I2 ⟨rfl, rfl⟩) fun v2 s3 ⟨o2, G2, I3, a2, b2, c2⟩ => ?_
  subst b2 c2
  refine thn (back.run pins s3 σ G2 (fun o G => o = some (-1) ∧ G = G2) I3 ⟨1, rfl, -1, rfl, rfl, rfl⟩) fun v3 s4 ⟨o3, G3, I4, a3, b3, c3⟩ => ?_
  subst b3 c3
  obtain ⟨l1, rfl, f1⟩ := IsPart.raw a1
  obtain ⟨l2, rfl, f2⟩ := IsPart.raw a2
  obtain ⟨l3, rfl, f3⟩ := IsPart.raw a3
  have I5 : Inv X pins σ G3 { s4 with heap := s4.heap.push { cls := .type "slice", data := .fields #[partValue l1, partValue l2, partValue l3] } } := I4.kept (t' := s4.toks) fun b ob q => Heap.get?_push_of_some _ q
  show wpAny (model X.prog X.w) X.A (subscriptTail e (.Slice none none (some (.UnaryOp .USub (.Constant (.int 1) k p1) p2)) p3) (.str z tz) (.ref s4.heap.objs.size)) (EP X pins σ Q) X.xe { s4 with heap := s4.heap.push { cls := .type "slice", data := .fields #[partValue l1, partValue l2, partValue l3] } }
  refine tail_any (ops := [.str z tz, .ref s4.heap.objs.size]) (typeIs_str _ z tz) (F.slot_str_getitem.lookup) ?_ (by with_unfolding_all rfl)
  refine wpAny_getItem_str_slice (l := l1) (u := l2) (st := l3) ⟨_, Heap.get?_push_size _ rfl, rfl, rfl⟩ (by rw [f3]; rfl) ?_
  unfold sliceMade slicePicked
  rw [f1, f2, f3]
  show Made.post (if ((-1 : Int) == 1 && (Builtin.Str.strSliceIndices none none (-1) z.length).length == z.length) = true then Made.val (.str z tz) else Made.str ⟨((Builtin.Str.strSliceIndices none none (-1) z.length).filterMap (z.cps[·]?)).toArray⟩) (EP X pins σ Q) _
  rw [rev_pick, if_neg (show ¬ _ by rw [show ((-1 : Int) == 1) = false by decide, Bool.false_and]; exact Bool.false_ne_true)]
  refine ⟨?_, .str _, G3, I5.tok _, ⟨_, rfl⟩, q⟩
  show (z.cps.toList.reverse.toArray).size ≤ sizeLine
  rw [List.size_toArray, List.length_reverse, Array.length_toList]
  exact hz
end Mq

namespace Lw
open PySem PySem.Spec PyProof.Rows L2 Mq
open SX (S)
/-! ### webs and rows that are drawn -/
theorem new_ne' {D C : Addr} {T : Nat} {H : Hp} {q : Addr} (k : DeckAt D C T H) (h : H q = none) : q ≠ D ∧ q ≠ C := by
  obtain ⟨_, _, _, e1, e2, _⟩ := k.ex
  refine ⟨?_, ?_⟩
  · rintro rfl
    rw [h] at e1
    cases e1
  · rintro rfl
    rw [h] at e2
    cases e2
theorem rev_S (l : List Nat) : revS (S l) = S l.reverse := rfl
theorem rep_S (l : List Nat) : repS (S l) 2 = S (l ++ l) := by
  show (⟨(#[] ++ l.toArray) ++ l.toArray⟩ : Str) = ⟨(l ++ l).toArray⟩
  simp
def lenOf (σ : L2.St) : Nat := match σ[3]? with
  | some (some (V.str x)) => x.length
  | _ => 0
def tLess : TT := fun σ H Q => ∃ (l : List Nat) (z : Nat), σ[3]? = some (some (.str (S l))) ∧ σ[4]? = some (some (.int (z : Nat))) ∧ l.length ≤ 100000 ∧ Q (decide (l.length < z)) H
def spLays : Sp := fun vs H Q _ => ∃ (D C : Addr) (T most : Nat) (sg : List Nat), vs = [.ref D, .str (S sg), .int (most : Nat)] ∧ DeckAt D C T H ∧ T ≤ 900000 ∧ 0 < sg.length ∧ sg.length ≤ 1000 ∧ most ≤ 200 ∧
  ∀ H' l, (∀ c ∈ l, c ∈ sg) → l.length ≤ most → DeckAt D C (T + 3000) H' → Off D C H H' → Q (.str (S l)) H'
section
variable {P : Program} {w : World} {K : PySem.W.Frag} {mg : Str → Option Value} {base : Heap}
theorem ok_lays {f fD fP : Addr} {fd fdD fdP : FuncData} (F : Fun K "_law_lays" "_law_lays" s__law_lays f fd) (B : Blt mg)
    (FD : Fun K "_law_draw" "_law_draw" s__law_draw fD fdD) (gD : mg "_law_draw" = some (.ref fD)) (bD : Binds K fdD ["_law_deck_here", "_law_many"] []) (GD : FnOk P w K mg base CX0 1 fD fdD ["_law_deck_here", "_law_many"] spDraw)
    (FP : Fun K "_law_pick" "_law_pick" s__law_pick fP fdP) (gP : mg "_law_pick" = some (.ref fP)) (bP : Binds K fdP ["_law_deck_here", "_law_some"] []) (GP : FnOk P w K mg base CX0 2 fP fdP ["_law_deck_here", "_law_some"] spPick) :
    FnOk P w K mg base CX0 3 f fd ["_law_deck_here", "_law_signs", "_law_most"] spLays := by
  refine F.ok sc__law_lays (fun vs H Q E h => ?_) (fun cdv A outer s H vs Q E hr h => ?_)
  · obtain ⟨_, _, _, _, _, rfl, _⟩ := h
    rfl
  · obtain ⟨D, C, T, most, sg, rfl, hdk, hT, h0, h1, hm, q⟩ := h
    refine ⟨_, (pss_cons (ps_par (i := 3) (j := 4) rfl sc__law_lays.nd rfl rfl (by decide) rfl rfl (pa_cons pe_str (pa_cons (pe_call GD (hr.mono (by decide)) (by rfl) gD FD.kp bD .nil pass0 (pa_cons (pv 0) (pa_cons (pe_op op_add (pv 2) pe_int) pa_nil))) pa_nil)) (by rfl))
      (pss_cons (ps_while PassesOwn.never (PT_imp (t' := tLess) (pt_cmpR op_lt (pe_callB call_len (by rfl) B.len (by decide +kernel) (pa_cons (pv 3) pa_nil)) (pv 4) (nomark _)) (fun σ H Q h => by
          obtain ⟨l, z, h3, h4, hl, q⟩ := h
          refine ⟨_, h3, _, _, rfl, len_S hl, _, h4, _, _, rfl, rfl, ?_⟩
          have e : decide (((l.length : Nat) : Int) < ((z : Nat) : Int)) = decide (l.length < z) := decide_eq_decide.mpr (by omega)
          exact ⟨_, congrArg V.bl e, q⟩))
        (pss_cons (ps_set (i := 5) sc__law_lays.nd rfl (Or.inl rfl) (pe_join pe_str (pe_lc (own := [("_law_k", 6)]) (g := gName 6) (tt := tYes) rfl sc__law_lays.nd (pi_range1 (by rfl) B.range (pa_cons (pe_op op_add pe_int (pe_call GD (hr.mono (by decide)) (by rfl) gD FD.kp bD .nil pass0 (pa_cons (pv 0) (pa_cons pe_int pa_nil)))) pa_nil)) (blkOk_by (own := [("_law_k", 6)]) (N := ["_law_deck_here", "_law_signs", "_law_most", "_law_found", "_law_size", "_law_piece", "_law_k"]) (sc := defScope s__law_lays) (by decide +kernel)) (fun _ _ _ _ _ => pg_name (i := 6) sc__law_lays.nd rfl (Or.inl rfl)) (fun _ _ _ _ _ => pts_nil) (fun _ _ _ _ _ => (pe_call GP (hr.mono (by decide)) (by rfl) gP FP.kp bP .nil pass0 (pa_cons (pv 0) (pa_cons (pv 1) pa_nil)))))))
        (pss_one (ps_set (i := 3) sc__law_lays.nd rfl (Or.inl rfl) (pe_op op_add_str (pv 3) (pe_call GP (hr.mono (by decide)) (by rfl) gP FP.kp bP .nil pass0 (pa_cons (pv 0) (pa_cons (Mq.pe_ls (pa_cons (pv 5) (pa_cons (pv 5) (pa_cons (pe_op op_mulS (pv 5) pe_int) (pa_cons (pe_op op_add_str (pv 5) (pe_revS (pv 5))) (pa_cons (pe_op op_add_str (pe_revS (pv 3)) (pv 5)) pa_nil)))))) pa_nil))))))))
      (pss_one (ps_ret (pe_slice C8.sl_txt (pv 3) po_none (po_some (pv 4))))))), ?_⟩
    refine ⟨_, rfl, _, rfl, _, _, rfl, rfl, D, C, T, most + 1, rfl, hdk, by omega, by omega, by omega, fun H1 z hz dk1 off1 => ?_⟩
    refine ⟨_, _, rfl, ?_⟩
    refine while_by (fun σ H' => ∃ (l : List Nat) (o5 : Option V), (∀ c ∈ l, c ∈ sg) ∧ l.length ≤ 2 * z + 6 ∧ DeckAt D C (T + 1 + 5 * l.length) H' ∧ Off D C H H' ∧ σ = [some (.ref D), some (.str (S sg)), some (.int (most : Nat)), some (.str (S l)), some (.int (z : Nat)), o5, none])
      (fun σ _ => 1000 - lenOf σ) ⟨[], none, (fun _ h => by cases h), Nat.zero_le _, dk1, off1, rfl⟩ ?_ ?_
    · rintro σ H2 ⟨l, o5, hl, hll, dk2, off2, rfl⟩
      refine ⟨l, z, rfl, rfl, by omega, ite2 (fun hc => ?_) (fun hc => ?_)⟩
      · have hlz : l.length < z := of_decide_eq_true hc
        refine ⟨⟨_, rfl⟩, _, rfl, D, C, _, 3, rfl, dk2, by omega, by decide, by decide, fun H3 k hk dk3 off3 => ?_⟩
        refine ⟨_, _, rfl, rfl, _, rfl, by omega, by omega, fun L hL => ?_⟩
        rw [show ((1 : Int) + (k : Nat)).toNat = k + 1 by omega]
        have hLn := new_ne' dk3 hL
        refine lc_yes (walk_rng (n := k + 1)) (fun i H' => DeckAt D C (T + 1 + 5 * l.length + 1 + i) H' ∧ Off D C H3 H' ∧ ∃ p : List Nat, p.length = i ∧ (∀ c ∈ p, c ∈ sg) ∧ H' L = some (.lst (p.map fun c => .str (S [c])))) ⟨dk3.same (same_new hL), Off.same (same_new hL), [], rfl, (fun _ h => by cases h), upd_same⟩ (fun _ _ _ _ => trivial) ?_ ?_
        · rintro i x H4 H5 hi ⟨dk4, off4, p, hp, hc4, hL4⟩ ⟨rfl, rfl⟩
          refine ⟨rfl, ?_⟩
          refine ⟨_, rfl, _, rfl, D, C, _, _, rfl, dk4, by omega, Or.inl ⟨sg, rfl, h0, h1, fun H6 c hcs dk6 off6 => ?_⟩⟩
          refine ⟨_, off6 L _ hLn.1 hLn.2 hL4, sz_lt (by rw [List.length_map]; omega), ?_, ?_, p ++ [c], by rw [List.length_append, hp]; rfl, ?_, ?_⟩
          · obtain ⟨m, t, js, a1, a2, a3, a4⟩ := dk6.ex
            exact ⟨m, t, js, (upd_ne (Ne.symm hLn.1)).trans a1, (upd_ne (Ne.symm hLn.2)).trans a2, a3, by omega⟩
          · intro b o e1 e2 e3
            rw [upd_ne (ne_of_none e3 hL)]
            exact (off4.trans off6) b o e1 e2 e3
          · intro d hd
            rcases List.mem_append.mp hd with hd | hd
            · exact hc4 d hd
            · rw [List.mem_singleton.mp hd]
              exact hcs
          · rw [upd_same, List.map_append]
            rfl
        · rintro H4 ⟨dk4, off4, p, hp, hc4, hL4⟩
          refine ⟨S [], L, (p.map fun c => [c]).map S, rfl, rfl, Or.inl (SqL.of (hL4.trans ?_)), ?_, ?_⟩
          · rw [List.map_map, List.map_map]
            rfl
          · rw [ones_sum, SX.S_len, List.length_map, List.length_map]
            show p.length + p.length * 0 ≤ _
            omega
          · rw [SX.join_S, joinW_one]
            have off04 := (off2.trans off3).trans off4
            have lens : ∀ n, n ≤ 1000 → ∀ u : List Nat, u.length ≤ n → (S u).length ≤ sizeLine := fun n hn u hu => by
              rw [SX.S_len]
              exact sz_le (by omega)
            have hpl : p.length ≤ 3 := by omega
            refine ⟨_, rfl, _, rfl, _, rfl, _, rfl, _, rfl, S p, 2, rfl, rfl, by decide, by decide, by rw [SX.S_len]; omega, by rw [SX.S_len]; omega, ?_, ?_⟩
            · rw [rep_S, SX.S_len, List.length_append]
              exact sz_le (by omega)
            refine ⟨_, rfl, _, rfl, S p, rfl, lens 1000 (by decide) p (by omega), S p, revS (S p), rfl, rfl, ?_, ?_⟩
            · rw [rev_S, SX.S_len, SX.S_len, List.length_reverse]
              exact sz_le (by omega)
            refine ⟨_, rfl, S l, rfl, lens 1000 (by decide) l (by omega), _, rfl, revS (S l), S p, rfl, rfl, ?_, ?_⟩
            · rw [rev_S, SX.S_len, SX.S_len, List.length_reverse]
              exact sz_le (by omega)
            rw [rep_S, rev_S, rev_S, SX.S_cat, SX.S_cat]
            refine ⟨sz_le (n := 5) (by decide), fun pm hpm _ => ?_⟩
            have s5 := same_new (o := HO.lst [V.str (S p), V.str (S p), V.str (S (p ++ p)), V.str (S (p ++ p.reverse)), V.str (S (l.reverse ++ p))]) hpm
            refine ⟨D, C, _, .ref pm, rfl, dk4.same s5, by omega, Or.inr ⟨pm, _, rfl, upd_same, (new_ne' dk4 hpm).2, Nat.zero_lt_succ _, by show 5 ≤ 1000; decide, fun H6 v hv dk6 off6 => ?_⟩⟩
            have off06 := (off04.trans (Off.same s5)).trans off6
            obtain ⟨u, hu1, hu2, hu3, rfl⟩ : ∃ u : List Nat, (∀ c ∈ u, c ∈ sg) ∧ 0 < u.length ∧ u.length ≤ l.length + 6 ∧ v = .str (S u) := by
              have both : ∀ {a b : List Nat}, (∀ c ∈ a, c ∈ sg) → (∀ c ∈ b, c ∈ sg) → ∀ c ∈ a ++ b, c ∈ sg := fun ha hb c hc => (List.mem_append.mp hc).elim (ha c) (hb c)
              have rv : ∀ {a : List Nat}, (∀ c ∈ a, c ∈ sg) → ∀ c ∈ a.reverse, c ∈ sg := fun ha c hc => ha c (List.mem_reverse.mp hc)
              simp only [List.mem_cons, List.not_mem_nil, or_false] at hv
              rcases hv with rfl | rfl | rfl | rfl | rfl
              · exact ⟨p, hc4, by omega, by omega, rfl⟩
              · exact ⟨p, hc4, by omega, by omega, rfl⟩
              · exact ⟨p ++ p, both hc4 hc4, by rw [List.length_append]; omega, by rw [List.length_append]; omega, rfl⟩
              · exact ⟨p ++ p.reverse, both hc4 (rv hc4), by rw [List.length_append]; omega, by rw [List.length_append, List.length_reverse]; omega, rfl⟩
              · exact ⟨l.reverse ++ p, both (rv hl) hc4, by rw [List.length_append]; omega, by rw [List.length_append, List.length_reverse]; omega, rfl⟩
            refine ⟨S l, S u, rfl, rfl, ?_, ?_⟩
            · rw [SX.S_len, SX.S_len]
              exact sz_le (by omega)
            rw [SX.S_cat]
            have hlen : (l ++ u).length = l.length + u.length := List.length_append
            refine ⟨⟨l ++ u, _, fun c hc => (List.mem_append.mp hc).elim (hl c) (hu1 c), by omega, dk6.mono (by omega), off06, rfl⟩, ?_⟩
            show 1000 - (S (l ++ u)).length < 1000 - (S l).length
            rw [SX.S_len, SX.S_len]
            omega
      · have hlz : ¬ l.length < z := fun h => hc (decide_eq_true h)
        have hls : (S l).length ≤ sizeLine := by
          rw [SX.S_len]
          exact sz_le (by omega)
        refine ⟨_, rfl, _, rfl, _, rfl, S l, rfl, hls, ?_⟩
        have e2 : Txt.slice (S l) none (some ((z : Nat) : Int)) = S (l.take z) := by
          rw [SX.slice_to (by omega), Int.toNat_natCast]
        rw [e2]
        exact q H2 (l.take z) (fun c hc => hl c ((List.take_sublist z l).subset hc)) (by rw [List.length_take]; omega) (dk2.mono (by omega)) off2
    · rintro σ H2 Q1 Q2 hq ⟨l, z2, a, b, c, d⟩
      exact ⟨l, z2, a, b, c, hq _ _ d⟩
end
end Lw

namespace Mq
open PySem PySem.Spec PySem.W PySem.Calls PySem.HandSPX PyProof.Rows
/-! ### an own error made by keywords -/
section
variable {M : Model} {A : Around} {E : Value → Shared → Prop} {h : Heap} {g : Array GenState} {dr : Drawn} {tk : Nat} {os : OsState}
variable {nm q : Str} {C N : Addr} {bs bm bmB : List Value} {hd : Bool} {sn : List Str} {sub : List Value} {ab : Bool} {col : Option Bool} {dd : Option Addr} {k0 k1 k2 k3 k5 : Option Value} {B newId initId : String}
theorem new_fine (F : ExcBaseFacts B newId initId bmB) (same : ∀ X : String, bm.contains (.type X) = bmB.contains (.type X)) {us : List Value} {kw : List (Str × Value)} {Q : Unit → Shared → Prop}
    (at' : h.get? C = some (excClassObj nm q C N bs bm hd sn sub ab col dd k0 k1 k2 k3 k5 newId)) (done : Q () ⟨h, g, dr, tk, os⟩) : wpAny M A (checkBuiltinCall newId ⟨.ref C :: us, kw⟩) Q E ⟨h, g, dr, tk, os⟩ := by
  have below : (Value.ref C :: bm).contains (.type B) = true := by rw [List.contains_cons, same, F.hasB, Bool.or_true]
  have ns := F.noStar
  simp only [checkBuiltinCall, F.newKind, F.newSplit, F.newRow]
  repeat (first
    | refine wpAny_loadPart_at at' ?_
    | (refine wpAny_isSubtype_exc at' ?_; rw [below])
    | refine wpAny_staticBase_exc at' ?_
    | refine wpAny_madeBy_exc at' ?_
    | simp only [bne_self_eq_false, Bool.false_eq_true, if_false]
    | wp_step)
  exact done
end
section
variable {prog : Program} {w : World} {A : Around} {E : Value → Shared → Prop} {R : Result → Shared → Prop} {h : Heap} {g : Array GenState} {dr : Drawn} {tk : Nat} {os : OsState}
variable {nm q : Str} {C N : Addr} {bs bm bmB : List Value} {hd : Bool} {sn : List Str} {sub : List Value} {ab : Bool} {col : Option Bool} {dd : Option Addr} {k0 k1 k2 k3 k5 : Option Value} {B newId initId : String}
theorem new_kw (F : ExcBaseFacts B newId initId bmB) (same : ∀ X : String, bm.contains (.type X) = bmB.contains (.type X)) {us : List Value} {kw : List (Str × Value)}
    (at' : h.get? C = some (excClassObj nm q C N bs bm hd sn sub ab col dd k0 k1 k2 k3 k5 newId)) (few : us.length ≤ sizeLine)
    (done : R (.ok (.ret (.ref (h.objs.size + 1)))) ⟨(h.push (kdv_tup us)).push (excO C h.objs.size), g, dr, tk, os⟩) :
    codeAny (model prog w) A (.builtin newId ⟨.ref C :: us, kw⟩) R ⟨h, g, dr, tk, os⟩ := by
  have ends := F.ends
  have isB : (Value.ref C :: bm).contains (.type B) = true := by rw [List.contains_cons, same, F.hasB, Bool.or_true]
  have isA : (Value.ref C :: bm).contains (.type "AttributeError") = false := by rw [List.contains_cons, same, F.noAttr]; rfl
  have isN : (Value.ref C :: bm).contains (.type "NameError") = false := by rw [List.contains_cons, same, F.noName]; rfl
  refine codeAny_builtinAt F.entry ?_
  unfold Builtin.«BaseException.__new__»
  refine PySem.wpAt_bind ?_
  show PySem.wpAt _ _ _ (stack >>= _) _ _ _
  refine PySem.wpAt_bind (PySem.wpAt_stack fun p below => PySem.wpAt_of_wpAny ?_)
  wp_walk
  refine PySem.wpAt_of_wpAny ?_
  rw [F.owner]
  repeat (first
    | with_reducible refine wpAny_madeHere_exc F.canon at' ?_
    | with_reducible refine wpAny_loadPart_at at' ?_
    | (with_reducible refine wpAny_isSubtype_exc at' ?_; first | rw [isB] | rw [isA] | rw [isN])
    | wp_step)
  show R _ _
  rw [Heap.size_push]
  exact done
theorem type_kw (F : ExcBaseFacts B newId initId bmB) (same : ∀ X : String, bm.contains (.type X) = bmB.contains (.type X)) {us : List Value} {kw : List (Str × Value)} {fI : Addr} {Q : Fin → Shared → Prop}
    (at' : h.get? C = some (excClassObj nm q C N bs bm hd sn sub ab col dd k0 k1 k2 k3 k5 newId)) (few : us.length ≤ sizeLine)
    (looks : Looks (model prog w) h (typeLookup (.ref C) "__init__") (some (.ref fI))) (binds : ∀ self, Looks (model prog w) h (bindSpecial (.ref fI) self) (.ref fI, [self]))
    (done : codeAny (model prog w) A (.call (.ref fI) ⟨.ref (h.objs.size + 1) :: us, kw⟩)
      (fun r s' => match r with | .ok (.ret v) => v = .none ∧ Q (.done (.ret (.ref (h.objs.size + 1)))) s' | .ok _ => False | .error e => E e s')
      ⟨(h.push (kdv_tup us)).push (excO C h.objs.size), g, dr, tk, os⟩) :
    wpAny (model prog w) A (Builtin.«type.__call__» ⟨.ref C :: us, kw⟩) Q E ⟨h, g, dr, tk, os⟩ := by
  repeat (first
    | with_reducible refine wpAny_loadPart_at at' ?_
    | with_reducible refine wpAny_madeBy_exc at' ?_
    | wp_step)
  refine codeAny_call_builtin_code (Code.quiet_builtin _ F.quiet) (new_fine F same at' ?_)
  refine new_kw F same at' few ?_
  show wpAny _ _ _ _ _ _
  have k : ∀ b o, h.get? b = some o → ((h.push (kdv_tup us)).push (excO C h.objs.size)).get? b = some o := fun b o e => Heap.get?_push_of_some _ (Heap.get?_push_of_some _ e)
  have at1 := k _ _ at'
  have new : ((h.push (kdv_tup us)).push (excO C h.objs.size)).get? (h.objs.size + 1) = some (excO C h.objs.size) := by heap_get
  have own : (Value.ref C :: bm).contains (.ref C) = true := by simp
  have i1 := looks.keeps k
  have b1 := (binds (.ref (h.objs.size + 1))).keeps k
  unfold isInstance
  repeat (first
    | with_reducible refine wpAny_loadPart_at new ?_
    | (with_reducible refine wpAny_isSubtype_exc at1 ?_; rw [own])
    | wp_step)
  show wpAny _ _ (typeLookup (.ref C) _) _ _ _
  refine i1.at ?_
  refine wpAny_holding (wpAny_bind (b1.at ?_))
  refine wpAny_bind (wpAny_call (codeAny_mono done fun r s' z => ?_))
  rcases r with e | (v | _ | _ | _) <;> first | exact z | exact z.elim | skip
  obtain ⟨rfl, z⟩ := z
  first
    | exact wpAny_pure (wpAny_pure z)
    | (wp_walk; exact z)
theorem call_kw (F : ExcBaseFacts B newId initId bmB) (same : ∀ X : String, bm.contains (.type X) = bmB.contains (.type X)) {us : List Value} {kw : List (Str × Value)} {fI : Addr}
    (at' : h.get? C = some (excClassObj nm q C N bs bm hd sn sub ab col dd k0 k1 k2 k3 k5 newId)) (few : us.length ≤ sizeLine)
    (looks : Looks (model prog w) h (typeLookup (.ref C) "__init__") (some (.ref fI))) (binds : ∀ self, Looks (model prog w) h (bindSpecial (.ref fI) self) (.ref fI, [self]))
    (done : codeAny (model prog w) (A.under (.builtin "type.__call__" ⟨.ref C :: us, kw⟩)) (.call (.ref fI) ⟨.ref (h.objs.size + 1) :: us, kw⟩) (InitBack (h.objs.size + 1) R)
      ⟨(h.push (kdv_tup us)).push (excO C h.objs.size), g, dr, tk, os⟩) :
    codeAny (model prog w) A (.call (.ref C) ⟨us, kw⟩) R ⟨h, g, dr, tk, os⟩ := by
  have f1 := tc_lookup
  have f2 := tc_bind (.ref C)
  have isT : (⟨h, g, dr, tk, os⟩ : Shared).TypeIs (.ref C) "type" := ⟨_, at', rfl⟩
  refine codeAny_of_tree ?_
  show wpAny _ _ (callAny (.ref C) _) _ _ _
  repeat (any_goals (first
    | assumption
    | with_reducible refine wpAny_loadPart_at at' ?_
    | wp_step))
  refine ⟨rfl, ?_⟩
  refine codeAny_call_builtin_at (Code.quiet_builtin _ (by decide +kernel)) entry_typeCall (wpAny_check_type_call_sub at' (type_kw F same at' few looks binds ?_))
  refine codeAny_mono done fun r s' z => ?_
  rcases r with e | (v | _ | _ | _) <;> exact z
end
end Mq

namespace Mq
open PySem PySem.Spec PyProof.Rows L2
open PySem.W (Frag)
open PySem.Builtin.ObjectAttr
/-! ### a second field -/
section
variable {prog : Program} {w : World} {A : Around} {E : Value → Shared → Prop} {R : Result → Shared → Prop}
  {hp : Heap} {g : Array GenState} {d : Drawn} {t : Nat} {os : OsState} {K : Frag}
theorem osa_next {name n0 : Str} {tk : Tok} {v v0 : Value} {x C t1 dx : Addr} (X : K.In hp)
    (hx : hp.get? x = some (PySem.W.excObj C t1 (some dx) .none)) (hn : hp.Ns1 dx (fun y => if y = n0 then some v0 else none)) (ho : PySem.W.excOver K C exTail = true)
    (hh : PySem.W.hasDictIn K C = true) (ht : PySem.W.takerIn K C name = some none)
    (hq : ∀ h' tk', (∀ b o, b ≠ dx → hp.get? b = some o → h'.get? b = some o) →
      h'.Ns1 dx (fun y => if y = name then some v else if y = n0 then some v0 else none) → R (.ok (.ret .none)) ⟨h', g, d, tk', os⟩) :
    codeAny (model prog w) A (.call (.builtin "object.__setattr__") ⟨[.ref x, .str name tk, v], []⟩) R ⟨hp, g, d, t, os⟩ := by
  obtain ⟨od, hod, _⟩ := lookIn_ns hn
  refine PySem.W.osa_openX (od := some od) (s := ⟨hp, g, d, t, os⟩) F.store_Exception X ⟨hx, rfl, rfl, hod⟩ ho ht (fun b => ?_)
  obtain ⟨cd, hc, hd'⟩ := PySem.W.any_some hh
  have Lc : PySem.W.Looks (model prog w) hp (classData C) cd := PySem.W.looks_clsIn X hc
  refine wpAny_bind (wpAny_pure (wpAny_bind ?_))
  unfold ownDictForStores
  show wpAny _ _ (instanceDict x true) _ _ _
  unfold instanceDict
  refine wpAny_bind (wpAny_loadPart hx ?_)
  dsimp only
  refine wpAny_bind (Lc.here ?_)
  rw [hd']
  rw [if_neg (by decide)]
  refine wpAny_pure ?_
  show wpAny _ _ (storeInDict dx (.str name tk) name v) _ _ _
  unfold storeInDict newKeyGuard
  refine wpAny_bind (wpAny_pure (wpAny_bind (wpAny_nsSet1 hn fun h' hn' hs => ?_)))
  have hw : PySem.Within (fun y => if y = name then some v else if y = n0 then some v0 else none) [name, n0] := by
    have h1 := PySem.Within.cons name v (PySem.Within.cons n0 v0 PySem.Within.nil)
    exact h1
  obtain ⟨oD, esD, epD, hoD, hdD, hcD⟩ := hn'.count hw
  refine wpAny_bind (wpAny_lookBehind hoD (by rw [hdD]; exact pastItsLine_dict (Nat.le_trans hcD (by rw [sizeLine_eq]; show 2 ≤ 16777216 + 1; decide))) ?_)
  wp_walk
  exact hq h' _ (fun b o hb ho => (hs.2 b hb).trans ho) hn'
end
/-! ### errors as values -/
def ExF (C : Addr) (d : Option Addr) (a : Addr) : HO := .ext fun h => ∃ (oe : Obj) (vs : Array Value), h.get? a = some oe ∧ Zc (.ref C) d oe ∧ oe.data = .fields vs
theorem exF_ok {P : Program} {w : World} {H : Hp} {h : Heap} {a C : Addr} {d : Option Addr} {oe : Obj} {vs : Array Value} (e : h.get? a = some oe) (z : Zc (.ref C) d oe) (f : oe.data = .fields vs) : ObjOk P w H h a (ExF C d a) :=
  ⟨⟨oe, vs, e, z, f⟩, ⟨oe, e⟩, fun _ _ ⟨o, v, q, r⟩ k => ⟨o, v, k o q, r⟩⟩
/-- the error at e, of the class C, its field's dict at d -/
structure ErrAt (H : Hp) (C e d : Addr) (fs : List (Str × V)) : Prop where
  ex : H e = some (ExF C (some d) e)
  fd : H d = some (.xd fs)
theorem ErrAt.same {H H' : Hp} {C e d : Addr} {fs : List (Str × V)} (h : ErrAt H C e d fs) (s : ∀ b o, H b = some o → H' b = some o) : ErrAt H' C e d fs := ⟨s _ _ h.ex, s _ _ h.fd⟩
section
variable {X : Cx} {pins : List (Addr × Obj)} {σ : L2.St} {H : Hp} {s : Shared}
/-- e.n, e an error that is a value -/
def tXv (C : Addr) (n : Str) (te : TE) : TE := fun σ H Q => te σ H fun x H1 => ∃ (a d : Addr) (fs : List (Str × V)) (v : V), x = .ref a ∧ ErrAt H1 C a d fs ∧ fs.lookup n = some v ∧ Q v H1
theorem pe_xv {C : Addr} {e : Expr} {te : TE} {pos : Pos} {n : Str} (T : XfC X.K C) (hno : PySem.W.findIn X.K (.ref C) n = some none)
    (he : PE X e te) (hb : attributeBase e n X.env (eval e X.env) = eval e X.env := by rfl) : PE X (.Attribute e n pos) (tXv C n te) := by
  refine ⟨fun pins s σ H Q I h => ?_⟩
  refine attr_of hb (thn (he.run pins s σ H _ I h) fun u s1 hh => ?_)
  obtain ⟨x, H1, I1, rx, a, dd, fs, v, ex, er, l, q⟩ := hh
  subst ex
  obtain rfl : u = Value.ref a := rx
  obtain ⟨⟨oe, vs, ha, hz, hd⟩, _, _⟩ := (show ObjOk X.prog X.w H1 s1.heap a (ExF C (some dd) a) from I1.hok a _ er.ex)
  obtain ⟨mA, hns, hr⟩ := (show ObjOk X.prog X.w H1 s1.heap dd (.xd fs) from I1.hok dd _ er.fd)
  obtain ⟨od, ho, hl⟩ := lookIn_ns hns
  obtain ⟨u, hu, ru⟩ := RelO.some_of (v := v) (o := mA n) (by rw [← l]; exact hr n)
  have J : PySem.W.InstAt s1.heap a oe C (some od) := by
    refine ⟨ha, hz.1, ?_, ?_⟩
    · unfold PySem.W.notCls
      rw [hd]
    · rw [hz.2]
      exact ho
  exact HandSPX.exc_get I1.kIn J T.ga T.gg T.exC (PySem.W.findObj_own T.hdC hno rfl (by rw [hl, hu])) (handed_of ru) ⟨v, H1, I1.tok _, ru, q⟩
/-- isinstance(e, c), e an error that is a value -/
def rIsE (K : PySem.W.Frag) : List V → Hp → VK → Prop := fun xs H Q => ∃ (a D : Addr) (d : Option Addr) (c : V) (u : Value) (b : Bool), xs = [.ref a, c] ∧ ClsV c u ∧ H a = some (ExF D d a) ∧
  (∀ x, d = some x → ∃ fs, H x = some (.xd fs)) ∧ HeldC K D ∧ PySem.W.kitOne K (.ref D) u = some b ∧ Q (.bl b) H
theorem call_isE : CallR X (.builtin "isinstance") (rIsE X.K) := by
  intro pins s σ H xs us Q I r h
  obtain ⟨a, D, d, c, u, b, rfl, k, ha, hdx, C, e, q⟩ := h
  obtain ⟨u1, u2, rfl, r1, r2⟩ := vals2 r
  have e2 := k.eq r2
  subst e2
  cases r1
  obtain ⟨⟨oe, vs, hget, hz, hv⟩, _, _⟩ := (show ObjOk X.prog X.w H s.heap a (ExF D d a) from I.hok a _ ha)
  obtain ⟨od, J⟩ : ∃ od, PySem.W.InstAt s.heap a oe D od := by
    cases d with
    | none =>
      refine ⟨none, hget, hz.1, ?_, ?_⟩
      · unfold PySem.W.notCls
        rw [hv]
      · rw [hz.2]
        trivial
    | some dd =>
      obtain ⟨fs, hf⟩ := hdx dd rfl
      obtain ⟨mA, ⟨od, es, ep, ho, _⟩, _⟩ := (show ObjOk X.prog X.w H s.heap dd (.xd fs) from I.hok dd _ hf)
      refine ⟨some od, hget, hz.1, ?_, ?_⟩
      · unfold PySem.W.notCls
        rw [hv]
      · rw [hz.2]
        exact ho
  refine PySem.W.kia_one (PySem.W.kitx_exc C.cl C.ga C.gg C.sb C.ca C.sp C.tk C.mo) I.kIn J e (fun z => by cases z) (fun tk => ?_)
  exact ⟨.bl b, H, I.kept (t' := tk) (fun _ _ z => z), rfl, q⟩
/-- C(), a bare one -/
theorem pe_exB {C : Addr} {bmB : List Value} {B newId initId : String} {x : Str} {p pos : Pos} (F : ExcBaseFacts B newId initId bmB) (q : PySem.W.excIn X.K C bmB newId = true) (gC : X.mg x = some (.ref C)) (kC : PySem.W.keepIn X.K (.ref C) = true) (hg : Gl X x)
    (hdb : (x == ("__debug__" : Str)) = false := by decide) :
    PE X (.Call (.Name x p) [] [] pos) (fun _ H Q => ∀ a, H a = none → Q (.ref a) (upd H a (ExF C none a))) := by
  refine ⟨fun pins s σ H Q I h => ?_⟩
  refine wpAny_Call_Name_kw (ld_glob I hg gC ?_ hdb)
  refine PySem.W.callWith_K0 I.kIn kC ?_
  obtain ⟨bm, N, nm, qn, bs, hdct, sn, sub, ab, col, dd, k0, k1, k2, k3, k5, mN, hC, hN, hni, T⟩ := exc_obj I.kIn q
  refine wpAny_call_exc_subT F T hC hN hni (fun h' a hm => ?_) (by show 0 ≤ sizeLine; exact Nat.zero_le _)
  have hn : H a = none := I.hok.gone hm.new
  obtain ⟨t, ht, _, _⟩ := hm.there
  exact ⟨.ref a, upd H a (ExF C none a), I.laidN hm.keeps hm.new hn (exF_ok ht ⟨rfl, rfl⟩ rfl), rfl, h a hn⟩
end
end Mq

namespace Mq
open PySem PySem.Spec PyProof.Rows L2
open PySem.W (Frag)
/-! ### the call of an error's class as a value -/
/-- a made error, its fields by m -/
structure MadeM (h h' : Heap) (e C d : Addr) (m : Str → Option Value) : Prop where
  keep : ∀ b o, h.get? b = some o → h'.get? b = some o
  new : h.objs.size ≤ e
  obj : ∃ oe vs, h'.get? e = some oe ∧ oe.cls = .ref C ∧ oe.dict = some d ∧ oe.data = .fields vs ∧ vs[1]? = some .none
  big : h.objs.size ≤ d
  ne : d ≠ e
  ns : h'.Ns1 d m
/-- what the written part says of an error's class -/
structure ErrC (K : Frag) (mg : Str → Option Value) (x : Str) (C fI : Addr) : Prop where
  gC : mg x = some (.ref C)
  kC : PySem.W.keepIn K (.ref C) = true
  ex : PySem.W.excInitIn K C exTail "Exception.__new__" = true
  ov : PySem.W.excOver K C exTail = true
  hdC : PySem.W.hasDictIn K C = true
  sa : PySem.W.findIn K (.ref C) "__setattr__" = some (some (.builtin "object.__setattr__"))
  iC : PySem.W.findIn K (.ref C) "__init__" = some (some (.ref fI))
  tC : PySem.W.typeIn K (.ref fI) = some (.type "function")
  exC : PySem.W.subIn K (.ref C) (.type "BaseException") = some true
  tyC : PySem.W.typeIn K (.ref C) = some (.type "type")
/-- calls of C with these arguments make an error with fields by m -/
def Makes (K : Frag) (C : Addr) (us : List Value) (kw : List (Str × Value)) (m : Str → Option Value) : Prop :=
  ∀ (prog : Program) (w : World) (A : Around) (R : Result → Shared → Prop) (s : Shared), K.In s.heap → s.heap.NoLimit → A.depth + 1 < recursionLimit →
    (∀ h' tk e d, MadeM s.heap h' e C d m → R (.ok (.ret (.ref e))) { s with heap := h', toks := tk }) → codeAny (model prog w) A (.call (.ref C) ⟨us, kw⟩) R s
theorem zip_rel : ∀ {ks : List Str} {vs : List V} {us : List Value}, Vals vs us → ∀ f : Str, RelO ((ks.zip vs).lookup f) ((ks.zip us).lookup f)
  | [], _, _, _, f => by simp [RelO]
  | _ :: _, _, _, .nil, f => by simp [RelO]
  | k :: ks, _, _, .cons r t, f => by
    rw [List.zip_cons_cons, List.zip_cons_cons, List.lookup_cons, List.lookup_cons]
    cases f == k with
    | true => exact r
    | false => exact zip_rel t f
section
variable {X : Cx} {pins : List (Addr × Obj)} {σ : L2.St} {H : Hp}
theorem laid_exc {hp h' : Heap} {g : Array GenState} {dr : Drawn} {tk tk' : Nat} {os : OsState} {e C d : Addr} {m : Str → Option Value} {fs : List (Str × V)}
    (I : L2.Inv X pins σ H ⟨hp, g, dr, tk, os⟩) (M : MadeM hp h' e C d m) (hr : ∀ f, RelO (fs.lookup f) (m f)) :
    H d = none ∧ H e = none ∧ L2.Inv X pins σ (upd (upd H d (.xd fs)) e (ExF C (some d) e)) ⟨h', g, dr, tk', os⟩ := by
  obtain ⟨oe, fv, hoe, hc, hd, hdat, h1⟩ := M.obj
  have hns := M.ns
  obtain ⟨G', g1, g2⟩ := restrict h' fun b => decide (b ≠ e)
  have gk : ∀ b, b ≠ e → G'.get? b = h'.get? b := fun b hb => g1 b (decide_eq_true hb)
  have ge : G'.get? e = none := g2 e (by simp)
  have old : ∀ b o, hp.get? b = some o → G'.get? b = some o := fun b o q => (gk b (Nat.ne_of_lt (Nat.lt_of_lt_of_le (Heap.lt_size q) M.new))).trans (M.keep b o q)
  have ob : ObjOk X.prog X.w (upd H d (.xd fs)) G' d (.xd fs) := ⟨m, hns.at (fun o q => (gk d M.ne).trans q), hr⟩
  have J : L2.Inv X pins σ (upd H d (.xd fs)) ⟨G', g, dr, tk', os⟩ := I.laid (t' := tk') old M.big ob
  have ne : upd H d (.xd fs) e = none := by
    rw [upd_ne (Ne.symm M.ne)]
    exact I.hok.fresh M.new
  have up : ∀ b o, G'.get? b = some o → h'.get? b = some o := fun b o q => by
    by_cases hb : b = e
    · rw [hb, ge] at q
      cases q
    · exact (gk b hb).symm.trans q
  exact ⟨I.hok.fresh M.big, I.hok.fresh M.new, J.laidN (s := ⟨G', g, dr, tk', os⟩) (t' := tk') up ge ne (exF_ok hoe ⟨hc, hd⟩ hdat)⟩
end
section
variable {X : Cx} {C fI : Addr} {x : Str} {k : Nat} {p pos : Pos} {e : Expr} {es : List Expr} {kws : List Keyword} {t tk : TA} {ks kks : List Str}
/-- C(e, ..) -/
def tMkP (C : Addr) (ks : List Str) (t : TA) : TE := fun σ H Q => t σ H fun vs H1 => vs.length = ks.length ∧ ∀ e d, H1 d = none → H1 e = none → d ≠ e → Q (.ref e) (upd (upd H1 d (.xd (ks.zip vs))) e (ExF C (some d) e))
theorem pe_mkP (T : ErrC X.K X.mg x C fI) (hr : Room k X.A) (M : ∀ us : List Value, us.length = ks.length → Makes X.K C us [] fun y => (ks.zip us).lookup y) (ha : PA X (e :: es) t) (hg : Gl X x := by rfl)
    (hdb : (x == ("__debug__" : Str)) = false := by decide) (he : starEach (e :: es) X.env = (false, eval e X.env) :: starEach es X.env := by rfl) (hpl : (backTo pos (starEach es X.env)).any (·.1) = false := by rfl) :
    PE X (.Call (.Name x p) (e :: es) [] pos) (tMkP C ks t) := by
  refine ⟨fun pins s σ H Q I h => ?_⟩
  refine wpAny_Call_Name_kw (ld_glob I hg T.gC ?_ hdb)
  refine PySem.W.callWith_K (h₀ := X.base) I.ok.mod.kin T.kC (thn (ha.run pos pins s σ H _ I h) fun us s1 hh => ?_) he hpl
  obtain ⟨vs, H1, I1, r1, hl, q1⟩ := hh
  refine ⟨I1.kIn, ?_⟩
  have hlim := I1.nolimit
  obtain ⟨hp, g, dr, tk, os⟩ := s1
  have hus : us.length = ks.length := r1.length.symm.trans hl
  show wpAny _ _ (call (.ref C) us) _ _ _
  refine wpAny_call (M us hus X.prog X.w _ _ _ I1.kIn hlim (by have := hr.dp; omega) (fun h' tk' e d MM => ?_))
  obtain ⟨n1, n2, J⟩ := laid_exc (tk' := tk') I1 MM (zip_rel r1)
  exact ⟨.ref e, _, J, rfl, q1 e d n1 n2 MM.ne⟩
/-- C(k = e, ..): the fields' values by g -/
def tMkK (C : Addr) (ks : List Str) (n : Nat) (g : {α : Type} → List α → List α) (tk : TA) : TE := fun σ H Q => tk σ H fun zs H1 => zs.length = n ∧ ∀ e d, H1 d = none → H1 e = none → d ≠ e → Q (.ref e) (upd (upd H1 d (.xd (ks.zip (g zs)))) e (ExF C (some d) e))
theorem pe_mkK {g : {α : Type} → List α → List α} (T : ErrC X.K X.mg x C fI) (hr : Room k X.A) (hg2 : ∀ {vs : List V} {us : List Value}, Vals vs us → Vals (g vs) (g us))
    (M : ∀ ws : List Value, ws.length = kks.length → Makes X.K C [] (kks.zip ws) fun y => (ks.zip (g ws)).lookup y) (hkw : PK X kws tk) (hg : Gl X x := by rfl)
    (hall : (backToKw pos (keywordEach kws X.env)).all (·.1.isSome) = true := by rfl) (hks : (backToKw pos (keywordEach kws X.env)).filterMap (·.1) = kks := by rfl)
    (hdb : (x == ("__debug__" : Str)) = false := by decide)
    (hpl : ((backTo pos (starEach [] X.env)).any (·.1) || (backToKw pos (keywordEach kws X.env)).any (·.1.isNone)) = false := by rfl) :
    PE X (.Call (.Name x p) [] kws pos) (tMkK C ks kks.length g tk) := by
  refine ⟨fun pins s σ H Q I h => ?_⟩
  refine wpAny_Call_Name_kw (ld_glob I hg T.gC ?_ hdb)
  refine PySem.W.callWith_KW0 (h₀ := X.base) I.ok.mod.kin T.kC hall ?_ hpl
  refine thn (hkw.run pos pins s σ H _ I h) fun ws s2 ⟨zs, H2, I2, rz, hl, q2⟩ => ⟨I2.kIn, ?_⟩
  rw [hks]
  have hlim := I2.nolimit
  have hws : ws.length = kks.length := rz.length.symm.trans hl
  obtain ⟨hp, gg, dr, tk, os⟩ := s2
  refine wpAny_call (M ws hws X.prog X.w _ _ _ I2.kIn hlim (by have := hr.dp; omega) (fun h' tk' e d MM => ?_))
  obtain ⟨n1, n2, J⟩ := laid_exc (tk' := tk') I2 MM (zip_rel (hg2 rz))
  exact ⟨.ref e, _, J, rfl, q2 e d n1 n2 MM.ne⟩
end
end Mq

namespace Mq
open PySem PySem.Spec PyProof.Rows L2
/-! ### such a call behind raise -/
section
variable {X : Cx} {pins : List (Addr × Obj)} {σ : L2.St} {H : Hp}
theorem flown {hp h' : Heap} {g : Array GenState} {dr : Drawn} {tk tk' : Nat} {os : OsState} {e C d : Addr} {m : Str → Option Value} {fs : List (Str × V)} {Q : XK}
    (I : L2.Inv X pins σ H ⟨hp, g, dr, tk, os⟩) (M : MadeM hp h' e C d m) (hr : ∀ f, RelO (fs.lookup f) (m f)) (rs : Raises X (.ref C)) (q : Q (.ref C) (some d) (upd H d (.xd fs))) (hd : H d = none) :
    MkP X pins σ Q (.ref e) ⟨h', g, dr, tk', os⟩ := by
  obtain ⟨oe, fv, hoe, hc, hd', hdat, h1⟩ := M.obj
  have hns := M.ns
  obtain ⟨G', g1, g2⟩ := restrict h' fun b => decide (b ≠ e)
  have gk : ∀ b, b ≠ e → G'.get? b = h'.get? b := fun b hb => g1 b (decide_eq_true hb)
  have ge : G'.get? e = none := g2 e (by simp)
  have old : ∀ b o, hp.get? b = some o → G'.get? b = some o := fun b o q => (gk b (Nat.ne_of_lt (Nat.lt_of_lt_of_le (Heap.lt_size q) M.new))).trans (M.keep b o q)
  have ob : ObjOk X.prog X.w (upd H d (.xd fs)) G' d (.xd fs) := ⟨m, hns.at (fun o q => (gk d M.ne).trans q), hr⟩
  have J : L2.Inv X pins σ (upd H d (.xd fs)) ⟨G', g, dr, tk', os⟩ := I.laid (t' := tk') old M.big ob
  refine ⟨e, oe, fv, ⟨G', g, dr, tk', os⟩, _, .ref C, some d, rfl, J, (fun b o q => ?_), ge, hoe, ⟨hc, hd'⟩, hdat, h1, ?_, rfl, I.bare, rs, q⟩
  · by_cases hb : b = e
    · have q' : G'.get? b = some o := q
      rw [hb, ge] at q'
      cases q'
    · exact (gk b hb).symm.trans q
  · rw [upd_ne (Ne.symm M.ne)]
    exact I.hok.fresh M.new
end
section
variable {X : Cx} {C fI : Addr} {x : Str} {k : Nat} {p pos : Pos} {e : Expr} {es : List Expr} {kws : List Keyword} {t tk : TA} {ks kks : List Str}
def tFlP (C : Addr) (ks : List Str) (t : TA) : L2.St → Hp → XK → Prop := fun σ H Q => t σ H fun vs H1 => vs.length = ks.length ∧ ∀ d, H1 d = none → Q (.ref C) (some d) (upd H1 d (.xd (ks.zip vs)))
theorem pmkP (T : ErrC X.K X.mg x C fI) (hr : Room k X.A) (M : ∀ us : List Value, us.length = ks.length → Makes X.K C us [] fun y => (ks.zip us).lookup y) (ha : PA X (e :: es) t) (hg : Gl X x := by rfl)
    (hdb : (x == ("__debug__" : Str)) = false := by decide) (he : starEach (e :: es) X.env = (false, eval e X.env) :: starEach es X.env := by rfl) (hpl : (backTo pos (starEach es X.env)).any (·.1) = false := by rfl) :
    PMk X (.Call (.Name x p) (e :: es) [] pos) (tFlP C ks t) := by
  intro pins s σ H Q I h
  refine wpAny_Call_Name_kw (ld_glob I hg T.gC ?_ hdb)
  refine PySem.W.callWith_K (h₀ := X.base) I.ok.mod.kin T.kC (thn (ha.run pos pins s σ H _ I h) fun us s1 hh => ?_) he hpl
  obtain ⟨vs, H1, I1, r1, hl, q1⟩ := hh
  refine ⟨I1.kIn, ?_⟩
  have hlim := I1.nolimit
  obtain ⟨hp, g, dr, tk, os⟩ := s1
  have hus : us.length = ks.length := r1.length.symm.trans hl
  show wpAny _ _ (call (.ref C) us) _ _ _
  refine wpAny_call (M us hus X.prog X.w _ _ _ I1.kIn hlim (by have := hr.dp; omega) (fun h' tk' e d MM => ?_))
  exact flown I1 MM (zip_rel r1) (raises_own T.exC T.tyC) (q1 d (I1.hok.fresh MM.big)) (I1.hok.fresh MM.big)
def tFlK (C : Addr) (ks : List Str) (n : Nat) (g : {α : Type} → List α → List α) (tk : TA) : L2.St → Hp → XK → Prop := fun σ H Q => tk σ H fun zs H1 => zs.length = n ∧ ∀ d, H1 d = none → Q (.ref C) (some d) (upd H1 d (.xd (ks.zip (g zs))))
theorem pmkK {g : {α : Type} → List α → List α} (T : ErrC X.K X.mg x C fI) (hr : Room k X.A) (hg2 : ∀ {vs : List V} {us : List Value}, Vals vs us → Vals (g vs) (g us))
    (M : ∀ ws : List Value, ws.length = kks.length → Makes X.K C [] (kks.zip ws) fun y => (ks.zip (g ws)).lookup y) (hkw : PK X kws tk) (hg : Gl X x := by rfl)
    (hall : (backToKw pos (keywordEach kws X.env)).all (·.1.isSome) = true := by rfl) (hks : (backToKw pos (keywordEach kws X.env)).filterMap (·.1) = kks := by rfl)
    (hdb : (x == ("__debug__" : Str)) = false := by decide)
    (hpl : ((backTo pos (starEach [] X.env)).any (·.1) || (backToKw pos (keywordEach kws X.env)).any (·.1.isNone)) = false := by rfl) :
    PMk X (.Call (.Name x p) [] kws pos) (tFlK C ks kks.length g tk) := by
  intro pins s σ H Q I h
  refine wpAny_Call_Name_kw (ld_glob I hg T.gC ?_ hdb)
  refine PySem.W.callWith_KW0 (h₀ := X.base) I.ok.mod.kin T.kC hall ?_ hpl
  refine thn (hkw.run pos pins s σ H _ I h) fun ws s2 ⟨zs, H2, I2, rz, hl, q2⟩ => ⟨I2.kIn, ?_⟩
  rw [hks]
  have hlim := I2.nolimit
  have hws : ws.length = kks.length := rz.length.symm.trans hl
  obtain ⟨hp, gg, dr, tk, os⟩ := s2
  refine wpAny_call (M ws hws X.prog X.w _ _ _ I2.kIn hlim (by have := hr.dp; omega) (fun h' tk' e d MM => ?_))
  exact flown I2 MM (zip_rel (hg2 rz)) (raises_own T.exC T.tyC) (q2 d (I2.hok.fresh MM.big)) (I2.hok.fresh MM.big)
end
end Mq

namespace Mq
open PySem PySem.Spec PyProof.Rows L2
section
variable {X : Cx} {pins : List (Addr × Obj)} {σ : L2.St} {H : Hp} {s : Shared}
/-- repr where an error is held: only the room below counts -/
theorem call_repU' (hu : X.A.units + 200 < cLine) (gA : Still X.A) : CallR X (.builtin "repr") (rRep X.K) := by
  intro pins s σ H xs us Q I r h
  obtain ⟨v, d, rfl, hd, hs, hz, hl, q⟩ := h
  cases r with
  | cons rx rr =>
    cases rr
    obtain ⟨as, rd, hn⟩ := Dg.rd I hd rx
    have leaf : ∀ {d : PyData} {t : Tok}, Q (.str d.shown) H → EP X pins σ Q (.str d.shown t) { s with toks := s.toks + 1 } :=
      fun {d t} q => ⟨.str d.shown, H, I.tok _, ⟨_, rfl⟩, q⟩
    cases hd with
    | non =>
      cases rx
      exact PySem.P.repr_of_none (leaf (d := .none) q)
    | bl b =>
      cases rx
      exact PySem.P.repr_of_bool (leaf (d := .bool b) q)
    | int i =>
      obtain ⟨t, rfl⟩ := rx
      exact PySem.P.repr_of_int (by simpa [PyData.showable] using hs) (leaf (d := .int i) q)
    | str x =>
      obtain ⟨t, rfl⟩ := rx
      refine PySem.P.repr_of_str (leaf (d := .str x) q) ?_
      simpa only [PyData.shown] using hl
    | lst ne h1 h2 =>
      cases rx
      exact repr_of_reads' rd hs (fun _ => hn) gA (by omega) (fun _ _ e => e) (fun h' u tk k => ⟨.str _, H, I.kept k, ⟨_, rfl⟩, q⟩) hl
    | tup h1 h2 =>
      cases rx
      exact repr_of_reads' rd hs (fun _ => hn) gA (by omega) (fun _ _ e => e) (fun h' u tk k => ⟨.str _, H, I.kept k, ⟨_, rfl⟩, q⟩) hl
    | dct h1 h2 =>
      cases rx
      exact repr_of_reads' rd hs (fun _ => hn) gA (by omega) (fun _ _ e => e) (fun h' u tk k => ⟨.str _, H, I.kept k, ⟨_, rfl⟩, q⟩) hl
/-- the same, the written part named -/
theorem call_repU {K0 : PySem.W.Frag} (hK : X.K = K0) (hu : X.A.units + 200 < cLine) (gA : Still X.A) : CallR X (.builtin "repr") (rRep K0) := hK ▸ call_repU' hu gA
theorem pe_bmK {K0 : PySem.W.Frag} {e : Expr} {T : String} {r : V → List V → Hp → VK → Prop} {to : TE} {t : TA} (hK : X.K = K0) (h : PE X e (tBM X.K T r to t)) : PE X e (tBM K0 T r to t) := hK ▸ h
end
end Mq

namespace Mq
open PySem PySem.Spec PyProof.Rows L2
/-! ### own objects: a field as a target among others; len and == by methods of their own -/
def gFld (K : PySem.W.Frag) (ta : TE) (f : Str) : TG := fun v σ H Q => ta σ H fun x H1 => ∃ a C dx fs, x = .ref a ∧ H1 a = some (.ins C dx fs) ∧ Cls K C ∧ NoAttr K C f ∧ fs.length < 1000 ∧ Q σ (upd H1 a (.ins C dx (putF f v fs)))
theorem pg_fld {X : Cx} {o : Expr} {f : Str} {pos : Pos} {ta : TE} (ho : PE X o ta) : PG X (.Attribute o f pos) (gFld X.K ta f) := by
  refine ⟨fun pins s σ H v u Q I r h => PySem.W.kas_attr (thn (ho.run pins s σ H _ I h) ?_)⟩
  rintro ov s1 ⟨x, H1, I1, rx, a, C, dx, fs, rfl, ea, c, n, hl, q⟩
  cases rx
  exact setattr_ok I1 ea c n hl r fun s' I2 => ⟨σ, _, I2, q⟩
section
variable {X : Cx} {pins : List (Addr × Obj)} {σ : L2.St} {H : Hp} {s : Shared} {a C dx : Addr} {fs : List (Str × V)}
theorem inst_of (I : L2.Inv X pins σ H s) (ea : H a = some (.ins C dx fs)) : ∃ o, PySem.W.InstAt s.heap a (PySem.W.instObj C dx) C (some o) := by
  have o := I.hok a _ ea
  unfold ObjOk at o
  obtain ⟨_, _, _, hget, mA, ⟨od, es, ep, ho, _⟩, _⟩ := o
  exact ⟨od, hget, rfl, rfl, ho⟩
end
/-- len(o) by the class's own def -/
def rLenO (C : Addr) (sp : Sp) (E : XK) : List V → Hp → VK → Prop := fun xs H Q => ∃ a dx fs, xs = [.ref a] ∧ H a = some (.ins C dx fs) ∧ sp [.ref a] H (fun v H' => ∃ n : Nat, v = .int (n : Nat) ∧ n ≤ 1000000 ∧ Q (.int (n : Nat)) H') E
theorem call_lenO {X : Cx} {CX : CXT} {k : Nat} {f C : Addr} {fd : FuncData} {ps : List Str} {sp : Sp} {E : XK} (hm : Meth X.K C "__len__" f)
    (F : FnOk X.prog X.w X.K X.mg X.base CX k f fd ps sp) (hr : Room (k + 1) X.A) (hb : Binds X.K fd ps []) (hx : Passes CX X E) : CallR X (.builtin "len") (rLenO C sp E) := by
  intro pins s σ H xs us Q I r h
  obtain ⟨a, dx, fs, rfl, ea, q⟩ := h
  cases r with
  | cons rx rr =>
    cases rr
    cases rx
    obtain ⟨o, J⟩ := inst_of I ea
    obtain ⟨m, fr⟩ := I.fr
    refine PySem.W.len_K fr I.ok.mod.kin J hm.at_ hm.fn ?_
    have rv : Vals [V.ref a] [Value.ref a] := .cons rfl .nil
    have hl : [Value.ref a].length = ps.length := F.len _ _ _ _ q
    have b := hb s [.ref a] I.kIn (by rw [List.append_nil]; exact hl)
    rw [List.append_nil] at b
    refine wpAny_call (codeAny_mono (F.run X.A.in1 X.stack s H ⟨[.ref a], []⟩ [.ref a] [.ref a] _ E hr.in1 I.env0.in1 b rv q) (fun r s' hq => ?_))
    match r, hq with
    | .error er, hq => exact hx pins σ H s er s' I hq
    | .ok (.ret u), hq =>
      obtain ⟨v, H', I', rv', n, rfl, hn, q'⟩ := I.after hq
      obtain ⟨t, rfl⟩ := rv'
      refine ⟨⟨by omega, by omega⟩, .int (n : Nat), H', ?_, ⟨_, rfl⟩, q'⟩
      exact I'.kept (h' := s'.heap) (t' := s'.toks + 1) (fun _ _ z => z)
    | .ok .next, hq => exact hq.elim
    | .ok .brk, hq => exact hq.elim
    | .ok .cont, hq => exact hq.elim
/-- o == p, both of one class, by the class's own def -/
def rEqO (K : PySem.W.Frag) (C : Addr) (sp : Sp) (E : XK) : R2 := fun x y H Q => ∃ a b dx dy fs gs, x = .ref a ∧ y = .ref b ∧ H a = some (.ins C dx fs) ∧ H b = some (.ins C dy gs) ∧ sp [.ref a, .ref b] H (fun v H' => ∃ r : Bool, v = .bl r ∧ Q (.bl r) H') E
theorem op_eqO {X : Cx} {CX : CXT} {k : Nat} {f C : Addr} {fd : FuncData} {ps : List Str} {sp : Sp} {E : XK} (hm : Meth X.K C "__eq__" f)
    (F : FnOk X.prog X.w X.K X.mg X.base CX k f fd ps sp) (hr : Room k X.A) (hb : Binds X.K fd ps []) (hx : Passes CX X E) : OpR X (compareOp .Eq) (rEqO X.K C sp E) := by
  intro pins s σ H x y v u Q I rx ry h
  obtain ⟨a, b, dx, dy, fs, gs, rfl, rfl, ea, eb, q⟩ := h
  cases rx
  cases ry
  obtain ⟨o, J⟩ := inst_of I ea
  obtain ⟨o2, J2⟩ := inst_of I eb
  obtain ⟨m, fr⟩ := I.fr
  refine PySem.W.cmp_ofEq (PySem.W.cmp_K (tb := .ref C) (by have := hr.un; omega) fr I.ok.mod.kin J ?_ ?_ hm.at_ hm.fn ?_)
  · exact J2.type
  · show (_ || _) = true
    rw [show ((Value.ref C == Value.ref C) = true) by simp]
    rfl
  · have rv : Vals [V.ref a, V.ref b] [Value.ref a, Value.ref b] := .cons rfl (.cons rfl .nil)
    have hl : [Value.ref a, Value.ref b].length = ps.length := F.len _ _ _ _ q
    have bd := hb s [.ref a, .ref b] I.kIn (by rw [List.append_nil]; exact hl)
    rw [List.append_nil] at bd
    refine wpAny_call (codeAny_mono (F.run X.A X.stack s H ⟨[.ref a, .ref b], []⟩ [.ref a, .ref b] [.ref a, .ref b] _ E hr I.env0 bd rv q) (fun r s' hq => ?_))
    match r, hq with
    | .error er, hq => exact hx pins σ H s er s' I hq
    | .ok (.ret u), hq =>
      obtain ⟨v, H', I', rv', r, rfl, q'⟩ := I.after hq
      cases rv'
      exact ⟨.bl r, H', I', rfl, q'⟩
    | .ok .next, hq => exact hq.elim
    | .ok .brk, hq => exact hq.elim
    | .ok .cont, hq => exact hq.elim
end Mq

namespace Mq
open PySem PySem.Spec PyProof.Rows L2
/-! ### f(k = v, ..), all by keyword -/
theorem vals_rev : ∀ {vs : List V} {us : List Value}, Vals vs us → Vals vs.reverse us.reverse
  | _, _, .nil => .nil
  | _, _, .cons r h => by
    rw [List.reverse_cons, List.reverse_cons]
    exact (vals_rev h).append (.cons r .nil)
def rev0 {α : Type} (_ ws : List α) : List α := ws.reverse
section
variable {X : Cx} {CX : CXT} {k : Nat} {f : Addr} {fd : FuncData} {ps ks : List Str} {sp : Sp}
  {E : L2.St → XK} {x : Str} {p pos : Pos} {kws : List Keyword} {tk : TA}
  {g : List Value → List Value → List Value} {gV : List V → List V → List V}
def tCallK0 (m : Nat) (sp : Sp) (gV : List V → List V → List V) (E : L2.St → XK) (tk : TA) : TE := fun σ H Q => tk σ H fun zs H2 => zs.length = m ∧ sp (gV [] zs) H2 Q (E σ)
theorem pe_callK0 (F : FnOk X.prog X.w X.K X.mg X.base CX k f fd ps sp) (hr : Room k X.A) (hg : Gl X x) (hm : X.mg x = some (.ref f)) (hk : PySem.W.keepIn X.K (.ref f) = true) (hb : KBn X.K fd ps 0 ks g gV)
    (hx : ∀ σ, PassesAt CX X σ (E σ)) (hkw : PK X kws tk)
    (hall : (backToKw pos (keywordEach kws X.env)).all (·.1.isSome) = true := by rfl)
    (hks : (backToKw pos (keywordEach kws X.env)).filterMap (·.1) = ks := by rfl)
    (hdb : (x == ("__debug__" : Str)) = false := by decide)
    (hpl : ((backTo pos (starEach [] X.env)).any (·.1) || (backToKw pos (keywordEach kws X.env)).any (·.1.isNone)) = false := by rfl) :
    PE X (.Call (.Name x p) [] kws pos) (tCallK0 ks.length sp gV E tk) := by
  refine ⟨fun pins s σ H Q I h => ?_⟩
  refine wpAny_Call_Name_kw (ld_glob I hg hm ?_ hdb)
  refine PySem.W.callWith_KW0 (h₀ := X.base) I.ok.mod.kin hk hall ?_ hpl
  refine thn (hkw.run pos pins s σ H _ I h) fun ws s2 ⟨zs, H2, I2, rz, hl, q2⟩ => ⟨I2.kIn, ?_⟩
  rw [hks]
  have r2 := hb.rel (vs := []) (us := []) .nil rz
  have lw : ws.length = ks.length := rz.length.symm.trans hl
  refine wpAny_call (codeAny_mono (F.run X.A X.stack s2 H2 ⟨[], ks.zip ws⟩ (g [] ws) (gV [] zs) Q (E σ) hr I2.env0
    (hb.to s2 [] ws I2.kIn rfl lw) r2 q2) (fun r s' hq => ?_))
  match r, hq with
  | .error er, hq => exact hx σ pins H2 s2 er s' I2 hq
  | .ok (.ret u), hq => exact I2.after hq
  | .ok .next, hq => exact hq.elim
  | .ok .brk, hq => exact hq.elim
  | .ok .cont, hq => exact hq.elim
end
theorem kbn_rev2 {K : PySem.W.Frag} {x qual : Str} {st : Stmt} {f : Addr} {fd : FuncData} {p1 p2 : Str} (F : Fun K x qual st f fd)
    (h : ∀ (kV doc pm : Value) (an : Option Addr) (cdv ct : Value) (a b : Value), bindArgs (PySem.W.fnOf x qual (defArgs st) (defBody st) (defScope st) .none kV doc pm an cdv ct) ⟨[], [(p2, a), (p1, b)]⟩ = pure [(p1, b), (p2, a)]) :
    KBn K fd [p1, p2] 0 [p2, p1] rev0 rev0 := by
  obtain ⟨oc, od, kV, doc, pm, an, cdv, ct, osl, rfl, lk, hcd⟩ := F.ex
  refine ⟨fun s us ws _ h1 h2 => ?_, fun a b => vals_rev b⟩
  match us, ws, h1, h2 with
  | [], [a, b], _, _ => exact .of_eq (h kV doc pm an cdv ct a b)
theorem kbn_rev3 {K : PySem.W.Frag} {x qual : Str} {st : Stmt} {f : Addr} {fd : FuncData} {p1 p2 p3 : Str} (F : Fun K x qual st f fd)
    (h : ∀ (kV doc pm : Value) (an : Option Addr) (cdv ct : Value) (a b c : Value), bindArgs (PySem.W.fnOf x qual (defArgs st) (defBody st) (defScope st) .none kV doc pm an cdv ct) ⟨[], [(p3, a), (p2, b), (p1, c)]⟩ = pure [(p1, c), (p2, b), (p3, a)]) :
    KBn K fd [p1, p2, p3] 0 [p3, p2, p1] rev0 rev0 := by
  obtain ⟨oc, od, kV, doc, pm, an, cdv, ct, osl, rfl, lk, hcd⟩ := F.ex
  refine ⟨fun s us ws _ h1 h2 => ?_, fun a b => vals_rev b⟩
  match us, ws, h1, h2 with
  | [], [a, b, c], _, _ => exact .of_eq (h kV doc pm an cdv ct a b c)
end Mq

namespace Mq
open PySem PySem.Spec PyProof.Rows L2
/-! ### an own object made within a try -/
section
variable {X : Cx} {CX : CXT} {k n : Nat} {f C : Addr} {fd : FuncData} {ps ks : List Str} {sp : Sp} {E : XK} {ES : L2.St → XK}
  {g : List Value → List Value → List Value} {gV : List V → List V → List V} {pins : List (Addr × Obj)} {σ : L2.St} {H : Hp} {s : Shared} {Q : VK} {us ws : List Value} {vs zs : List V}
  {x : Str} {p pos : Pos} {kws : List Keyword} {tk t : TA} {e : Expr} {es : List Expr}
theorem run_makeS (M : Mk X.K C f) (F : FnOk X.prog X.w X.K X.mg X.base CX k f fd ps sp) (hr : Room (k + 1) X.A) (hb : KBn X.K fd ps (n + 1) ks g gV) (hx : PassesAt CX X σ E)
    (I : Inv X pins σ H s) (ru : Vals vs us) (rz : Vals zs ws) (hn : vs.length = n) (hm : zs.length = ks.length)
    (h : ∀ x dx, H x = none → H dx = none → dx ≠ x → sp (gV (.ref x :: vs) zs) (upd (upd H dx (.own x)) x (.ins C dx [])) (fun v H2 => v = .non ∧ Q (.ref x) H2) E) :
    wpAny (model X.prog X.w) X.A (call (.ref C) us (ks.zip ws)) (EP X pins σ Q) X.xe s := by
  have I1 := I.made (C := C)
  have lt : ∀ {b : Addr} {o : HO}, H b = some o → b < s.heap.objs.size := fun {b o} e => I.hok.lt e
  have n0 : H s.heap.objs.size = none := by
    cases e : H s.heap.objs.size with
    | none => rfl
    | some o => exact absurd (lt e) (Nat.lt_irrefl _)
  have n1 : H (s.heap.objs.size + 1) = none := by
    cases e : H (s.heap.objs.size + 1) with
    | none => rfl
    | some o => exact absurd (Nat.lt_trans (Nat.lt_succ_self _) (lt e)) (Nat.lt_irrefl _)
  refine wpAny_call (Att.make_obj I.kIn M.makes M.init M.fn ?_)
  refine codeAny_mono (F.run _ X.stack _ _ ⟨.ref (s.heap.objs.size + 1) :: us, ks.zip ws⟩ (g (.ref (s.heap.objs.size + 1) :: us) ws) (gV (.ref (s.heap.objs.size + 1) :: vs) zs) _ E (hr.make _ _ _) (I1.env0.make _ _ _)
    (hb.to _ (.ref (s.heap.objs.size + 1) :: us) ws I1.kIn (by rw [List.length_cons, ← ru.length, hn]) (rz.length.symm.trans hm)) (hb.rel (.cons rfl ru) rz) (h _ _ n1 n0 (Nat.ne_of_lt (Nat.lt_succ_self _)))) (fun r s' hq => ?_)
  match r, hq with
  | .error er, hq => exact hx pins _ _ er s' I1 hq
  | .ok (.ret u), hq =>
    obtain ⟨v, H', I', rv', rfl, q'⟩ := I1.after hq
    cases rv'
    exact ⟨rfl, .ref _, H', I', rfl, q'⟩
  | .ok .next, hq => exact hq.elim
  | .ok .brk, hq => exact hq.elim
  | .ok .cont, hq => exact hq.elim
def tMakeS (C : Addr) (m : Nat) (sp : Sp) (gV : List V → List V → List V) (ES : L2.St → XK) (tk : TA) : TE := fun σ H Q => tk σ H fun zs H2 => zs.length = m ∧ ∀ x dx, H2 x = none → H2 dx = none → dx ≠ x → sp (gV [.ref x] zs) (upd (upd H2 dx (.own x)) x (.ins C dx [])) (fun v H3 => v = .non ∧ Q (.ref x) H3) (ES σ)
/-- x(k = v, ..), what is raised being wished for at the slots as they stand -/
theorem pe_makeKS (M : Mk X.K C f) (F : FnOk X.prog X.w X.K X.mg X.base CX k f fd ps sp) (hr : Room (k + 1) X.A) (hg : Gl X x) (hm : X.mg x = some (.ref C)) (hb : KBn X.K fd ps 1 ks g gV)
    (hx : ∀ σ, PassesAt CX X σ (ES σ)) (hkw : PK X kws tk)
    (hall : (backToKw pos (keywordEach kws X.env)).all (·.1.isSome) = true := by rfl)
    (hks : (backToKw pos (keywordEach kws X.env)).filterMap (·.1) = ks := by rfl)
    (hdb : (x == ("__debug__" : Str)) = false := by decide)
    (hpl : ((backTo pos (starEach [] X.env)).any (·.1) || (backToKw pos (keywordEach kws X.env)).any (·.1.isNone)) = false := by rfl) :
    PE X (.Call (.Name x p) [] kws pos) (tMakeS C ks.length sp gV ES tk) := by
  refine ⟨fun pins s σ H Q I h => ?_⟩
  refine wpAny_Call_Name_kw (ld_glob I hg hm ?_ hdb)
  refine PySem.W.callWith_KW0 (h₀ := X.base) I.ok.mod.kin M.kp hall ?_ hpl
  refine thn (hkw.run pos pins s σ H _ I h) fun ws s2 ⟨zs, H2, I2, rz, hl, q2⟩ => ⟨I2.kIn, ?_⟩
  rw [hks]
  exact run_makeS (n := 0) (vs := []) (us := []) M F hr hb (hx σ) I2 .nil rz rfl hl q2
def tMakeP (C : Addr) (m : Nat) (sp : Sp) (ES : L2.St → XK) (t : TA) : TE := fun σ H Q => t σ H fun vs H2 => vs.length = m ∧ ∀ x dx, H2 x = none → H2 dx = none → dx ≠ x → sp (.ref x :: vs) (upd (upd H2 dx (.own x)) x (.ins C dx [])) (fun v H3 => v = .non ∧ Q (.ref x) H3) (ES σ)
/-- x(e, ..), so too -/
theorem pe_makeS {m : Nat} (M : Mk X.K C f) (F : FnOk X.prog X.w X.K X.mg X.base CX k f fd ps sp) (hr : Room (k + 1) X.A) (hg : Gl X x) (hm : X.mg x = some (.ref C)) (hb : Binds X.K fd ps []) (hps : ps.length = m + 1)
    (hx : ∀ σ, PassesAt CX X σ (ES σ)) (ha : PA X (e :: es) t) (hdb : (x == ("__debug__" : Str)) = false := by decide)
    (he : starEach (e :: es) X.env = (false, eval e X.env) :: starEach es X.env := by rfl) (hpl : (backTo pos (starEach es X.env)).any (·.1) = false := by rfl) :
    PE X (.Call (.Name x p) (e :: es) [] pos) (tMakeP C m sp ES t) := by
  refine ⟨fun pins s σ H Q I h => ?_⟩
  refine wpAny_Call_Name_kw (ld_glob I hg hm ?_ hdb)
  refine PySem.W.callWith_K (h₀ := X.base) I.ok.mod.kin M.kp (thn (ha.run pos pins s σ H _ I h) fun us s1 ⟨vs, H1, I1, r, hl, q⟩ => ⟨I1.kIn, ?_⟩) he hpl
  have kb : KBn X.K fd ps (m + 1) [] (fun us _ => us) (fun vs _ => vs) := by
    refine ⟨fun s us ws kin h1 h2 => ?_, fun a _ => a⟩
    have b := hb s us kin (by rw [List.append_nil, hps, h1])
    rw [List.append_nil] at b
    exact b
  exact run_makeS (n := m) (zs := []) (ws := []) (ks := []) M F hr kb (hx σ) I1 r .nil hl rfl q
end
end Mq

namespace Mq
open PySem PySem.Spec PyProof.Rows L2
/-! ### data that stays is what it is -/
mutual
theorem eqv_td {K : PySem.W.Frag} {H : Hp} : ∀ {v : V} {d : PyData}, Td K H v d → PyData.eqv d d = true
  | _, _, .int i => by simp [PyData.eqv]
  | _, _, .str x => by simp [PyData.eqv]
  | _, _, .tup _ a => by
    simp only [PyData.eqv]
    exact eqv_tds a
theorem eqv_tds {K : PySem.W.Frag} {H : Hp} : ∀ {vs : List V} {ds : List PyData}, TdAll K H vs ds → PyData.eqvAll ds ds = true
  | _, _, .nil => by simp [PyData.eqvAll]
  | _, _, .cons a b => by
    simp only [PyData.eqvAll]
    rw [eqv_td a, eqv_tds b]
    rfl
end
theorem shaped_gd {w n : Nat} {d : PyData} (h : Gd w n d) (hn : n ≤ 64) : SeqAt.shaped d = true := by
  unfold SeqAt.shaped
  rw [h.cl, decide_eq_true (Nat.le_trans h.de hn)]
  rfl
end Mq

namespace Lw
open PySem PySem.Spec PyProof.Rows L2 Mq
open SX (S)
/-! ### places; books that are one -/
/-- a value of a known kind that is neither a whole number nor a bool -/
def NoInt (K : PySem.W.Frag) (H : Hp) (v : V) : Prop := ∃ a, TyX K H v (.type a) ∧ a ∈ ["NoneType", "bool", "int", "str", "list", "tuple", "dict"] ∧ a ≠ "int" ∧ a ≠ "bool"
theorem kit_noI {K : PySem.W.Frag} {a : String} (m : a ∈ ["NoneType", "bool", "int", "str", "list", "tuple", "dict"]) (n : a ≠ "int") (b : a ≠ "bool") : PySem.W.kitOne K (.type a) (.type "int") = some false := by
  simp only [List.mem_cons, List.not_mem_nil, or_false] at m
  rcases m with rfl | rfl | rfl | rfl | rfl | rfl | rfl
  · exact kit_ty (by decide +kernel)
  · exact (b rfl).elim
  · exact (n rfl).elim
  · exact kit_ty (by decide +kernel)
  · exact kit_ty (by decide +kernel)
  · exact kit_ty (by decide +kernel)
  · exact kit_ty (by decide +kernel)
def BlOr (K : PySem.W.Frag) (H : Hp) (v : V) : Prop := (∃ b, v = .bl b) ∨ NoInt K H v
def spNum (K : PySem.W.Frag) : Sp := fun vs H Q _ => ∃ v, vs = [v] ∧ ((∃ i : Int, v = .int i ∧ Q (.bl true) H) ∨ (BlOr K H v ∧ Q (.bl false) H))
def spBelow (K : PySem.W.Frag) : Sp := fun vs H Q _ => ∃ v m, vs = [v, .int m] ∧ ((∃ i : Int, v = .int i ∧ Q (.bl (decide (0 ≤ i) && decide (i < m))) H) ∨ (BlOr K H v ∧ Q (.bl false) H))
/-- a value that is no place between least and len -/
def PlBad (K : PySem.W.Frag) (H : Hp) (v : V) (least len : Nat) : Prop := (∃ i : Int, v = .int i ∧ ¬ ((least : Nat) ≤ i ∧ i ≤ (len : Nat))) ∨ BlOr K H v
def PlBadS (K : PySem.W.Frag) (H : Hp) (v : V) (least len : Nat) : Prop := ∀ H', Same H H' → PlBad K H' v least len
theorem PlBadS.same {K : PySem.W.Frag} {H H' : Hp} {v : V} {l n : Nat} (h : PlBadS K H v l n) (e : Same H H') : PlBadS K H' v l n := fun H2 s => h H2 (e.trans s)
section
variable {P : Program} {w : World} {K : PySem.W.Frag} {mg : Str → Option Value} {base : Heap} {C : Addr}
theorem ok_is_number {f : Addr} {fd : FuncData} (F : Fun K "is_number" "is_number" s_is_number f fd) (B : Blt mg) : FnOk P w K mg base CX0 1 f fd ["thing"] (spNum K) := by
  refine F.ok sc_is_number (fun vs H Q E h => ?_) (fun cdv A outer s H vs Q E hr h => ?_)
  · obtain ⟨v, rfl, _⟩ := h
    rfl
  · obtain ⟨v, rfl, h⟩ := h
    refine ⟨_, pss_one (ps_ret (pe_and (pe_callB call_isi (by rfl) B.isi (by decide +kernel) (pa_cons (pv 0) (pa_cons (pe_bltn (v := .ty "int") (by rfl) B.int (by decide +kernel) rfl) pa_nil))) (pe_one (pe_not (pe_callB call_isi (by rfl) B.isi (by decide +kernel) (pa_cons (pv 0) (pa_cons (pe_bltn (v := .ty "bool") (by rfl) B.bool (by decide +kernel) rfl) pa_nil))))))), ?_⟩
    rcases h with ⟨i, rfl, q⟩ | ⟨⟨b, rfl⟩ | ⟨a, t, m, n1, n2⟩, q⟩
    · exact ⟨.int i, rfl, .int i, .ty "int", _, _, true, rfl, .ty _, .base (.int _), kit_ty (by decide +kernel), true, rfl, iteT ⟨.int i, rfl, .int i, .ty "bool", _, _, false, rfl, .ty _, .base (.int _), kit_ty (by decide +kernel), false, rfl, q⟩⟩
    · exact ⟨.bl b, rfl, .bl b, .ty "int", _, _, true, rfl, .ty _, .base (.bl _), kit_ty (by decide +kernel), true, rfl, iteT ⟨.bl b, rfl, .bl b, .ty "bool", _, _, true, rfl, .ty _, .base (.bl _), kit_ty (by decide +kernel), true, rfl, q⟩⟩
    · exact ⟨v, rfl, v, .ty "int", .type a, _, false, rfl, .ty _, t, kit_noI m n1 n2, false, rfl, iteF q⟩
theorem ok_is_below {f fN : Addr} {fd fdN : FuncData} (F : Fun K "is_below" "is_below" s_is_below f fd)
    (FN : Fun K "is_number" "is_number" s_is_number fN fdN) (gN : mg "is_number" = some (.ref fN)) (bN : Binds K fdN ["thing"] []) (GN : FnOk P w K mg base CX0 1 fN fdN ["thing"] (spNum K)) : FnOk P w K mg base CX0 2 f fd ["thing", "many"] (spBelow K) := by
  refine F.ok sc_is_below (fun vs H Q E h => ?_) (fun cdv A outer s H vs Q E hr h => ?_)
  · obtain ⟨v, m, rfl, _⟩ := h
    rfl
  · obtain ⟨v, m, rfl, h⟩ := h
    refine ⟨_, pss_one (ps_ret (pe_and (pe_call GN (hr.mono (by decide)) (by rfl) gN FN.kp bN .nil pass0 (pa_cons (pv 0) pa_nil)) (pe_one (pe_chain op_le op_lt pe_int (pv 0) (pv 1))))), ?_⟩
    rcases h with ⟨i, rfl, q⟩ | ⟨hb, q⟩
    · refine ⟨_, rfl, .int i, rfl, Or.inl ⟨i, rfl, true, rfl, iteT ⟨.int i, rfl, 0, i, rfl, rfl, _, rfl, ite2 (fun hc => ?_) (fun hc => ?_)⟩⟩⟩
      · rw [hc] at q
        exact ⟨_, rfl, i, m, rfl, rfl, q⟩
      · have e : decide ((0 : Int) ≤ i) = false := by
          cases h : decide ((0 : Int) ≤ i) with
          | false => rfl
          | true => exact (hc h).elim
        rw [e] at q
        exact q
    · exact ⟨_, rfl, v, rfl, Or.inr ⟨hb, false, rfl, iteF q⟩⟩
def fdD (f : Fd) : PyData := .tuple [.str (S [f.x]), .str (S [f.y]), .str (S f.z)]
theorem fds_td {K : PySem.W.Frag} {H : Hp} : ∀ {xs : List V} {fs : List Fd}, FdAll K H xs fs → TdAll K H xs (fs.map fdD)
  | _, _, .nil => .nil
  | _, _, .cons ⟨b, rfl, h⟩ r => .cons (.tup h (.cons (.str _) (.cons (.str _) (.cons (.str _) .nil)))) (fds_td r)
/-- the book at r with its folds laid at fa -/
def BkWh (K : PySem.W.Frag) (H : Hp) (C r : Addr) (sg : List Nat) (fs : List Fd) (fa ta : Addr) : Prop := BkAt H C r sg fs fa ta ∧ ∃ xs, SqT K H fa xs ∧ FdAll K H xs fs
def spSame (K : PySem.W.Frag) (C : Addr) : Sp := fun vs H Q _ => ∃ (r fa ta : Addr) (sg : List Nat) (fs : List Fd), vs = [.ref r, .ref r] ∧ BkWh K H C r sg fs fa ta ∧ FsOk sg fs ∧ SgOk sg ∧ Q (.bl true) H
structure BkIs (K : PySem.W.Frag) (C : Addr) : Prop where
  ca : PySem.W.findIn K (.ref C) "__class__" = some (some (.builtin "object.__class__"))
  sp : PySem.W.specialIn K (.builtin "object.__class__") "__get__" = some (some (.builtin "getset_descriptor.__get__"))
  tk : PySem.W.takesIn K (.builtin "object.__class__") = some true
  mo : PySem.W.mroIn K C (.type "object") = some true
  ki : PySem.W.kitOne K (.ref C) (.ref C) = some true
theorem ok_same {f : Addr} {fd : FuncData} (F : Fun K "__eq__" "Book.__eq__" s_Book___eq__ f fd) (B : Blt mg) (R : BkC K C) (I : BkIs K C) (gC : mg "Book" = some (.ref C)) :
    FnOk P w K mg base CX0 1 f fd ["self", "other"] (spSame K C) := by
  refine F.ok sc_Book___eq__ (fun vs H Q E h => ?_) (fun cdv A outer s H vs Q E hr h => ?_)
  · obtain ⟨_, _, _, _, _, rfl, _⟩ := h
    rfl
  · obtain ⟨r, fa, ta, sg, fs, rfl, ⟨⟨⟨dx, h1⟩, h2⟩, xs, hx, hall⟩, hfs, hs, q⟩ := h
    have hu : (A.deeper (envOfC "Book.__eq__" (defScope s_Book___eq__) s.heap.objs.size f cdv)).units + 64 < cLine := by
      have := hr.units
      omega
    refine ⟨_, (pss_one (ps_ret (pe_and (pe_callB call_isi (by rfl) B.isi (by decide +kernel) (pa_cons (pv 1) (pa_cons (pe_glob (v := .ref C) rfl gC rfl) pa_nil))) (pe_and (pe_cmpR op_eq (pe_fld (pv 0) rfl) (pe_fld (pv 1) rfl) (nomark _)) (pe_one (pe_cmpR (op_eqD hu) (pe_fld (pv 0) rfl) (pe_fld (pv 1) rfl) (nomark _))))))), ?_⟩
    have g1 : List.lookup ("letters" : Str) (bkF sg fa ta) = some (.str (S sg)) := rfl
    have g2 : List.lookup ("folds" : Str) (bkF sg fa ta) = some (.ref fa) := rfl
    refine ⟨_, rfl, .ref r, .ref C, _, _, true, rfl, .own C, .base (.ins h1 R.cls I.ca I.sp I.tk I.mo), I.ki, true, rfl, iteT ?_⟩
    refine ⟨_, rfl, r, C, dx, _, _, rfl, h1, R.cls, R.nL, g1, _, rfl, r, C, dx, _, _, rfl, h1, R.cls, R.nL, g1, rfl, _, rfl, ifT (decide_eq_true rfl) ?_⟩
    refine ⟨_, rfl, r, C, dx, _, _, rfl, h1, R.cls, R.nF, g2, _, rfl, r, C, dx, _, _, rfl, h1, R.cls, R.nF, g2, ?_⟩
    have td : Td K H (.ref fa) (.tuple (fs.map fdD)) := .tup hx (fds_td hall)
    have gd : Gd (200 * (40 + 1)) 2 (.tuple (fs.map fdD)) := gd_tup (w := 40) (n := 1) (m := 200) (fun d hd => by
      obtain ⟨g, hg, rfl⟩ := List.mem_map.mp hd
      have ok := hfs.ok g hg
      have lo : ∀ c ∈ sg, c < 1114112 := fun c hc => by have := hs.low c hc; omega
      refine Gd.mono (gd_tup (w := 12) (n := 0) (m := 3) (fun d hd => ?_) (Nat.le_refl 3)) (by decide) (by decide)
      simp only [List.mem_cons, List.not_mem_nil, or_false] at hd
      rcases hd with rfl | rfl | rfl
      · exact Gd.mono (gd_str (w := 1) (fun c hc => by rw [List.mem_singleton.mp hc]; exact lo _ ok.1) (Nat.le_refl 1)) (by decide) (by decide)
      · exact Gd.mono (gd_str (w := 1) (fun c hc => by rw [List.mem_singleton.mp hc]; exact lo _ ok.2.1) (Nat.le_refl 1)) (by decide) (by decide)
      · refine Gd.mono (gd_str (w := 1) (fun c hc => ?_) ?_) (by decide) (by decide)
        · rcases ok.2.2 with e | ⟨d, hd, e⟩
          · rw [e] at hc
            cases hc
          · rw [e] at hc
            rw [List.mem_singleton.mp hc]
            exact lo _ hd
        · exact FsOk.z hfs g hg) (by rw [List.length_map]; exact hfs.few)
    refine ⟨_, _, td.dp, td.dp, shaped_gd gd (by decide), shaped_gd gd (by decide), ?_⟩
    rw [eqv_td td]
    exact q
end
end Lw

namespace Mq
open PySem PySem.Spec PyProof.Rows L2
/-! ### raise C(), a bare one -/
theorem pmk_exB {X : Cx} {C : Addr} {bmB : List Value} {B newId initId : String} {x : Str} {p pos : Pos} (F : ExcBaseFacts B newId initId bmB) (q : PySem.W.excIn X.K C bmB newId = true) (gC : X.mg x = some (.ref C)) (kC : PySem.W.keepIn X.K (.ref C) = true)
    (rs : Raises X (.ref C)) (hg : Gl X x) (hdb : (x == ("__debug__" : Str)) = false := by decide) : PMk X (.Call (.Name x p) [] [] pos) (fun _ H Q => Q (.ref C) none H) := by
  intro pins s σ H Q I h
  refine wpAny_Call_Name_kw (ld_glob I hg gC ?_ hdb)
  refine PySem.W.callWith_K0 I.kIn kC ?_
  obtain ⟨bm, N, nm, qn, bs, hdct, sn, sub, ab, col, dd, k0, k1, k2, k3, k5, mN, hC, hN, hni, T⟩ := exc_obj I.kIn q
  refine wpAny_call_exc_subT F T hC hN hni (fun h' a hm => ?_) (by show 0 ≤ sizeLine; exact Nat.zero_le _)
  have hn : H a = none := I.hok.gone hm.new
  obtain ⟨t, ht, _, _⟩ := hm.there
  exact ⟨a, _, _, s, H, .ref C, none, rfl, I, hm.keeps, hm.new, ht, ⟨rfl, rfl⟩, rfl, rfl, hn, rfl, I.bare, rs, h⟩
end Mq


namespace MqE_place
open PySem PySem.Spec PyProof.Rows L2 Mq PySem.W PySem.Calls
/-! ### errors whose one parameter is thing -/
def iA (p1 p2 : Pos) : Arguments := { posonlyargs := [], args := [{ arg := "self", annotation := none, pos := p1 }, { arg := "place", annotation := none, pos := p2 }], vararg := none, kwonlyargs := [], kw_defaults := [], kwarg := none, defaults := [] }
def iB (q1 q2 q3 q4 : Pos) : List Stmt := [.Assign [.Attribute (.Name "self" q1) "place" q2] (.Name "place" q3) q4]
def iS : Scope := { kind := .function, names := [(PySem.Str.ofString "self", .local), (PySem.Str.ofString "place", .local)], isGenerator := false, isCoroutine := false, more := [] }
/-- what the written part says of the class x at C, and of its __init__ at fI -/
structure Txt (K : Frag) (mg : Str → Option Value) (x qual : Str) (C fI : Addr) : Prop where
  gC : mg x = some (.ref C)
  kC : keepIn K (.ref C) = true
  ex : excInitIn K C exTail "Exception.__new__" = true
  ov : excOver K C exTail = true
  hdC : hasDictIn K C = true
  tk : takerIn K C "place" = some none
  sa : findIn K (.ref C) "__setattr__" = some (some (.builtin "object.__setattr__"))
  iC : findIn K (.ref C) "__init__" = some (some (.ref fI))
  tC : typeIn K (.ref fI) = some (.type "function")
  exC : subIn K (.ref C) (.type "BaseException") = some true
  tyC : typeIn K (.ref C) = some (.type "type")
  fn : ∃ (oc : Value) (od : Option Addr) (doc pm : Value) (an : Option Addr) (cdv ct : Value) (osl : Array (Option Value)) (p1 p2 q1 q2 q3 q4 : Pos),
    K.lookup fI = some ⟨oc, od, .func (fnOf "__init__" qual (iA p1 p2) (iB q1 q2 q3 q4) iS .none .none doc pm an cdv ct), osl⟩ ∧ codeIn K cdv qual = true
theorem ld_loc {M : Model} {s : Shared} {name : Str} {scope : Scope} {L a : Addr} {cd : Value} {m : Str → Option Value} {y : Str} {pos : Pos} {v : Value}
    {Q : Value → Shared → Prop} {A : Around} {E : Value → Shared → Prop} (hn : s.heap.Ns L m) (hv : m y = some v) (h : Q v s)
    (hk : scope.kind = .function := by rfl) (hl : (envOfC name scope L a cd).kindOf y = some .local := by rfl) (hd : (y == ("__debug__" : Str)) = false := by decide) :
    wpAny M A (eval (.Name y pos) (envOfC name scope L a cd)) Q E s := wpAny_Name (wpAny_loadName_local hk hl hn hv h) hd
/-- what __init__ leaves of a new error at e -/
structure Filled (h h' : Heap) (e C dx t1 : Addr) (v : Value) : Prop where
  keep : ∀ b o, b ≠ e → h.get? b = some o → h'.get? b = some o
  obj : h'.get? e = some (excObj C t1 (some dx) .none)
  big : h.objs.size ≤ dx
  ne : dx ≠ e
  ns : h'.Ns1 dx (fun y => if y = "place" then some v else none)
/-- a made error -/
structure Made (h h' : Heap) (e C d : Addr) (v : Value) : Prop where
  keep : ∀ b o, h.get? b = some o → h'.get? b = some o
  new : h.objs.size ≤ e
  obj : ∃ oe vs, h'.get? e = some oe ∧ oe.cls = .ref C ∧ oe.dict = some d ∧ oe.data = .fields vs ∧ vs[1]? = some .none
  big : h.objs.size ≤ d
  ne : d ≠ e
  ns : h'.Ns1 d (fun y => if y = "place" then some v else none)
section
variable {prog : Program} {w : World} {A : Around} {E : Value → Shared → Prop} {R : Result → Shared → Prop} {s : Shared} {K : Frag} {mg : Str → Option Value} {x qual : Str} {C fI : Addr}
theorem init_run (T : Txt K mg x qual C fI) {e t0 : Addr} {v : Value} (X : K.In s.heap) (lim : s.heap.NoLimit) (he : s.heap.get? e = some (excObj C t0 none .none)) (room : A.depth < recursionLimit)
    (hq : ∀ h' tk dx, Filled s.heap h' e C dx t0 v → R (.ok (.ret .none)) { s with heap := h', toks := tk }) :
    codeAny (model prog w) A (.call (.ref fI) ⟨[.ref e, v], []⟩) R s := by
  obtain ⟨oc, od, doc, pm, an, cdv, ct, osl, p1, p2, q1, q2, q3, q4, ho, hcd⟩ := T.fn
  refine Att.call_fn (binds := [("self", .ref e), ("place", v)]) X lim ho hcd room (BindsTo.of_eq (by first | rfl | with_unfolding_all rfl)) (by first | rfl | decide | with_unfolding_all rfl) (fun s₁ IC => ?_) rfl rfl rfl
  obtain ⟨h₁, tk₁, rfl⟩ := IC.toInCall.same
  have k : ∀ b o, s.heap.get? b = some o → h₁.get? b = some o := IC.toInCall.keep
  have hn := IC.toInCall.ns
  have X₁ : K.In h₁ := X.keeps k
  have he₁ := k _ _ he
  show wpAny _ _ (execs _ _) _ _ _
  refine wpAny_execs_cons (plainObj_wpAny_Assign_Attribute ?_)
  refine ld_loc (v := v) hn (by first | rfl | with_unfolding_all rfl | kernel_rfl) (ld_loc (v := .ref e) hn (by first | rfl | with_unfolding_all rfl | kernel_rfl) ?_)
  refine set_plain X₁ (ox := excObj C t0 none .none) (od := none) ⟨he₁, rfl, rfl, trivial⟩ T.sa ?_
  refine osa_first X₁ he₁ T.ov T.hdC T.tk (fun h₃ tk₃ dx k₃ dn dne he₃ hn₃ => ?_)
  show wpAny _ _ (execs _ _) _ _ _
  have z : s.heap.objs.size < h₁.objs.size := hn.lt
  exact wpAny_execs_nil (hq h₃ tk₃ dx ⟨fun b o hb e => k₃ b o hb (k b o e), he₃, Nat.le_of_lt (Nat.lt_of_lt_of_le z dn), dne, hn₃⟩)
theorem made_run (T : Txt K mg x qual C fI) {v : Value} (X : K.In s.heap) (lim : s.heap.NoLimit) (room : A.depth + 1 < recursionLimit)
    (hq : ∀ h' tk e d, Made s.heap h' e C d v → R (.ok (.ret (.ref e))) { s with heap := h', toks := tk }) :
    codeAny (model prog w) A (.call (.ref C) ⟨[v], []⟩) R s := by
  obtain ⟨nm, N, qn, bs, bm, hdct, sn, sub, ab, col, dd, k0, k1, k2, k3, k5, hC, hT⟩ := excInit_of X T.ex
  obtain ⟨hp, g, dr, tk, os⟩ := s
  have k : ∀ b o, hp.get? b = some o → ((hp.push (kdv_tup [v])).push (HandSPX.excO C hp.objs.size)).get? b = some o := fun b o e => Heap.get?_push_of_some _ (Heap.get?_push_of_some _ e)
  have hget : ((hp.push (kdv_tup [v])).push (HandSPX.excO C hp.objs.size)).get? (hp.objs.size + 1) = some (excObj C hp.objs.size none .none) := by heap_get
  refine HandSPX.call_own F.excBase_Exception hT hC (looks_findIn X T.iC) (fun self => bind_fn X self T.tC) (by rw [sizeLine_eq]; exact (by decide : 1 ≤ 16777216)) ?_
  refine init_run (s := ⟨(hp.push (kdv_tup [v])).push (HandSPX.excO C hp.objs.size), g, dr, tk, os⟩) T (X.keeps k) (lim.keeps k) hget ?_ (fun h' tk' dx M => ?_)
  · show A.depth + 1 < recursionLimit
    exact room
  · obtain ⟨k', hx, dn, dne, hns⟩ := M
    have old : ∀ b o, hp.get? b = some o → h'.get? b = some o := fun b o e => k' b o (Nat.ne_of_lt (Nat.lt_succ_of_lt (Heap.lt_size e))) (k b o e)
    have z : hp.objs.size + 1 + 1 ≤ dx := by
      have q := dn
      rw [Heap.size_push, Heap.size_push] at q
      exact q
    exact ⟨rfl, hq h' tk' (hp.objs.size + 1) dx ⟨old, Nat.le_succ _, ⟨_, _, hx, rfl, rfl, rfl, rfl⟩, Nat.le_trans (Nat.le_trans (Nat.le_succ _) (Nat.le_succ _)) z, dne, hns⟩⟩
end
theorem relO_f {v : V} {v' : Value} (r : RelV v v') (f : Str) : RelO (List.lookup f [(("place" : Str), v)]) (if f = "place" then some v' else none) := by
  by_cases hw : f = "place"
  · subst hw
    rw [if_pos rfl]
    have q : List.lookup ("place" : Str) [(("place" : Str), v)] = some v := by simp [List.lookup]
    rw [q]
    exact r
  · rw [if_neg hw]
    have qw : (f == ("place" : Str)) = false := by simpa using hw
    have q2 : List.lookup f [(("place" : Str), v)] = none := by simp [List.lookup, qw]
    rw [q2]
    trivial
section
variable {X : Cx} {C fI : Addr} {x qual : Str}
/-- x(e) -/
def tMk (C : Addr) (ta : TA) : L2.St → Hp → XK → Prop := fun σ H Q => ta σ H fun vs H1 => ∃ v, vs = [v] ∧ ∀ d, H1 d = none → Q (.ref C) (some d) (upd H1 d (.xd [(("place" : Str), v)]))
theorem pmk {a : Expr} {ta : TA} {p pos : Pos} {k : Nat} (T : Txt X.K X.mg x qual C fI) (hr : Room k X.A) (ha : PA X [a] ta) (hg : Gl X x := by rfl) (hdb : (x == ("__debug__" : Str)) = false := by decide)
    (he : starEach (a :: []) X.env = (false, eval a X.env) :: starEach [] X.env := by rfl) (hpl : (backTo pos (starEach [] X.env)).any (·.1) = false := by rfl) :
    PMk X (.Call (.Name x p) [a] [] pos) (tMk C ta) := by
  intro pins s σ H Q I h
  refine wpAny_Call_Name_kw (ld_glob I hg T.gC ?_ hdb)
  refine callWith_K (h₀ := X.base) I.ok.mod.kin T.kC (thn (ha.run pos pins s σ H _ I h) fun us s1 hh => ?_) he hpl
  obtain ⟨vs, H1, I1, r1, v, ev, q1⟩ := hh
  subst ev
  refine ⟨I1.kIn, ?_⟩
  cases r1 with
  | cons rv rn =>
    rename_i v' us'
    cases rn
    show wpAny _ _ (call (.ref C) [v']) _ _ _
    have hlim := I1.nolimit
    obtain ⟨hp, g, dr, tk, os⟩ := s1
    refine wpAny_call (made_run T I1.kIn hlim (by have := hr.dp; omega) (fun h' tk' e d M => ?_))
    show MkP X pins σ Q (.ref e) ⟨h', g, dr, tk', os⟩
    obtain ⟨oe, fv, hoe, hc, hd, hdat, h1⟩ := M.obj
    have hns := M.ns
    obtain ⟨G', g1, g2⟩ := restrict h' fun b => decide (b ≠ e)
    have gk : ∀ b, b ≠ e → G'.get? b = h'.get? b := fun b hb => g1 b (decide_eq_true hb)
    have ge : G'.get? e = none := g2 e (by simp)
    have old : ∀ b o, hp.get? b = some o → G'.get? b = some o := fun b o q => (gk b (Nat.ne_of_lt (Nat.lt_of_lt_of_le (Heap.lt_size q) M.new))).trans (M.keep b o q)
    have ob : ObjOk X.prog X.w (upd H1 d (.xd [(("place" : Str), v)])) G' d (.xd [(("place" : Str), v)]) :=
      ⟨_, hns.at (fun o q => (gk d M.ne).trans q), fun f => relO_f rv f⟩
    have J : L2.Inv X pins σ (upd H1 d (.xd [(("place" : Str), v)])) ⟨G', g, dr, tk', os⟩ := I1.laid (t' := tk') old M.big ob
    refine ⟨e, oe, fv, ⟨G', g, dr, tk', os⟩, _, .ref C, some d, rfl, J, (fun b o q => ?_), ge, hoe, ⟨hc, hd⟩, hdat, h1, ?_, rfl, I1.bare, raises_own T.exC T.tyC, q1 d (I1.hok.fresh M.big)⟩
    · by_cases hb : b = e
      · have q' : G'.get? b = some o := q
        rw [hb, ge] at q'
        cases q'
      · exact (gk b hb).symm.trans q
    · rw [upd_ne (Ne.symm M.ne)]
      exact I1.hok.fresh M.new
/-- raise x(e) -/
def tRaise (C : Addr) (W : WX) (ta : TA) : TS := fun _ σ H => tMk C ta σ H fun cls d H' => W cls d σ H'
theorem ps_raise {a : Expr} {ta : TA} {W : WX} {p pos pos2 : Pos} {k : Nat} (hc : X.calm = true) (T : Txt X.K X.mg x qual C fI) (hr : Room k X.A) (tk : Takes X W) (ha : PA X [a] ta) (hg : Gl X x := by rfl) (hdb : (x == ("__debug__" : Str)) = false := by decide)
    (he : starEach (a :: []) X.env = (false, eval a X.env) :: starEach [] X.env := by rfl) (hpl : (backTo pos (starEach [] X.env)).any (·.1) = false := by rfl) :
    PS X (.Raise (some (.Call (.Name x p) [a] [] pos)) none pos2) (tRaise C W ta) := L2.ps_raise hc tk (pmk T hr ha hg hdb he hpl)
end
end MqE_place

namespace Lw
open PySem PySem.Spec PyProof.Rows L2 Mq
open SX (S)
/-! ### a weaving -/
def websV (fs : List Fd) (w row : List Nat) : List V := (websM fs w row).map fun l => .str (S l)
def wvF (r : Addr) (w row : List Nat) (L B : Addr) : List (Str × V) := [("book", .ref r), ("web", .str (S w)), ("row", .str (S row)), ("webs", .ref L), ("before", .ref B)]
def OldAt (K : PySem.W.Frag) (N : Addr → Prop) (H : Hp) (fs : List Fd) (w : List Nat) (v : V) (o : List Nat) : Prop := ∃ p L, v = .ref p ∧ SqT K H p [.str (S o), .ref L] ∧ H L = some (.lst (websV fs w o)) ∧ N L
/-- what was noted; all its lists of webs keep to N -/
structure OldsAt (K : PySem.W.Frag) (N : Addr → Prop) (H : Hp) (L : Addr) (fs : List Fd) (w : List Nat) (us : List V) (olds : List (List Nat)) : Prop where
  len : us.length = olds.length
  at_ : ∀ (i : Nat) (v : V) (o : List Nat), us[i]? = some v → olds[i]? = some o → OldAt K N H fs w v o
  far : N L
structure WvAt (K : PySem.W.Frag) (H : Hp) (CN : Addr) (N : Addr → Prop) (n r B : Addr) (fs : List Fd) (w row : List Nat) (olds : List (List Nat)) : Prop where
  ex : ∃ dx L us, H n = some (.ins CN dx (wvF r w row L B)) ∧ H L = some (.lst (websV fs w row)) ∧ H B = some (.lst us) ∧ OldsAt K N H L fs w us olds
theorem websV_len (fs : List Fd) (w row : List Nat) : (websV fs w row).length = row.length + 1 := by
  unfold websV websM
  rw [List.length_map, List.length_map, List.length_range]
theorem websV_at {fs : List Fd} {w row : List Nat} {i : Nat} (h : i ≤ row.length) : (websV fs w row)[i]? = some (.str (S (ledM fs w (row.take i)))) := by
  unfold websV websM
  rw [List.getElem?_map, List.getElem?_map, List.getElem?_range (by omega)]
  rfl
theorem websV_first (fs : List Fd) (w row : List Nat) : (websV fs w row)[0]? = some (.str (S w)) := websV_at (Nat.zero_le _)
theorem ne_websV {fs : List Fd} {w row : List Nat} {xs : List V} (h : ∀ x, xs[0]? = some x → ∀ z, x ≠ .str z) : websV fs w row ≠ xs := fun e => by
  have h1 := websV_first fs w row
  rw [e] at h1
  exact h _ h1 _ rfl
section
variable {K : PySem.W.Frag} {N : Addr → Prop} {H H' : Hp} {CN n r B D C Cc : Addr} {T : Nat} {fs : List Fd} {w row : List Nat} {olds : List (List Nat)}
theorem OldAt.mv {v : V} {o : List Nat} (h : OldAt K N H fs w v o) (e : KpT K H H') (l : ∀ L o, H L = some (.lst (websV fs w o)) → H' L = some (.lst (websV fs w o))) : OldAt K N H' fs w v o :=
  let ⟨p, L, a, b, c, d⟩ := h; ⟨p, L, a, e _ _ b, l _ _ c, d⟩
theorem OldsAt.mv {us : List V} {L : Addr} (h : OldsAt K N H L fs w us olds) (e : KpT K H H') (l : ∀ L o, H L = some (.lst (websV fs w o)) → H' L = some (.lst (websV fs w o))) : OldsAt K N H' L fs w us olds :=
  ⟨h.len, fun i v o a b => (h.at_ i v o a b).mv e l, h.far⟩
theorem WvAt.same (h : WvAt K H CN N n r B fs w row olds) (e : Same H H') : WvAt K H' CN N n r B fs w row olds :=
  let ⟨dx, L, us, a, b, c, d⟩ := h.ex; ⟨dx, L, us, e _ _ a, e _ _ b, e _ _ c, d.mv (KpT.same e) fun _ _ x => e _ _ x⟩
theorem webs_deck (k : DeckAt D C T H) (f : Off D C H H') {L : Addr} {o : List Nat} (h : H L = some (.lst (websV fs w o))) : H' L = some (.lst (websV fs w o)) := by
  obtain ⟨m, t, js, a, b, _⟩ := k.ex
  refine f L _ ?_ ?_ h
  · rintro rfl
    rw [a] at h
    cases h
  · rintro rfl
    rw [b] at h
    refine ne_websV (xs := js.map V.int) (fun x hx z => ?_) (by injection h with h; injection h with h; exact h.symm)
    rw [List.getElem?_map] at hx
    obtain ⟨j, _, rfl⟩ := Option.map_eq_some_iff.mp hx
    exact fun z => nomatch z
theorem WvAt.off (h : WvAt K H CN N n r B fs w row olds) (f : Off D C H H') (k : DeckAt D C T H) (hB : B ≠ C) : WvAt K H' CN N n r B fs w row olds := by
  obtain ⟨dx, L, us, a, b, c, d⟩ := h.ex
  refine ⟨dx, L, us, f.at k a ⟨(fun _ z => nomatch z), (fun _ z => nomatch z)⟩, webs_deck k f b, f B _ ?_ hB c, d.mv (KpT.off f k) fun _ _ x => webs_deck k f x⟩
  rintro rfl
  obtain ⟨m, t, js, e, _⟩ := k.ex
  rw [e] at c
  cases c
theorem KpT.note (h : WvAt K H CN N n r B fs w row olds) (f : Off n B H H') : KpT K H H' := by
  obtain ⟨dx, L, us, a, b, c, d⟩ := h.ex
  have go : ∀ {x : Addr} {o : HO}, H x = some o → (∀ C d fs, o ≠ .ins C d fs) → (∀ xs, o ≠ .lst xs) → H' x = some o := fun {x o} e h1 h2 => f x _ (fun z => by subst z; rw [a] at e; cases e; exact h1 _ _ _ rfl) (fun z => by subst z; rw [c] at e; cases e; exact h2 _ rfl) e
  intro x xs hx
  rcases hx with (hx | ⟨o, hx⟩) | hx
  · exact Or.inl (Or.inl (go hx (fun _ _ _ z => nomatch z) (fun _ z => nomatch z)))
  · exact Or.inl (Or.inr ⟨o, go hx (fun _ _ _ z => nomatch z) (fun _ z => nomatch z)⟩)
  · exact Or.inr hx
theorem DeckAt.note (k : DeckAt D C T H) (h : WvAt K H CN N n r B fs w row olds) (f : Off n B H H') (hB : B ≠ C) : DeckAt D C T H' := by
  obtain ⟨dx, L, us, a, b, c, d⟩ := h.ex
  obtain ⟨m, t, js, e1, e2, e3, e4⟩ := k.ex
  refine ⟨m, t, js, f D _ ?_ ?_ e1, f C _ ?_ (Ne.symm hB) e2, e3, e4⟩
  · rintro rfl
    rw [a] at e1
    cases e1
  · rintro rfl
    rw [c] at e1
    cases e1
  · rintro rfl
    rw [a] at e2
    cases e2
theorem WAt.note {wd ld : Addr} {sg : List Nat} {gs : List Fd} (k : WAt H wd ld sg gs) (h : WvAt K H CN N n r B fs w row olds) (f : Off n B H H') : WAt H' wd ld sg gs := by
  obtain ⟨dx, L, us, a, b, c, d⟩ := h.ex
  refine ⟨f wd _ ?_ ?_ k.w, f ld _ ?_ ?_ k.l⟩
  · rintro rfl
    have := k.w
    rw [a] at this
    cases this
  · rintro rfl
    have := k.w
    rw [c] at this
    cases this
  · rintro rfl
    have := k.l
    rw [a] at this
    cases this
  · rintro rfl
    have := k.l
    rw [c] at this
    cases this
theorem BkWh.note {r2 fa ta : Addr} {sg : List Nat} {gs : List Fd} (k : BkWh K H Cc r2 sg gs fa ta) (h : WvAt K H CN N n r B fs w row olds) (f : Off n B H H') : BkWh K H' Cc r2 sg gs fa ta := by
  obtain ⟨⟨⟨d2, k1⟩, k2⟩, xs, k3, k4⟩ := k
  have kp := KpT.note h f
  obtain ⟨dx, L, us, a, b, c, d⟩ := h.ex
  refine ⟨⟨⟨d2, f r2 _ ?_ ?_ k1⟩, f ta _ ?_ ?_ k2⟩, xs, kp _ _ k3, k4.kp kp⟩
  · rintro rfl
    rw [a] at k1
    have e := Option.some.inj k1
    injection e with e1 e2 e3
    exact absurd (congrArg List.length e3) (by show ¬ 5 = 3; decide)
  · rintro rfl
    rw [c] at k1
    cases k1
  · rintro rfl
    rw [a] at k2
    cases k2
  · rintro rfl
    rw [c] at k2
    cases k2
theorem BkWh.same {r2 fa ta : Addr} {sg : List Nat} {gs : List Fd} (k : BkWh K H Cc r2 sg gs fa ta) (e : Same H H') : BkWh K H' Cc r2 sg gs fa ta := let ⟨a, xs, b, c⟩ := k; ⟨a.same e, xs, Same.tup e b, c.kp (KpT.same e)⟩
theorem BkAt.off {r fa ta : Addr} {sg : List Nat} {fs : List Fd} (h : BkAt H Cc r sg fs fa ta) (f : Off D C H H') (k : DeckAt D C T H) : BkAt H' Cc r sg fs fa ta :=
  let ⟨⟨dx, x⟩, y⟩ := h; ⟨⟨dx, f.at k x ⟨(fun _ z => nomatch z), (fun _ z => nomatch z)⟩⟩, f.at k y ⟨(fun _ z => nomatch z), (fun _ z => nomatch z)⟩⟩
theorem BkWh.off {r2 fa ta : Addr} {sg : List Nat} {gs : List Fd} (k : BkWh K H Cc r2 sg gs fa ta) (f : Off D C H H') (dk : DeckAt D C T H) : BkWh K H' Cc r2 sg gs fa ta := let ⟨a, xs, b, c⟩ := k; ⟨a.off f dk, xs, f.tup dk b, c.kp (KpT.off f dk)⟩
/-- a list of rows, written beside -/
theorem pages_note {P : Addr} {pg : List (List Nat)} (hp : H P = some (.lst (pg.map fun l => .str (S l)))) (ne : pg ≠ []) (h : WvAt K H CN N n r B fs w row olds) (f : Off n B H H') : H' P = some (.lst (pg.map fun l => .str (S l))) := by
  obtain ⟨dx, L, us, a, b, c, d⟩ := h.ex
  refine f P _ ?_ ?_ hp
  · rintro rfl
    rw [a] at hp
    cases hp
  · rintro rfl
    rw [c] at hp
    injection hp with hp
    injection hp with hp
    subst hp
    obtain ⟨l, pg, rfl⟩ : ∃ l q, pg = l :: q := by
      cases pg with
      | nil => exact (ne rfl).elim
      | cons l q => exact ⟨l, q, rfl⟩
    cases olds with
    | nil =>
      have h0 : (List.map (fun l => V.str (S l)) (l :: pg)).length = 0 := d.len
      exact absurd h0 (by simp)
    | cons o os =>
      obtain ⟨p, L, e, _⟩ := d.at_ 0 _ _ rfl rfl
      cases e
end
structure WvC (K : PySem.W.Frag) (CN : Addr) : Prop where
  cls : Cls K CN
  nb : NoAttr K CN "book"
  nw : NoAttr K CN "web"
  nr : NoAttr K CN "row"
  ns : NoAttr K CN "webs"
  nf : NoAttr K CN "before"
def spLenW (K : PySem.W.Frag) (CN : Addr) : Sp := fun vs H Q _ => ∃ (N : Addr → Prop) (n r B : Addr) (fs : List Fd) (w row : List Nat) (olds : List (List Nat)), vs = [.ref n] ∧ WvAt K H CN N n r B fs w row olds ∧ row.length ≤ 300 ∧ Q (.int (row.length : Nat)) H
def spNow (K : PySem.W.Frag) (CN : Addr) : Sp := fun vs H Q _ => ∃ (N : Addr → Prop) (n r B : Addr) (fs : List Fd) (w row : List Nat) (olds : List (List Nat)), vs = [.ref n] ∧ WvAt K H CN N n r B fs w row olds ∧ Q (.str (S row)) H
def spWebNow (K : PySem.W.Frag) (CN : Addr) : Sp := fun vs H Q _ => ∃ (N : Addr → Prop) (n r B : Addr) (fs : List Fd) (w row : List Nat) (olds : List (List Nat)), vs = [.ref n] ∧ WvAt K H CN N n r B fs w row olds ∧ Q (.str (S (ledM fs w row))) H
def spPlace (K : PySem.W.Frag) (CN CP : Addr) : Sp := fun vs H Q E => ∃ (N : Addr → Prop) (n r B : Addr) (fs : List Fd) (w row : List Nat) (olds : List (List Nat)) (v : V) (least : Nat), vs = [.ref n, v, .int (least : Nat)] ∧ WvAt K H CN N n r B fs w row olds ∧ row.length ≤ 300 ∧
  ((∃ k : Nat, v = .int (k : Nat) ∧ least ≤ k ∧ k ≤ row.length ∧ ∀ H', Same H H' → Q .non H') ∨ (PlBadS K H v least row.length ∧ ∀ H' d, Same H H' → H' d = none → E (.ref CP) (some d) (upd H' d (.xd [("place", v)]))))
def spWebAt (K : PySem.W.Frag) (CN CP : Addr) : Sp := fun vs H Q E => ∃ (N : Addr → Prop) (n r B : Addr) (fs : List Fd) (w row : List Nat) (olds : List (List Nat)) (v : V), vs = [.ref n, v] ∧ WvAt K H CN N n r B fs w row olds ∧ row.length ≤ 300 ∧
  ((∃ k : Nat, v = .int (k : Nat) ∧ k ≤ row.length ∧ ∀ H', Same H H' → Q (.str (S (ledM fs w (row.take k)))) H') ∨ (PlBadS K H v 0 row.length ∧ ∀ H' d, Same H H' → H' d = none → E (.ref CP) (some d) (upd H' d (.xd [("place", v)]))))
section
variable {P : Program} {w : World} {K : PySem.W.Frag} {mg : Str → Option Value} {base : Heap} {CN CP : Addr}
theorem wv_book {r L B : Addr} {w row : List Nat} : List.lookup ("book" : Str) (wvF r w row L B) = some (.ref r) := rfl
theorem wv_web {r L B : Addr} {w row : List Nat} : List.lookup ("web" : Str) (wvF r w row L B) = some (.str (S w)) := rfl
theorem wv_row {r L B : Addr} {w row : List Nat} : List.lookup ("row" : Str) (wvF r w row L B) = some (.str (S row)) := rfl
theorem wv_webs {r L B : Addr} {w row : List Nat} : List.lookup ("webs" : Str) (wvF r w row L B) = some (.ref L) := rfl
theorem wv_before {r L B : Addr} {w row : List Nat} : List.lookup ("before" : Str) (wvF r w row L B) = some (.ref B) := rfl
theorem ok_lenW {f : Addr} {fd : FuncData} (F : Fun K "__len__" "Weaving.__len__" s_Weaving___len__ f fd) (B : Blt mg) (R : WvC K CN) : FnOk P w K mg base CX0 1 f fd ["self"] (spLenW K CN) := by
  refine F.ok sc_Weaving___len__ (fun vs H Q E h => ?_) (fun cdv A outer s H vs Q E hr h => ?_)
  · obtain ⟨_, _, _, _, _, _, _, _, rfl, _⟩ := h
    rfl
  · obtain ⟨N, n, r, Bf, fs, w, row, olds, rfl, hw, hl, q⟩ := h
    obtain ⟨dx, L, us, h1, h2, h3, h4⟩ := hw.ex
    exact ⟨_, pss_one (ps_ret (pe_callB call_len (by rfl) B.len (by decide +kernel) (pa_cons (pe_fld (pv 0) rfl) pa_nil))), _, rfl, n, CN, dx, _, _, rfl, h1, R.cls, R.nr, wv_row, _, _, rfl, len_S (by omega), q⟩
theorem ok_rowNow {f : Addr} {fd : FuncData} (F : Fun K "row_now" "Weaving.row_now" s_Weaving_row_now f fd) (R : WvC K CN) : FnOk P w K mg base CX0 1 f fd ["self"] (spNow K CN) := by
  refine F.ok sc_Weaving_row_now (fun vs H Q E h => ?_) (fun cdv A outer s H vs Q E hr h => ?_)
  · obtain ⟨_, _, _, _, _, _, _, _, rfl, _⟩ := h
    rfl
  · obtain ⟨N, n, r, Bf, fs, w, row, olds, rfl, hw, q⟩ := h
    obtain ⟨dx, L, us, h1, h2, h3, h4⟩ := hw.ex
    exact ⟨_, pss_one (ps_ret (pe_fld (pv 0) rfl)), _, rfl, n, CN, dx, _, _, rfl, h1, R.cls, R.nr, wv_row, q⟩
theorem ok_webNow {f : Addr} {fd : FuncData} (F : Fun K "web_now" "Weaving.web_now" s_Weaving_web_now f fd) (R : WvC K CN) : FnOk P w K mg base CX0 1 f fd ["self"] (spWebNow K CN) := by
  refine F.ok sc_Weaving_web_now (fun vs H Q E h => ?_) (fun cdv A outer s H vs Q E hr h => ?_)
  · obtain ⟨_, _, _, _, _, _, _, _, rfl, _⟩ := h
    rfl
  · obtain ⟨N, n, r, Bf, fs, w, row, olds, rfl, hw, q⟩ := h
    obtain ⟨dx, L, us, h1, h2, h3, h4⟩ := hw.ex
    have e : websV fs w row = ((List.range row.length).map fun k => V.str (S (ledM fs w (row.take k)))) ++ [V.str (S (ledM fs w row))] := by
      have := webs_snoc fs w row row.length
      rw [List.take_length] at this
      rw [← this]
      unfold websV websM
      rw [List.map_map]
      rfl
    rw [e] at h2
    exact ⟨_, pss_one (ps_ret (pe_ix ix_list (pe_fld (pv 0) rfl) (pe_un un_neg pe_int) (fun _ _ => rfl))), _, rfl, n, CN, dx, _, _, rfl, h1, R.cls, R.ns, wv_webs, _, rfl, L, _, -1, _, rfl, rfl, SqL.of h2, atI_last _ _, q⟩
theorem ok_place {f fB fE : Addr} {fd fdB : FuncData} (F : Fun K "check_place" "Weaving.check_place" s_Weaving_check_place f fd) (B : Blt mg) (R : WvC K CN)
    (FB : Fun K "is_below" "is_below" s_is_below fB fdB) (gB : mg "is_below" = some (.ref fB)) (bB : Binds K fdB ["thing", "many"] []) (GB : FnOk P w K mg base CX0 2 fB fdB ["thing", "many"] (spBelow K))
    (T : MqE_place.Txt K mg "BadPlace" "BadPlace.__init__" CP fE) : FnOk P w K mg base (L2.CX P w) 3 f fd ["self", "thing", "least"] (spPlace K CN CP) := by
  refine F.okX sc_Weaving_check_place (fun vs H Q E h => ?_) (fun cdv A outer s H vs Q E hr h => ?_)
  · obtain ⟨_, _, _, _, _, _, _, _, _, _, rfl, _⟩ := h
    rfl
  · obtain ⟨N, n, r, Bf, fs, w, row, olds, v, least, rfl, hw, hl, h⟩ := h
    obtain ⟨dx, L, us, h1, h2, h3, h4⟩ := hw.ex
    refine ⟨_, (pss_one (ps_if (PW.pt (pw_or (pt_not (pt_val (pe_call GB (hr.mono (by decide)) (by rfl) gB FB.kp bB .nil pass0 (pa_cons (pv 1) (pa_cons (pe_callB call_len (by rfl) B.len (by decide +kernel) (pa_cons (pe_fld (pv 0) rfl) pa_nil)) pa_nil))))) (pw_or1 (pt_cmpR op_lt (pv 1) (pv 2) (nomark _))))) (pss_one (MqE_place.ps_raise rfl T hr (takes_of rfl rfl rfl rfl) (pa_cons (pv 1) pa_nil))) pss_nil)), ?_⟩
    refine ⟨_, rfl, _, rfl, n, CN, dx, _, _, rfl, h1, R.cls, R.ns, wv_webs, _, _, rfl, Or.inl ⟨_, SqL.of h2, rfl⟩, v, ((websV fs w row).length : Nat), rfl, ?_⟩
    rw [websV_len]
    rcases h with ⟨k, rfl, hk1, hk2, q⟩ | ⟨hb, q⟩
    · refine Or.inl ⟨_, rfl, _, rfl, ?_⟩
      rw [decide_eq_true (show (0 : Int) ≤ (k : Nat) by omega), decide_eq_true (show ((k : Nat) : Int) < ((row.length + 1 : Nat) : Int) by omega)]
      refine ifF rfl ⟨_, rfl, _, rfl, _, _, rfl, rfl, _, rfl, ifF (decide_eq_false (by omega)) (q H (Same.refl H))⟩
    · have raise : ∃ v', [v] = [v'] ∧ ∀ d, H d = none → E (.ref CP) (some d) (upd H d (.xd [("place", v')])) := ⟨v, rfl, fun d hd => q H d (Same.refl H) hd⟩
      rcases hb H (Same.refl H) with ⟨i, rfl, hi⟩ | hb
      · refine Or.inl ⟨i, rfl, _, rfl, ?_⟩
        cases e : decide ((0 : Int) ≤ i) && decide (i < ((row.length + 1 : Nat) : Int)) with
        | false => exact ifT rfl ⟨_, rfl, raise⟩
        | true =>
          obtain ⟨e1, e2⟩ := Bool.and_eq_true_iff.mp e
          have e1 := of_decide_eq_true e1
          have e2 := of_decide_eq_true e2
          refine ifF rfl ⟨_, rfl, _, rfl, _, _, rfl, rfl, _, rfl, ifT (decide_eq_true (by omega)) ⟨_, rfl, raise⟩⟩
      · exact Or.inr ⟨hb, _, rfl, ifT rfl ⟨_, rfl, raise⟩⟩
theorem ok_webAt {f fK : Addr} {fd fdK : FuncData} (F : Fun K "web_at" "Weaving.web_at" s_Weaving_web_at f fd) (R : WvC K CN)
    (mK : Meth K CN "check_place" fK) (bK : Binds K fdK ["self", "thing", "least"] []) (GK : FnOk P w K mg base (L2.CX P w) 3 fK fdK ["self", "thing", "least"] (spPlace K CN CP)) :
    FnOk P w K mg base (L2.CX P w) 4 f fd ["self", "place"] (spWebAt K CN CP) := by
  refine F.okX sc_Weaving_web_at (fun vs H Q E h => ?_) (fun cdv A outer s H vs Q E hr h => ?_)
  · obtain ⟨_, _, _, _, _, _, _, _, _, rfl, _⟩ := h
    rfl
  · obtain ⟨N, n, r, Bf, fs, w, row, olds, v, rfl, hw, hl, h⟩ := h
    refine ⟨_, (pss_cons (ps_expr (pe_meth (pv 0) R.cls mK GK (hr.mono (by decide)) bK .nil (passes_call (takes_of rfl rfl rfl rfl) (fun _ _ _ _ z => z)) (pa_cons (pv 1) (pa_cons pe_int pa_nil))))
      (pss_one (ps_ret (pe_ix ix_list (pe_fld (pv 0) rfl) (pv 1) (fun _ _ => rfl))))), ?_⟩
    obtain ⟨dx, L, us, h1, h2, h3, h4⟩ := hw.ex
    refine ⟨_, rfl, n, dx, _, rfl, h1, rfl, _, rfl, _, n, r, Bf, fs, w, row, olds, v, 0, rfl, hw, hl, ?_⟩
    rcases h with ⟨k, rfl, hk, q⟩ | ⟨hb, q⟩
    · refine Or.inl ⟨k, rfl, Nat.zero_le _, hk, fun H1 s1 => ?_⟩
      exact ⟨_, rfl, n, CN, dx, _, _, rfl, s1 _ _ h1, R.cls, R.ns, wv_webs, _, rfl, L, _, (k : Nat), _, rfl, rfl, SqL.of (s1 _ _ h2), atI_nat (websV_at hk), q H1 s1⟩
    · exact Or.inr ⟨hb, q⟩
end
end Lw

namespace Lw
open PySem PySem.Spec PyProof.Rows L2 Mq
open SX (S)
def spInitW (K : PySem.W.Frag) (C CN CW CR : Addr) : Sp := fun vs H Q E => ∃ (N : Addr → Prop) (n dx r fa ta : Addr) (sg : List Nat) (fs : List Fd) (v u : V), vs = [.ref n, .ref r, v, u] ∧ H n = some (.ins CN dx []) ∧ BkAt H C r sg fs fa ta ∧ FsOk sg fs ∧
  (∀ X, H X = none → N X) ∧ Woven K CW CR sg v u H E fun l row => ∀ H' B, WvAt K H' CN N n r B fs l row [] → H B = none → (∀ b o, H b = some o → b ≠ n → H' b = some o) → Q .non H'
def spUndo (K : PySem.W.Frag) (CN CU : Addr) : Sp := fun vs H Q E => ∃ (N : Addr → Prop) (n r B : Addr) (fs : List Fd) (w row : List Nat) (olds : List (List Nat)), vs = [.ref n] ∧ WvAt K H CN N n r B fs w row olds ∧
  ((olds = [] ∧ E (.ref CU) none H) ∨ (∃ os o, olds = os ++ [o] ∧ ∀ H', WvAt K H' CN N n r B fs w o os → Off n B H H' → Q .non H'))
structure BareT (K : PySem.W.Frag) (mg : Str → Option Value) (nm : Str) (CU : Addr) : Prop where
  ex : PySem.W.excIn K CU exTail "Exception.__new__" = true
  gC : mg nm = some (.ref CU)
  kC : PySem.W.keepIn K (.ref CU) = true
  exC : PySem.W.subIn K (.ref CU) (.type "BaseException") = some true
  tyC : PySem.W.typeIn K (.ref CU) = some (.type "type")
section
variable {P : Program} {w : World} {K : PySem.W.Frag} {mg : Str → Option Value} {base : Heap} {C CN CW CR CU : Addr}
theorem ok_initW {f fV fB : Addr} {fd fdV fdB : FuncData} (F : Fun K "__init__" "Weaving.__init__" s_Weaving___init__ f fd) (R : WvC K CN)
    (FV : Fun K "check_woven" "check_woven" s_check_woven fV fdV) (gV : mg "check_woven" = some (.ref fV)) (bV : Binds K fdV ["book", "web", "row"] []) (GV : FnOk P w K mg base (L2.CX P w) 4 fV fdV ["book", "web", "row"] (spWoven K C CW CR))
    (FB : Fun K "webs_behind" "webs_behind" s_webs_behind fB fdB) (gB : mg "webs_behind" = some (.ref fB)) (bB : Binds K fdB ["book", "web", "row"] []) (GB : FnOk P w K mg base CX0 3 fB fdB ["book", "web", "row"] (spWebs C)) :
    FnOk P w K mg base (L2.CX P w) 5 f fd ["self", "book", "web", "row"] (spInitW K C CN CW CR) := by
  refine F.okX sc_Weaving___init__ (fun vs H Q E h => ?_) (fun cdv A outer s H vs Q E hr h => ?_)
  · obtain ⟨_, _, _, _, _, _, _, _, _, _, rfl, _⟩ := h
    rfl
  · obtain ⟨N, n, dx, r, fa, ta, sg, fs, v, u, rfl, hn, hb, hfs, hN, h⟩ := h
    refine ⟨_, (pss_cons (ps_expr (pe_call GV (hr.mono (by decide)) (by rfl) gV FV.kp bV .nil (passes_call (takes_of rfl rfl rfl rfl) (fun _ _ _ _ z => z)) (pa_cons (pv 1) (pa_cons (pv 2) (pa_cons (pv 3) pa_nil)))))
      (pss_cons (ps_fld (pv 0) (pv 1) rfl)
      (pss_cons (ps_fld (pv 0) (pv 2) rfl)
      (pss_cons (ps_fld (pv 0) (pv 3) rfl)
      (pss_cons (ps_fld (pv 0) (pe_call GB (hr.mono (by decide)) (by rfl) gB FB.kp bB .nil pass0 (pa_cons (pv 1) (pa_cons (pv 2) (pa_cons (pv 3) pa_nil)))) rfl)
      (pss_one (ps_fld (pv 0) (Mq.pe_ls pa_nil) rfl))))))), ?_⟩
    refine ⟨_, rfl, _, rfl, _, rfl, r, fa, ta, sg, fs, v, u, rfl, hb, ?_⟩
    rcases h with ⟨l, row, hg, hgr, q⟩ | h | h
    · refine Or.inl ⟨l, row, hg, hgr, fun H1 s1 => ?_⟩
      have e1 := hg.1
      have e2 := hgr.1
      subst e1 e2
      have n1 := s1 _ _ hn
      have b1 := hb.same s1
      have rn : r ≠ n := by
        rintro rfl
        obtain ⟨⟨d2, e⟩, _⟩ := hb
        rw [hn] at e
        have e := Option.some.inj e
        injection e with _ _ e
        exact absurd (congrArg List.length e) (by show ¬ 0 = 3; decide)
      have tn : ta ≠ n := by
        rintro rfl
        have e := hb.2
        rw [hn] at e
        cases e
      refine ⟨_, rfl, _, rfl, n, CN, dx, [], rfl, n1, R.cls, R.nb, (by show 0 < 1000; decide), ?_⟩
      refine ⟨_, rfl, _, rfl, n, CN, dx, _, rfl, upd_same, R.cls, R.nw, (by show 1 < 1000; decide), ?_⟩
      refine ⟨_, rfl, _, rfl, n, CN, dx, _, rfl, upd_same, R.cls, R.nr, (by show 2 < 1000; decide), ?_⟩
      have bk : ∀ {G : Hp} {o : HO}, BkAt G C r sg fs fa ta → BkAt (upd G n o) C r sg fs fa ta := fun {G o} b => ⟨b.1.imp fun d e => (upd_ne rn).trans e, (upd_ne tn).trans b.2⟩
      have b4 := bk (o := .ins CN dx (putF "row" (.str (S row)) (putF "web" (.str (S l)) (putF "book" (.ref r) [])))) (bk (o := .ins CN dx (putF "web" (.str (S l)) (putF "book" (.ref r) []))) (bk (o := .ins CN dx (putF "book" (.ref r) [])) b1))
      have s4 : ∀ b o, H b = some o → b ≠ n → upd (upd (upd H1 n (.ins CN dx (putF "book" (.ref r) []))) n (.ins CN dx (putF "web" (.str (S l)) (putF "book" (.ref r) [])))) n (.ins CN dx (putF "row" (.str (S row)) (putF "web" (.str (S l)) (putF "book" (.ref r) [])))) b = some o := fun b o e hb => by
        rw [upd_ne hb, upd_ne hb, upd_ne hb]
        exact s1 b o e
      have n4 : upd (upd (upd H1 n (.ins CN dx (putF "book" (.ref r) []))) n (.ins CN dx (putF "web" (.str (S l)) (putF "book" (.ref r) [])))) n (.ins CN dx (putF "row" (.str (S row)) (putF "web" (.str (S l)) (putF "book" (.ref r) [])))) n = some (.ins CN dx (putF "row" (.str (S row)) (putF "web" (.str (S l)) (putF "book" (.ref r) [])))) := upd_same
      generalize upd (upd (upd H1 n (.ins CN dx (putF "book" (.ref r) []))) n (.ins CN dx (putF "web" (.str (S l)) (putF "book" (.ref r) [])))) n (.ins CN dx (putF "row" (.str (S row)) (putF "web" (.str (S l)) (putF "book" (.ref r) [])))) = H4 at b4 s4 n4 ⊢
      refine ⟨_, rfl, _, rfl, _, rfl, r, fa, ta, sg, l, row, fs, rfl, b4, hfs, hg.2.2, hgr.2.2, fun H5 L s5 nL hL => ?_⟩
      have n5 := s5 _ _ n4
      have Ln : L ≠ n := by
        rintro rfl
        rw [hL] at n5
        cases n5
      refine ⟨_, rfl, n, CN, dx, _, rfl, n5, R.cls, R.ns, (by show 3 < 1000; decide), ?_⟩
      have n6 : upd H5 n (.ins CN dx (putF "webs" (.ref L) (putF "row" (.str (S row)) (putF "web" (.str (S l)) (putF "book" (.ref r) []))))) n = some (.ins CN dx (putF "webs" (.ref L) (putF "row" (.str (S row)) (putF "web" (.str (S l)) (putF "book" (.ref r) []))))) := upd_same
      have L6 := (upd_ne (o := .ins CN dx (putF "webs" (.ref L) (putF "row" (.str (S row)) (putF "web" (.str (S l)) (putF "book" (.ref r) []))))) Ln).trans hL
      have s6 : ∀ b o, H b = some o → b ≠ n → upd H5 n (.ins CN dx (putF "webs" (.ref L) (putF "row" (.str (S row)) (putF "web" (.str (S l)) (putF "book" (.ref r) []))))) b = some o := fun b o e hb => (upd_ne hb).trans (s5 b o (s4 b o e hb))
      generalize upd H5 n (.ins CN dx (putF "webs" (.ref L) (putF "row" (.str (S row)) (putF "web" (.str (S l)) (putF "book" (.ref r) []))))) = H6 at n6 L6 s6 ⊢
      refine ⟨sz_le (n := 0) (by decide), fun Bf hB _ => ?_⟩
      have Bn : Bf ≠ n := by
        rintro rfl
        rw [n6] at hB
        cases hB
      have LB : L ≠ Bf := by
        rintro rfl
        rw [L6] at hB
        cases hB
      have t7 := same_new (o := HO.lst []) hB
      refine ⟨_, rfl, n, CN, dx, _, rfl, t7 _ _ n6, R.cls, R.nf, (by show 4 < 1000; decide), ?_⟩
      refine q _ Bf ⟨dx, L, [], upd_same.trans ?_, (upd_ne Ln).trans (t7 _ _ L6), (upd_ne Bn).trans upd_same, rfl, (fun i v o e => by cases e), hN L (by
        cases e : H L with
        | none => rfl
        | some o =>
          rw [s4 L o e Ln] at nL
          cases nL)⟩ ?_ (fun b o e hb => (upd_ne hb).trans (t7 _ _ (s6 b o e hb)))
      · exact congrArg (fun z => some (HO.ins CN dx z)) rfl
      · cases e : H Bf with
        | none => rfl
        | some o =>
          have := s6 Bf o e Bn
          rw [hB] at this
          cases this
    · exact Or.inr (Or.inl h)
    · exact Or.inr (Or.inr h)
theorem ok_undo {f : Addr} {fd : FuncData} (F : Fun K "undo" "Weaving.undo" s_Weaving_undo f fd) (R : WvC K CN) (T : BareT K mg "NothingToUndo" CU) :
    FnOk P w K mg base (L2.CX P w) 1 f fd ["self"] (spUndo K CN CU) := by
  refine F.okX sc_Weaving_undo (fun vs H Q E h => ?_) (fun cdv A outer s H vs Q E hr h => ?_)
  · obtain ⟨_, _, _, _, _, _, _, _, rfl, _⟩ := h
    rfl
  · obtain ⟨N, n, r, Bf, fs, w, row, olds, rfl, hw, h⟩ := h
    refine ⟨_, (pss_cons (ps_if (pt_not (pt_truth (pe_fld (pv 0) rfl) (by intro _; rfl))) (pss_one (L2.ps_raise rfl (takes_of rfl rfl rfl rfl) (pmk_exB PySem.F.excBase_Exception T.ex T.gC T.kC (raises_own T.exC T.tyC) rfl))) pss_nil)
      (pss_one (ps_asg (pe_bm0 PySem.F.plainAttrs_list PySem.F.slot_list_pop PySem.F.type_list_pop mt_pop (pe_fld (pv 0) rfl)) (pg_tup rfl (pgs_cons (pg_fld (pv 0)) (pgs_cons (pg_fld (pv 0)) pgs_nil)))))), ?_⟩
    obtain ⟨dx, L, us, h1, h2, h3, h4⟩ := hw.ex
    refine ⟨_, rfl, n, CN, dx, _, _, rfl, h1, R.cls, R.nf, wv_before, !us.isEmpty, Or.inl ⟨us, SqL.of h3, rfl⟩, ?_⟩
    rcases h with ⟨rfl, q⟩ | ⟨os, o, rfl, q⟩
    · have : us = [] := List.eq_nil_of_length_eq_zero h4.len
      subst this
      exact ifT rfl q
    · obtain ⟨us', v, rfl⟩ : ∃ a b, us = a ++ [b] := by
        rcases List.eq_nil_or_concat us with rfl | ⟨a, b, rfl⟩
        · have := h4.len
          rw [List.length_append] at this
          exact absurd this (by simp)
        · exact ⟨a, b, List.concat_eq_append⟩
      have hl := h4.len
      rw [List.length_append, List.length_append] at hl
      have hl' : us'.length = os.length := by
        have : us'.length + 1 = os.length + 1 := hl
        omega
      refine ifF (by cases us' <;> rfl) ?_
      obtain ⟨p, L2, rfl, hp, hL2, nL2⟩ := h4.at_ us'.length v o (by simp) (by rw [hl']; simp)
      have hlast : (us' ++ [V.ref p])[(us' ++ [V.ref p]).length - 1]? = some (.ref p) := by simp
      refine ⟨_, rfl, n, CN, dx, _, _, rfl, h1, R.cls, R.nf, wv_before, Or.inl ⟨rfl, _, SqL.of h3⟩, Bf, _, _, rfl, rfl, h3, hlast, ?_⟩
      rw [List.dropLast_concat]
      have Bn : Bf ≠ n := by
        rintro rfl
        rw [h1] at h3
        cases h3
      have kp : KpT K H (upd H Bf (.lst us')) := KpT.lst h3
      have LB : ∀ {L : Addr} {o' : List Nat}, H L = some (.lst (websV fs w o')) → L ≠ Bf := fun {L o'} e => by
        rintro rfl
        rw [h3] at e
        injection e with e
        injection e with e
        refine ne_websV (xs := us' ++ [V.ref p]) (fun x hx z => ?_) e.symm
        obtain ⟨i, hi⟩ : ∃ v0, (us' ++ [V.ref p])[0]? = some v0 := ⟨_, hx⟩
        have h0 : ∃ o0, (os ++ [o])[0]? = some o0 := by
          refine ⟨(os ++ [o])[0]'(by simp), List.getElem?_eq_getElem _⟩
        obtain ⟨o0, h0⟩ := h0
        obtain ⟨p0, _, e0, _⟩ := h4.at_ 0 x o0 hx h0
        rw [e0]
        exact fun z => nomatch z
      have g1 : upd H Bf (.lst us') n = some (.ins CN dx (wvF r w row L Bf)) := (upd_ne (Ne.symm Bn)).trans h1
      have g3 : upd H Bf (.lst us') Bf = some (.lst us') := upd_same
      have gp := kp _ _ hp
      have gL : upd H Bf (.lst us') L2 = some (.lst (websV fs w o)) := (upd_ne (LB hL2)).trans hL2
      have go : OldsAt K N (upd H Bf (.lst us')) L2 fs w us' os := ⟨hl', fun i v2 o2 a b => (h4.at_ i v2 o2 (by rw [List.getElem?_append_left (by rcases Nat.lt_or_ge i us'.length with z | z; exact z; rw [List.getElem?_eq_none z] at a; cases a)]; exact a) (by rw [List.getElem?_append_left (by rcases Nat.lt_or_ge i os.length with z | z; exact z; rw [List.getElem?_eq_none z] at b; cases b)]; exact b)).mv kp fun L o e => (upd_ne (LB e)).trans e, nL2⟩
      have off : Off n Bf H (upd H Bf (.lst us')) := fun b o e1 e2 e => (upd_ne e2).trans e
      generalize upd H Bf (.lst us') = H1 at g1 g3 gp gL go off ⊢
      refine ⟨p, _, rfl, gp, rfl, _, _, rfl, _, rfl, n, CN, dx, _, rfl, g1, R.cls, R.nr, (by show 5 < 1000; decide), ?_⟩
      refine ⟨_, _, rfl, _, rfl, n, CN, dx, _, rfl, upd_same, R.cls, R.ns, (by show 5 < 1000; decide), rfl, ?_⟩
      have L2n : L2 ≠ n := by
        rintro rfl
        rw [g1] at gL
        cases gL
      have kn : ∀ {G : Hp} {f1 f2 : List (Str × V)}, G n = some (.ins CN dx f1) → KpT K G (upd G n (.ins CN dx f2)) := by
        intro G f1 f2 e a xs hx
        have ne : ∀ {o : HO}, G a = some o → (∀ C d f, o ≠ .ins C d f) → upd G n (.ins CN dx f2) a = some o := fun {o} e2 nn => (upd_ne (fun z => by subst z; rw [e] at e2; cases e2; exact nn _ _ _ rfl)).trans e2
        rcases hx with (hx | ⟨o, hx⟩) | hx
        · exact Or.inl (Or.inl (ne hx fun _ _ _ z => nomatch z))
        · exact Or.inl (Or.inr ⟨o, ne hx fun _ _ _ z => nomatch z⟩)
        · exact Or.inr hx
      have nL : ∀ {G : Hp} {f1 f2 : List (Str × V)} {L : Addr} {xs : List V}, G n = some (.ins CN dx f1) → G L = some (.lst xs) → upd G n (.ins CN dx f2) L = some (.lst xs) := fun {G f1 f2 L xs} e1 e2 => (upd_ne (fun z => by subst z; rw [e1] at e2; cases e2)).trans e2
      refine q _ ⟨dx, L2, us', upd_same.trans (congrArg (fun z => some (HO.ins CN dx z)) rfl), nL upd_same (nL g1 gL), nL upd_same (nL g1 g3), (go.mv (kn g1) fun L o e => nL g1 e).mv (kn upd_same) fun L o e => nL upd_same e⟩ ?_
      intro b o e1 e2 e
      exact (upd_ne e1).trans ((upd_ne e1).trans (off b o e1 e2 e))
end
end Lw

namespace Lw
open PySem PySem.Spec PyProof.Rows L2 Mq
open SX (S)
/-! ### webs along a row that is changed -/
theorem led_append (fs : List Fd) (w a b : List Nat) : ledM fs w (a ++ b) = ledM fs (ledM fs w a) b := by
  unfold ledM
  exact List.foldl_append
theorem websV_nil (fs : List Fd) (w : List Nat) : websV fs w [] = [.str (S w)] := rfl
theorem websV_cons (fs : List Fd) (w : List Nat) (y : Nat) (row : List Nat) : websV fs w (y :: row) = .str (S w) :: websV fs (laidM fs w y) row := by
  unfold websV websM
  rw [List.length_cons, List.range_succ_eq_map, List.map_cons, List.map_cons, List.map_map, List.map_map, List.map_map]
  rfl
theorem websV_cat (fs : List Fd) (f : List Nat) : ∀ (a w : List Nat), websV fs w (a ++ f) = (websV fs w a).take a.length ++ websV fs (ledM fs w a) f
  | [], w => rfl
  | y :: a, w => by
    show websV fs w (y :: (a ++ f)) = _
    rw [websV_cons, websV_cons, websV_cat fs f a (laidM fs w y), List.length_cons, List.take_succ_cons]
    rfl
theorem websV_last (fs : List Fd) (w a : List Nat) : websV fs w a = (websV fs w a).take a.length ++ [.str (S (ledM fs w a))] := by
  have := websV_cat fs [] a w
  rw [List.append_nil] at this
  exact this
theorem websV_tl (fs : List Fd) (w a r : List Nat) : websV fs w (a ++ r) = websV fs w a ++ (websV fs (ledM fs w a) r).drop 1 := by
  rw [websV_cat]
  have e : ∀ x : List Nat, websV fs x r = .str (S x) :: (websV fs x r).drop 1 := fun x => by
    cases r with
    | nil => rfl
    | cons y r => rw [websV_cons]; rfl
  have h2 : websV fs w a ++ (websV fs (ledM fs w a) r).drop 1 = (websV fs w a).take a.length ++ ([.str (S (ledM fs w a))] ++ (websV fs (ledM fs w a) r).drop 1) := by
    rw [← List.append_assoc, ← websV_last fs w a]
  rw [h2]
  congr 1
  exact e (ledM fs w a)
theorem websV_snoc (fs : List Fd) (w a : List Nat) (y : Nat) : websV fs w (a ++ [y]) = websV fs w a ++ [.str (S (laidM fs (ledM fs w a) y))] := websV_tl fs w a [y]
theorem websV_drop {fs : List Fd} {w row : List Nat} {k : Nat} (h : k ≤ row.length) : (websV fs w row).drop (k + 1) = (websV fs (ledM fs w (row.take k)) (row.drop k)).drop 1 := by
  have e := websV_tl fs w (row.take k) (row.drop k)
  rw [List.take_append_drop] at e
  rw [e, List.drop_left' (by rw [websV_len, List.length_take]; omega)]
theorem websV_take {fs : List Fd} {w row : List Nat} {a : Nat} (h : a ≤ row.length) : (websV fs w row).take a = (websV fs w (row.take a)).take a := by
  have e := websV_tl fs w (row.take a) (row.drop a)
  rw [List.take_append_drop] at e
  rw [e, List.take_append_of_le_length (by rw [websV_len, List.length_take]; omega)]
/-- the row behind a change, as far as j letters of its rest -/
def curM (row : List Nat) (a b : Nat) (f : List Nat) (j : Nat) : List Nat := row.take a ++ f ++ (row.drop b).take j
def EqAtJ (fs : List Fd) (w row : List Nat) (a b : Nat) (f : List Nat) (j : Nat) : Prop := ledM fs w (curM row a b f j) = ledM fs w (row.take (b + j))
/-- how many letters at the end stand in the places they stood in -/
def IsMany (fs : List Fd) (w row : List Nat) (a b : Nat) (f : List Nat) (m : Int) : Prop :=
  (∃ j, j ≤ row.length - b ∧ (∀ i, i < j → ¬ EqAtJ fs w row a b f i) ∧ EqAtJ fs w row a b f j ∧ m = ((row.length - b - j : Nat) : Int)) ∨ ((∀ i, i ≤ row.length - b → ¬ EqAtJ fs w row a b f i) ∧ m = -1)
theorem IsMany.uniq {fs : List Fd} {w row f : List Nat} {a b : Nat} {m m' : Int} (h : IsMany fs w row a b f m) (h' : IsMany fs w row a b f m') : m = m' := by
  rcases h with ⟨j, h1, h2, h3, rfl⟩ | ⟨h1, rfl⟩
  · rcases h' with ⟨j', k1, k2, k3, rfl⟩ | ⟨k1, rfl⟩
    · have : j = j' := by
        rcases Nat.lt_trichotomy j j' with z | z | z
        · exact (k2 j z h3).elim
        · exact z
        · exact (h2 j' z k3).elim
      rw [this]
    · exact (k1 j h1 h3).elim
  · rcases h' with ⟨j', k1, k2, k3, rfl⟩ | ⟨k1, rfl⟩
    · exact (h1 j' k1 k3).elim
    · rfl
theorem webs_end {fs : List Fd} {w row f : List Nat} {a b j : Nat} (hb : b ≤ row.length) (hj : j ≤ row.length - b) (h : j = row.length - b ∨ EqAtJ fs w row a b f j) :
    websV fs w (curM row a b f j) ++ (websV fs w row).drop (b + j + 1) = websV fs w (row.take a ++ f ++ row.drop b) := by
  have e : row.take a ++ f ++ row.drop b = curM row a b f j ++ row.drop (b + j) := by
    unfold curM
    rw [List.append_assoc (row.take a ++ f)]
    congr 1
    rw [← List.drop_drop, List.take_append_drop]
  rw [e, websV_tl, websV_drop (by omega)]
  congr 1
  rcases h with rfl | h
  · have : row.drop (b + (row.length - b)) = [] := List.drop_eq_nil_of_le (by omega)
    rw [this, websV_nil, websV_nil]
    rfl
  · rw [h]
theorem cur_len {row f : List Nat} {a b j : Nat} (ha : a ≤ row.length) (hb : b ≤ row.length) (hj : j ≤ row.length - b) : (curM row a b f j).length = a + f.length + j := by
  unfold curM
  rw [List.length_append, List.length_append, List.length_take, List.length_take, List.length_drop]
  omega
theorem cur_succ {row f : List Nat} {a b j : Nat} (hb : b ≤ row.length) (hj : j < row.length - b) : curM row a b f (j + 1) = curM row a b f j ++ [(row.drop (b + j)).getD 0 0] := by
  unfold curM
  rw [List.append_assoc (row.take a ++ f)]
  congr 1
  rw [take_snoc (by rw [List.length_drop]; omega)]
  congr 2
  rw [List.getD_eq_getElem?_getD, List.getD_eq_getElem?_getD, List.getElem?_drop, List.getElem?_drop]
  rfl
end Lw

namespace Lw
open PySem PySem.Spec PyProof.Rows L2 Mq
open SX (S)
def spChange (K : PySem.W.Frag) (C CN CP CR : Addr) : Sp := fun vs H Q E => ∃ (N : Addr → Prop) (n r B fa ta : Addr) (sg : List Nat) (fs : List Fd) (w row : List Nat) (olds : List (List Nat)) (s e u : V), vs = [.ref n, s, e, u] ∧
  WvAt K H CN N n r B fs w row olds ∧ BkAt H C r sg fs fa ta ∧ FsOk sg fs ∧ w.length ≤ 300 ∧ row.length ≤ 300 ∧ olds.length ≤ 1000 ∧
  ((∃ (a b : Nat) (f : List Nat), s = .int (a : Nat) ∧ e = .int (b : Nat) ∧ u = .str (S f) ∧ a ≤ b ∧ b ≤ row.length ∧ (∀ c ∈ f, c ∈ sg) ∧ f.length ≤ 300 ∧ row.length + a + f.length ≤ 200 + b ∧ (∀ X, H X = none → N X) ∧
      ∀ H' m, IsMany fs w row a b f m → WvAt K H' CN N n r B fs w (row.take a ++ f ++ row.drop b) (olds ++ [row]) → Off n B H H' → Q (.int m) H') ∨
   (PlBadS K H s 0 row.length ∧ ∀ H' d, Same H H' → H' d = none → E (.ref CP) (some d) (upd H' d (.xd [("place", s)]))) ∨
   (∃ a : Nat, s = .int (a : Nat) ∧ a ≤ row.length ∧ PlBadS K H e a row.length ∧ ∀ H' d, Same H H' → H' d = none → E (.ref CP) (some d) (upd H' d (.xd [("place", e)]))) ∨
   (∃ a b : Nat, s = .int (a : Nat) ∧ e = .int (b : Nat) ∧ a ≤ b ∧ b ≤ row.length ∧ (BadS K H sg u ∨ ∃ f : List Nat, u = .str (S f) ∧ (∀ c ∈ f, c ∈ sg) ∧ f.length ≤ 1000 ∧ 200 + b < row.length + a + f.length) ∧
      ∀ H' d, Same H H' → H' d = none → E (.ref CR) (some d) (upd H' d (.xd [("thing", u)]))))
/-- whether the letters go on to be laid -/
def tOn (K : PySem.W.Frag) (CN : Addr) : TT := fun σ H Q => ∃ (n dx r L B L4 : Addr) (fs : List Fd) (w row cur left : List Nat), σ[0]? = some (some (.ref n)) ∧ σ[4]? = some (some (.ref L4)) ∧ σ[5]? = some (some (.str (S left))) ∧
  H n = some (.ins CN dx (wvF r w row L B)) ∧ H L = some (.lst (websV fs w row)) ∧ H L4 = some (.lst (websV fs w cur)) ∧ left.length ≤ row.length ∧ row.length ≤ 300 ∧
  Q (!decide (left = []) && !decide (ledM fs w cur = ledM fs w (row.take (row.length - left.length)))) H
theorem S_dec (a b : List Nat) : decide (V.str (S a) = V.str (S b)) = decide (a = b) := decide_eq_decide.mpr ⟨fun h => SX.S_inj (V.str.inj h), fun h => by rw [h]⟩
theorem cut_to {xs : List V} {a : Nat} : cutV xs none (some ((a : Nat) : Int)) = xs.take a := by
  unfold cutV
  rw [HT.sIx_nat, HT.sIx_none, List.drop_zero, Nat.sub_zero]
  rcases Nat.le_total a xs.length with h | h
  · rw [Nat.min_eq_left h]
  · rw [Nat.min_eq_right h, List.take_of_length_le h, List.take_of_length_le (Nat.le_refl _)]
theorem cut_from {xs : List V} {a : Nat} : cutV xs (some ((a : Nat) : Int)) none = xs.drop a := by
  unfold cutV
  rw [HT.sIx_nat, HT.sIx_none]
  rcases Nat.le_total a xs.length with h | h
  · rw [Nat.min_eq_left h]
    exact List.take_of_length_le (by rw [List.length_drop]; omega)
  · rw [Nat.min_eq_right h, List.drop_eq_nil_of_le h, List.drop_eq_nil_of_le (Nat.le_refl _)]
    exact List.take_nil
/-- how many letters stood -/
def tMany (CN : Addr) : TE := fun σ H Q => ∃ (n dx r L B L4 : Addr) (fs : List Fd) (w row f : List Nat) (a b j : Nat), σ[0]? = some (some (.ref n)) ∧ σ[4]? = some (some (.ref L4)) ∧ σ[5]? = some (some (.str (S (row.drop (b + j))))) ∧ σ[6]? = some (some (.int ((b + j : Nat) : Int))) ∧
  H n = some (.ins CN dx (wvF r w row L B)) ∧ H L = some (.lst (websV fs w row)) ∧ H L4 = some (.lst (websV fs w (curM row a b f j))) ∧ b ≤ row.length ∧ j ≤ row.length - b ∧ (∀ i, i < j → ¬ EqAtJ fs w row a b f i) ∧ (j = row.length - b ∨ EqAtJ fs w row a b f j) ∧ row.length ≤ 300 ∧
  ∀ m, IsMany fs w row a b f m → Q (.int m) H
def leftOf (σ : L2.St) : Nat := match σ[5]? with
  | some (some (V.str x)) => x.length
  | _ => 0
section
variable {P : Program} {w : World} {K : PySem.W.Frag} {mg : Str → Option Value} {base : Heap} {C CN CP CR : Addr}
theorem ok_change {f fK fW fB fI fE : Addr} {fd fdK fdW fdB fdI : FuncData} (F : Fun K "change" "Weaving.change" s_Weaving_change f fd) (B : Blt mg) (R : WvC K CN) (RB : BkC K C)
    (mK : Meth K CN "check_place" fK) (bK : Binds K fdK ["self", "thing", "least"] []) (GK : FnOk P w K mg base (L2.CX P w) 3 fK fdK ["self", "thing", "least"] (spPlace K CN CP))
    (FW : Fun K "is_word" "is_word" s_is_word fW fdW) (gW : mg "is_word" = some (.ref fW)) (bW : Binds K fdW ["letters", "thing"] []) (GW : FnOk P w K mg base CX0 1 fW fdW ["letters", "thing"] (spWord K))
    (FB : Fun K "webs_behind" "webs_behind" s_webs_behind fB fdB) (gB : mg "webs_behind" = some (.ref fB)) (bB : Binds K fdB ["book", "web", "row"] []) (GB : FnOk P w K mg base CX0 3 fB fdB ["book", "web", "row"] (spWebs C))
    (FI : Fun K "laid_behind" "laid_behind" s_laid_behind fI fdI) (gI : mg "laid_behind" = some (.ref fI)) (bI : Binds K fdI ["book", "web", "letter"] []) (GI : FnOk P w K mg base CX0 2 fI fdI ["book", "web", "letter"] (spBehind C))
    (gM : ∃ t, mg "MOST_LETTERS" = some (.int 200 t)) (T : MqE_thing.Txt K mg "BadRow" "BadRow.__init__" CR fE) :
    FnOk P w K mg base (L2.CX P w) 4 f fd ["self", "start", "end", "letters"] (spChange K C CN CP CR) := by
  obtain ⟨tM, gM⟩ := gM
  refine F.okX sc_Weaving_change (fun vs H Q E h => ?_) (fun cdv A outer s H vs Q E hr h => ?_)
  · obtain ⟨_, _, _, _, _, _, _, _, _, _, _, _, _, _, rfl, _⟩ := h
    rfl
  · obtain ⟨N, n, r, Bf, fa, ta, sg, fs, w, row, olds, s, e, u, rfl, hw, hb, hfs, hwl, hrl, hol, h⟩ := h
    refine ⟨_, (pss_cons (ps_expr (pe_meth (pv 0) R.cls mK GK (hr.mono (by decide)) bK .nil (passes_call (takes_of rfl rfl rfl rfl) (fun _ _ _ _ z => z)) (pa_cons (pv 1) (pa_cons pe_int pa_nil))))
      (pss_cons (ps_expr (pe_meth (pv 0) R.cls mK GK (hr.mono (by decide)) bK .nil (passes_call (takes_of rfl rfl rfl rfl) (fun _ _ _ _ z => z)) (pa_cons (pv 2) (pa_cons (pv 1) pa_nil))))
      (pss_cons (ps_if (PW.pt (pw_or (pt_not (pt_val (pe_call GW (hr.mono (by decide)) (by rfl) gW FW.kp bW .nil pass0 (pa_cons (pe_fld (pe_fld (pv 0) rfl) rfl) (pa_cons (pv 3) pa_nil))))) (pw_or1 (pt_cmpR op_gt (pe_op op_add (pe_op op_add (pe_op op_sub (pe_callB call_len (by rfl) B.len (by decide +kernel) (pa_cons (pe_fld (pv 0) rfl) pa_nil)) (pv 2)) (pv 1)) (pe_callB call_len (by rfl) B.len (by decide +kernel) (pa_cons (pv 3) pa_nil))) (pe_glob (v := .int 200) rfl gM ⟨_, rfl⟩) (nomark _))))) (pss_one (MqE_thing.ps_raise rfl T hr (takes_of rfl rfl rfl rfl) (pa_cons (pv 3) pa_nil))) pss_nil)
      (pss_cons (ps_expr (pe_bm PySem.F.plainAttrs_list PySem.F.slot_list_append PySem.F.type_list_append mt_append (pe_fld (pv 0) rfl) (pa_cons (pe_tup (pa_cons (pe_fld (pv 0) rfl) (pa_cons (pe_fld (pv 0) rfl) pa_nil))) pa_nil)))
      (pss_cons (ps_set (i := 4) sc_Weaving_change.nd rfl (Or.inl rfl) (pe_op op_cat (pe_slice sl_list (pe_fld (pv 0) rfl) po_none (po_some (pv 1))) (pe_call GB (hr.mono (by decide)) (by rfl) gB FB.kp bB .nil pass0 (pa_cons (pe_fld (pv 0) rfl) (pa_cons (pe_ix ix_list (pe_fld (pv 0) rfl) (pv 1) (fun _ _ => rfl)) (pa_cons (pv 3) pa_nil))))))
      (pss_cons (ps_set (i := 5) sc_Weaving_change.nd rfl (Or.inl rfl) (pe_slice C8.sl_txt (pe_fld (pv 0) rfl) (po_some (pv 2)) po_none))
      (pss_cons (ps_while (passes_of rfl) (PT_imp (t' := tOn K CN) (PW.pt (pw_and (pt_truth (pv 5) (by intro _; rfl)) (pw_and1 (pt_cmpR op_ne (pe_ix ix_list (pv 4) (pe_un un_neg pe_int) (fun _ _ => rfl)) (pe_ix ix_list (pe_fld (pv 0) rfl) (pe_op op_sub (pe_callB call_len (by rfl) B.len (by decide +kernel) (pa_cons (pe_fld (pv 0) rfl) pa_nil)) (pe_callB call_len (by rfl) B.len (by decide +kernel) (pa_cons (pv 5) pa_nil))) (fun _ _ => rfl)) (nomark _))))) (fun σ H Q h => ?tst))
        (pss_cons (ps_expr (pe_bm PySem.F.plainAttrs_list PySem.F.slot_list_append PySem.F.type_list_append mt_append (pv 4) (pa_cons (pe_call GI (hr.mono (by decide)) (by rfl) gI FI.kp bI .nil pass0 (pa_cons (pe_fld (pv 0) rfl) (pa_cons (pe_ix ix_list (pv 4) (pe_un un_neg pe_int) (fun _ _ => rfl)) (pa_cons (pe_ix ix_str (pv 5) pe_int (fun _ _ => rfl)) pa_nil)))) pa_nil)))
        (pss_one (ps_set (i := 5) sc_Weaving_change.nd rfl (Or.inl rfl) (pe_slice C8.sl_txt (pv 5) (po_some pe_int) po_none)))))
      (pss_cons (ps_set (i := 6) sc_Weaving_change.nd rfl (Or.inl rfl) (pe_op op_sub (pe_callB call_len (by rfl) B.len (by decide +kernel) (pa_cons (pe_fld (pv 0) rfl) pa_nil)) (pe_callB call_len (by rfl) B.len (by decide +kernel) (pa_cons (pv 5) pa_nil))))
      (pss_cons (ps_set (i := 7) sc_Weaving_change.nd rfl (Or.inl rfl) (PE_imp (t' := tMany CN) (pe_ifExp (pt_cmpR op_eq (pe_ix ix_list (pv 4) (pe_un un_neg pe_int) (fun _ _ => rfl)) (pe_ix ix_list (pe_fld (pv 0) rfl) (pv 6) (fun _ _ => rfl)) (nomark _)) (pe_callB call_len (by rfl) B.len (by decide +kernel) (pa_cons (pv 5) pa_nil)) (pe_un un_neg pe_int)) (fun σ H Q h => ?mny)))
      (pss_cons (ps_fld (pv 0) (pe_op op_add_str (pe_op op_add_str (pe_slice C8.sl_txt (pe_fld (pv 0) rfl) po_none (po_some (pv 1))) (pv 3)) (pe_slice C8.sl_txt (pe_fld (pv 0) rfl) (po_some (pv 2)) po_none)) rfl)
      (pss_cons (ps_fld (pv 0) (pe_op op_cat (pv 4) (pe_slice sl_list (pe_fld (pv 0) rfl) (po_some (pe_op op_add (pv 6) pe_int)) po_none)) rfl)
      (pss_one (ps_ret (pv 7)))))))))))))), ?_⟩
    case tst =>
      obtain ⟨n, dx, r, L, B, L4, fs, w, row, cur, left, e0, e4, e5, h1, h2, h3, hl, hr, q⟩ := h
      have hz : (S left).length ≤ sizeLine := by
        rw [SX.S_len]
        exact sz_le (by omega)
      refine ⟨_, e5, ((S left).length : Int) != 0, ⟨hz, rfl⟩, ?_⟩
      cases left with
      | nil => exact ifF (by decide) q
      | cons y left =>
        refine ifT (by rw [SX.S_len, List.length_cons]; simp; omega) ?_
        have h3' := h3
        rw [websV_last] at h3'
        have ei : ((row.length : Nat) : Int) - (((y :: left).length : Nat) : Int) = ((row.length - (y :: left).length : Nat) : Int) := by omega
        refine ⟨_, e4, _, rfl, L4, _, -1, _, rfl, rfl, SqL.of h3', atI_last _ _, ?_⟩
        refine ⟨_, e0, n, CN, dx, _, _, rfl, h1, R.cls, R.ns, wv_webs, _, e0, n, CN, dx, _, _, rfl, h1, R.cls, R.nr, wv_row, _, _, rfl, len_S (by omega), _, e5, _, _, rfl, len_S (by omega), _, _, rfl, rfl, L, _, _, _, rfl, rfl, SqL.of h2, (by rw [ei]; exact atI_nat (websV_at (Nat.sub_le _ _))), rfl, _, rfl, ?_⟩
        rw [S_dec]
        exact q
    case mny =>
      obtain ⟨n, dx, r, L, B, L4, fs, w, row, f, a, b, j, e0, e4, e5, e6, h1, h2, h3, hb, hj, hno, hyes, hrl, q⟩ := h
      have h3' := h3
      rw [websV_last] at h3'
      refine ⟨_, e4, _, rfl, L4, _, -1, _, rfl, rfl, SqL.of h3', atI_last _ _, ?_⟩
      refine ⟨_, e0, n, CN, dx, _, _, rfl, h1, R.cls, R.ns, wv_webs, _, e6, L, _, _, _, rfl, rfl, SqL.of h2, atI_nat (websV_at (show b + j ≤ row.length by omega)), rfl, _, rfl, ?_⟩
      rw [S_dec]
      refine ite2 (fun hc => ?_) (fun hc => ?_)
      · have hE : ledM fs w (curM row a b f j) = ledM fs w (row.take (b + j)) := of_decide_eq_true hc
        refine ⟨_, e5, _, _, rfl, len_S (by rw [List.length_drop]; omega), q _ (Or.inl ⟨j, hj, hno, hE, ?_⟩)⟩
        rw [List.length_drop, Nat.sub_sub]
      · have hE : ¬ EqAtJ fs w row a b f j := fun z => hc (decide_eq_true (show ledM fs w (curM row a b f j) = ledM fs w (row.take (b + j)) from z))
        refine ⟨_, rfl, q (-1) (Or.inr ⟨fun i hi => ?_, rfl⟩)⟩
        rcases hyes with rfl | z
        · rcases Nat.lt_or_ge i (row.length - b) with z | z
          · exact hno i z
          · have : i = row.length - b := by omega
            rw [this]
            exact hE
        · exact (hE z).elim
    obtain ⟨dx, L, us, h1, h2, h3, h4⟩ := hw.ex
    obtain ⟨⟨dr, hb1⟩, hb2⟩ := id hb
    refine ⟨_, rfl, n, dx, _, rfl, h1, rfl, _, rfl, _, n, r, Bf, fs, w, row, olds, s, 0, rfl, hw, hrl, ?_⟩
    have raise : ∀ H1, Same H H1 → (∀ H' d, Same H H' → H' d = none → E (.ref CR) (some d) (upd H' d (.xd [("thing", u)]))) → (∃ v', [u] = [v'] ∧ ∀ d, H1 d = none → E (.ref CR) (some d) (upd H1 d (.xd [("thing", v')]))) := fun H1 s1 q => ⟨u, rfl, fun d hd => q H1 d s1 hd⟩
    rcases h with ⟨a, b, f, rfl, rfl, rfl, hab, hbl, hf, hfl, hsum, hN, q⟩ | ⟨hbad, q⟩ | ⟨a, rfl, ha, hbad, q⟩ | ⟨a, b, rfl, rfl, hab, hbl, hbad, q⟩
    · refine Or.inl ⟨a, rfl, Nat.zero_le _, by omega, fun H1 s1 => ?_⟩
      refine ⟨_, rfl, n, dx, _, rfl, s1 _ _ h1, rfl, _, rfl, _, rfl, _, n, r, Bf, fs, w, row, olds, _, a, rfl, hw.same s1, hrl, Or.inl ⟨b, rfl, hab, hbl, fun H2 s2 => ?_⟩⟩
      have s02 := s1.trans s2
      have bk2 := s02 _ _ hb1
      refine ⟨_, rfl, n, CN, dx, _, _, rfl, s02 _ _ h1, R.cls, R.nb, wv_book, r, C, dr, _, _, rfl, bk2, RB.cls, RB.nL, rfl, _, rfl, sg, _, rfl, Or.inl ⟨f, rfl, by omega, fun H3 s3 => ⟨_, rfl, ?_⟩⟩⟩
      rw [allB_of hf]
      have s03 := s02.trans s3
      refine ifF rfl ⟨_, rfl, n, CN, dx, _, _, rfl, s03 _ _ h1, R.cls, R.nr, wv_row, _, _, rfl, len_S (by omega), _, rfl, _, _, rfl, rfl, _, rfl, _, _, rfl, rfl, _, rfl, _, _, rfl, len_S (by omega), _, _, rfl, rfl, _, _, rfl, rfl, _, rfl, ifF (decide_eq_false (by omega)) ?_⟩
      have g1 := s03 _ _ h1
      have gL := s03 _ _ h2
      have gB := s03 _ _ h3
      have go := h4.mv (KpT.same s03) fun L o e => s03 _ _ e
      have gb := hb.same s03
      refine ⟨_, rfl, n, CN, dx, _, _, rfl, g1, R.cls, R.nf, wv_before, Or.inl ⟨rfl, _, SqL.of gB⟩, _, rfl, n, CN, dx, _, _, rfl, g1, R.cls, R.nr, wv_row, _, rfl, n, CN, dx, _, _, rfl, g1, R.cls, R.ns, wv_webs, sz_le (n := 2) (by decide), fun p hp => ?_⟩
      have t4 := same_new (o := HO.tup [V.str (S row), V.ref L]) hp
      have gp : SqT K (upd H3 p (.tup [V.str (S row), V.ref L])) p [V.str (S row), V.ref L] := Or.inl (Or.inl upd_same)
      have g1 := t4 _ _ g1
      have gL := t4 _ _ gL
      have gB := t4 _ _ gB
      have go := go.mv (KpT.same t4) fun L o e => t4 _ _ e
      have gb := gb.same t4
      have s04 := s03.trans t4
      generalize upd H3 p (.tup [V.str (S row), V.ref L]) = H4 at gp g1 gL gB go gb s04 ⊢
      have hul : us.length ≤ 1000 := by rw [h4.len]; exact hol
      refine ⟨Bf, _, _, rfl, rfl, gB, sz_lt (by omega), ?_⟩
      have LB : ∀ {L : Addr} {o' : List Nat}, H4 L = some (.lst (websV fs w o')) → L ≠ Bf := fun {L o'} e => by
        rintro rfl
        rw [gB] at e
        injection e with e
        injection e with e
        refine ne_websV (xs := us) (fun x hx z => ?_) e.symm
        have h0 : 0 < us.length := by
          rcases Nat.eq_zero_or_pos us.length with z | z
          · rw [List.getElem?_eq_none (by omega)] at hx
            cases hx
          · exact z
        rw [go.len] at h0
        obtain ⟨p0, _, e0, _⟩ := go.at_ 0 x _ hx (List.getElem?_eq_getElem h0)
        rw [e0]
        exact fun z => nomatch z
      have Bn : Bf ≠ n := by
        rintro rfl
        rw [g1] at gB
        cases gB
      have rB : r ≠ Bf := by
        rintro rfl
        have := gb.1
        rw [gB] at this
        obtain ⟨_, this⟩ := this
        cases this
      have tB : ta ≠ Bf := by
        rintro rfl
        have := gb.2
        rw [gB] at this
        cases this
      have kp : KpT K H4 (upd H4 Bf (.lst (us ++ [V.ref p]))) := KpT.lst gB
      have g1 : upd H4 Bf (.lst (us ++ [V.ref p])) n = _ := (upd_ne (Ne.symm Bn)).trans g1
      have go : OldsAt K N (upd H4 Bf (.lst (us ++ [V.ref p]))) L fs w (us ++ [V.ref p]) (olds ++ [row]) := by
        refine ⟨by rw [List.length_append, List.length_append, go.len]; rfl, fun i v o e1 e2 => ?_, go.far⟩
        rcases Nat.lt_or_ge i us.length with z | z
        · rw [List.getElem?_append_left z] at e1
          rw [List.getElem?_append_left (by rw [← go.len]; exact z)] at e2
          exact (go.at_ i v o e1 e2).mv kp fun L o e => (upd_ne (LB e)).trans e
        · rw [List.getElem?_append_right z] at e1
          rw [List.getElem?_append_right (by rw [← go.len]; exact z), ← go.len] at e2
          rcases Nat.eq_zero_or_pos (i - us.length) with z2 | z2
          · rw [z2] at e1 e2
            cases e1
            cases e2
            exact ⟨p, L, rfl, kp _ _ gp, (upd_ne (LB gL)).trans gL, go.far⟩
          · rw [List.getElem?_eq_none (by simp; omega)] at e1
            cases e1
      have gL : upd H4 Bf (.lst (us ++ [V.ref p])) L = _ := (upd_ne (LB gL)).trans gL
      have gb : BkAt (upd H4 Bf (.lst (us ++ [V.ref p]))) C r sg fs fa ta := ⟨gb.1.imp fun d e => (upd_ne rB).trans e, (upd_ne tB).trans gb.2⟩
      have gB : upd H4 Bf (.lst (us ++ [V.ref p])) Bf = some (.lst (us ++ [V.ref p])) := upd_same
      have off5 : Off n Bf H (upd H4 Bf (.lst (us ++ [V.ref p]))) := fun b o e1 e2 e => (upd_ne e2).trans (s04 b o e)
      generalize upd H4 Bf (.lst (us ++ [V.ref p])) = H5 at g1 gL gB go gb off5 ⊢
      clear kp gp s04 LB s03 s02 s1 s2 s3 bk2
      refine ⟨_, rfl, n, CN, dx, _, _, rfl, g1, R.cls, R.ns, wv_webs, _, rfl, _, rfl, L, _, rfl, SqL.of gL, fun q1 hq1 => ?_⟩
      rw [cut_to]
      have t6 := same_new (o := HO.lst ((websV fs w row).take a)) hq1
      have zq : upd H5 q1 (.lst ((websV fs w row).take a)) q1 = some (.lst ((websV fs w row).take a)) := upd_same
      generalize upd H5 q1 (.lst ((websV fs w row).take a)) = H6 at t6 zq ⊢
      obtain ⟨⟨dr5, gb1⟩, gb2⟩ := id gb
      have hal : a ≤ row.length := by omega
      have hlw := led_len hfs (row.take a) w
      rw [List.length_take] at hlw
      refine ⟨_, rfl, n, CN, dx, _, _, rfl, t6 _ _ g1, R.cls, R.nb, wv_book, _, rfl, n, CN, dx, _, _, rfl, t6 _ _ g1, R.cls, R.ns, wv_webs, _, rfl, L, _, (a : Nat), _, rfl, rfl, SqL.of (t6 _ _ gL), atI_nat (websV_at hal), _, rfl, r, fa, ta, sg, ledM fs w (row.take a), f, fs, rfl, gb.same t6, hfs, by omega, by omega, fun H7 L7 s7 _ hL7 => ?_⟩
      have hL7 : H7 L7 = some (.lst (websV fs (ledM fs w (row.take a)) f)) := hL7
      refine ⟨q1, L7, _, _, rfl, rfl, s7 _ _ zq, hL7, sz_le (by rw [List.length_take, websV_len, websV_len]; omega), fun L8 hL8 => ?_⟩
      have ecat : (websV fs w row).take a ++ websV fs (ledM fs w (row.take a)) f = websV fs w (curM row a b f 0) := by
        have h0 : curM row a b f 0 = row.take a ++ f := by
          unfold curM
          rw [List.take_zero, List.append_nil]
        rw [h0, websV_cat, websV_take hal, List.length_take, Nat.min_eq_left hal]
      rw [ecat]
      have t57 := t6.trans s7
      have hL85 : H5 L8 = none := t57.free hL8
      have t8 := same_new (o := HO.lst (websV fs w (curM row a b f 0))) hL8
      have zL8 : upd H7 L8 (.lst (websV fs w (curM row a b f 0))) L8 = some (.lst (websV fs w (curM row a b f 0))) := upd_same
      have t58 := t57.trans t8
      generalize upd H7 L8 (.lst (websV fs w (curM row a b f 0))) = H8 at t58 zL8 ⊢
      have lens : ∀ u : List Nat, u.length ≤ 2000 → (S u).length ≤ sizeLine := fun u hu => by
        rw [SX.S_len]
        exact sz_le (by omega)
      refine ⟨_, rfl, n, CN, dx, _, _, rfl, t58 _ _ g1, R.cls, R.nr, wv_row, _, rfl, _, rfl, S row, rfl, lens row (by omega), ?_⟩
      rw [SX.slice_from (by omega : (0 : Int) ≤ ((b : Nat) : Int)), Int.toNat_natCast]
      refine while_by (fun σ H' => ∃ j, j ≤ row.length - b ∧ (∀ i, i < j → ¬ EqAtJ fs w row a b f i) ∧ Same H5 H' ∧ H' L8 = some (.lst (websV fs w (curM row a b f j))) ∧ σ = [some (.ref n), some (.int (a : Nat)), some (.int (b : Nat)), some (.str (S f)), some (.ref L8), some (.str (S (row.drop (b + j)))), none, none])
        (fun σ _ => leftOf σ) ⟨0, Nat.zero_le _, (fun i hi => absurd hi (Nat.not_lt_zero _)), t58, zL8, rfl⟩ ?_ ?_
      · rintro σ G ⟨j, hj, hno, sG, zG, rfl⟩
        have hlj : (row.drop (b + j)).length = row.length - (b + j) := List.length_drop
        refine ⟨n, dx, r, L, Bf, L8, fs, w, row, _, row.drop (b + j), rfl, rfl, rfl, sG _ _ g1, sG _ _ gL, zG, by omega, hrl, ite2 (fun hc => ?_) (fun hc => ?_)⟩
        · obtain ⟨c1, c2⟩ := Bool.and_eq_true_iff.mp hc
          have hj1 : j < row.length - b := by
            rcases Nat.lt_or_ge j (row.length - b) with z | z
            · exact z
            · have : row.drop (b + j) = [] := List.drop_eq_nil_of_le (by omega)
              rw [this] at c1
              cases c1
          have hne : ¬ EqAtJ fs w row a b f j := fun z => by
            have z' : ledM fs w (curM row a b f j) = ledM fs w (row.take (row.length - (row.drop (b + j)).length)) := by
              rw [hlj, show row.length - (row.length - (b + j)) = b + j by omega]
              exact z
            rw [decide_eq_true z'] at c2
            cases c2
          have zl := zG
          rw [websV_last] at zl
          have hcl := cur_len (f := f) hal hbl hj
          have hlw := led_len hfs (curM row a b f j) w
          refine ⟨_, rfl, Or.inl ⟨rfl, _, SqL.of zG⟩, _, rfl, n, CN, dx, _, _, rfl, sG _ _ g1, R.cls, R.nb, wv_book, _, rfl, _, rfl, L8, _, -1, _, rfl, rfl, SqL.of zl, atI_last _ _, _, rfl, S (row.drop (b + j)), 0, (row.drop (b + j)).getD 0 0, rfl, rfl, lens _ (by omega), at_get (k := 0) (by omega), r, fa, ta, sg, ledM fs w (curM row a b f j), fs, (row.drop (b + j)).getD 0 0, rfl, gb.same sG, hfs, by omega, fun G2 sG2 => ?_⟩
          refine ⟨L8, _, _, rfl, rfl, sG2 _ _ zG, sz_lt (by rw [websV_len]; omega), ?_⟩
          refine ⟨_, rfl, 1, rfl, S (row.drop (b + j)), rfl, lens _ (by omega), ?_⟩
          rw [SX.slice_from (by decide : (0 : Int) ≤ 1), ← websV_snoc, ← cur_succ hbl hj1, show (1 : Int).toNat = 1 from rfl, List.drop_drop]
          refine ⟨⟨j + 1, hj1, fun i hi => ?_, push_same hL85 (sG.trans sG2), upd_same, rfl⟩, ?_⟩
          · rcases Nat.lt_or_ge i j with z | z
            · exact hno i z
            · have : i = j := by omega
              rw [this]
              exact hne
          · show (S (row.drop (b + j + 1))).length < (S (row.drop (b + j))).length
            rw [SX.S_len, SX.S_len, List.length_drop, List.length_drop]
            omega
        · have hyes : j = row.length - b ∨ EqAtJ fs w row a b f j := by
            rcases Nat.lt_or_ge j (row.length - b) with z | z
            · right
              cases e : decide (ledM fs w (curM row a b f j) = ledM fs w (row.take (row.length - (row.drop (b + j)).length))) with
              | true =>
                have e' := of_decide_eq_true e
                rw [hlj, show row.length - (row.length - (b + j)) = b + j by omega] at e'
                exact e'
              | false =>
                refine (hc ?_).elim
                rw [e, decide_eq_false (show ¬ row.drop (b + j) = [] from fun z2 => by rw [z2] at hlj; simp at hlj; omega)]
                rfl
            · left
              omega
          have epl : ((row.length : Nat) : Int) - (((row.drop (b + j)).length : Nat) : Int) = ((b + j : Nat) : Int) := by omega
          refine ⟨_, rfl, n, CN, dx, _, _, rfl, sG _ _ g1, R.cls, R.nr, wv_row, _, _, rfl, len_S (by omega), _, rfl, _, _, rfl, len_S (by omega), _, _, rfl, rfl, ?_⟩
          refine ⟨n, dx, r, L, Bf, L8, fs, w, row, f, a, b, j, rfl, rfl, rfl, congrArg (fun z => some (some (V.int z))) epl, sG _ _ g1, sG _ _ gL, zG, hbl, hj, hno, hyes, hrl, fun m hm => ?_⟩
          refine ⟨_, rfl, n, CN, dx, _, _, rfl, sG _ _ g1, R.cls, R.nr, wv_row, _, rfl, _, rfl, S row, rfl, lens row (by omega), ?_⟩
          rw [SX.slice_to (by omega : (0 : Int) ≤ ((a : Nat) : Int)), Int.toNat_natCast]
          refine ⟨_, rfl, S (row.take a), S f, rfl, rfl, ?_, ?_⟩
          · rw [SX.S_len, SX.S_len, List.length_take]
            exact sz_le (by omega)
          rw [SX.S_cat]
          refine ⟨_, rfl, n, CN, dx, _, _, rfl, sG _ _ g1, R.cls, R.nr, wv_row, _, rfl, _, rfl, S row, rfl, lens row (by omega), ?_⟩
          rw [SX.slice_from (by omega : (0 : Int) ≤ ((b : Nat) : Int)), Int.toNat_natCast]
          refine ⟨S (row.take a ++ f), S (row.drop b), rfl, rfl, ?_, ?_⟩
          · rw [SX.S_len, SX.S_len, List.length_append, List.length_take, List.length_drop]
            exact sz_le (by omega)
          rw [SX.S_cat]
          refine ⟨_, rfl, n, CN, dx, _, rfl, sG _ _ g1, R.cls, R.nr, (by show 5 < 1000; decide), ?_⟩
          have kn : ∀ {G : Hp} {f1 f2 : List (Str × V)}, G n = some (.ins CN dx f1) → KpT K G (upd G n (.ins CN dx f2)) := by
            intro G f1 f2 e a xs hx
            have ne : ∀ {o : HO}, G a = some o → (∀ C d f, o ≠ .ins C d f) → upd G n (.ins CN dx f2) a = some o := fun {o} e2 nn => (upd_ne (fun z => by subst z; rw [e] at e2; cases e2; exact nn _ _ _ rfl)).trans e2
            rcases hx with (hx | ⟨o, hx⟩) | hx
            · exact Or.inl (Or.inl (ne hx fun _ _ _ z => nomatch z))
            · exact Or.inl (Or.inr ⟨o, ne hx fun _ _ _ z => nomatch z⟩)
            · exact Or.inr hx
          have nL : ∀ {G : Hp} {f1 f2 : List (Str × V)} {L : Addr} {xs : List V}, G n = some (.ins CN dx f1) → G L = some (.lst xs) → upd G n (.ins CN dx f2) L = some (.lst xs) := fun {G f1 f2 L xs} e1 e2 => (upd_ne (fun z => by subst z; rw [e1] at e2; cases e2)).trans e2
          have gn := sG _ _ g1
          have gl := sG _ _ gL
          have gbf := sG _ _ gB
          have goo := go.mv (KpT.same sG) fun L o e => sG _ _ e
          have offG : Off n Bf H G := fun b o e1 e2 e => sG _ _ (off5 b o e1 e2 e)
          have goo2 := goo.mv (kn (f2 := putF "row" (.str (S (row.take a ++ f ++ row.drop b))) (wvF r w row L Bf)) gn) fun L o e => nL gn e
          have gl2 := nL (f2 := putF "row" (.str (S (row.take a ++ f ++ row.drop b))) (wvF r w row L Bf)) gn gl
          have gbf2 := nL (f2 := putF "row" (.str (S (row.take a ++ f ++ row.drop b))) (wvF r w row L Bf)) gn gbf
          have zG2 := nL (f2 := putF "row" (.str (S (row.take a ++ f ++ row.drop b))) (wvF r w row L Bf)) gn zG
          have off2 : Off n Bf H (upd G n (.ins CN dx (putF "row" (.str (S (row.take a ++ f ++ row.drop b))) (wvF r w row L Bf)))) := fun b o e1 e2 e => (upd_ne e1).trans (offG b o e1 e2 e)
          have gn2 : upd G n (.ins CN dx (putF "row" (.str (S (row.take a ++ f ++ row.drop b))) (wvF r w row L Bf))) n = some (.ins CN dx (wvF r w (row.take a ++ f ++ row.drop b) L Bf)) := upd_same.trans (congrArg (fun z => some (HO.ins CN dx z)) rfl)
          generalize upd G n (.ins CN dx (putF "row" (.str (S (row.take a ++ f ++ row.drop b))) (wvF r w row L Bf))) = G2 at goo2 gl2 gbf2 zG2 off2 gn2 ⊢
          have e1 : ((row.length : Nat) : Int) - (((row.drop (b + j)).length : Nat) : Int) + 1 = ((b + j + 1 : Nat) : Int) := by omega
          refine ⟨_, rfl, _, rfl, n, CN, dx, _, _, rfl, gn2, R.cls, R.ns, wv_webs, _, rfl, _, _, rfl, rfl, ((b + j + 1 : Nat) : Int), congrArg V.int e1, L, _, rfl, SqL.of gl2, fun q2 hq2 => ?_⟩
          rw [cut_from]
          have t3 := same_new (o := HO.lst ((websV fs w row).drop (b + j + 1))) hq2
          have zq2 : upd G2 q2 (.lst ((websV fs w row).drop (b + j + 1))) q2 = some (.lst ((websV fs w row).drop (b + j + 1))) := upd_same
          generalize upd G2 q2 (.lst ((websV fs w row).drop (b + j + 1))) = G3 at t3 zq2 ⊢
          have hcl := cur_len (f := f) hal hbl hj
          refine ⟨L8, q2, _, _, rfl, rfl, t3 _ _ zG2, zq2, sz_le (by rw [websV_len, List.length_drop, websV_len]; omega), fun L9 hL9 => ?_⟩
          rw [webs_end hbl hj hyes]
          have t4 := same_new (o := HO.lst (websV fs w (row.take a ++ f ++ row.drop b))) hL9
          have zL9 : upd G3 L9 (.lst (websV fs w (row.take a ++ f ++ row.drop b))) L9 = some (.lst (websV fs w (row.take a ++ f ++ row.drop b))) := upd_same
          have t24 := t3.trans t4
          generalize upd G3 L9 (.lst (websV fs w (row.take a ++ f ++ row.drop b))) = G4 at t24 zL9 ⊢
          have gn4 := t24 _ _ gn2
          refine ⟨_, rfl, n, CN, dx, _, rfl, gn4, R.cls, R.ns, (by show 5 < 1000; decide), ?_⟩
          have nL9 : H L9 = none := by
            cases e : H L9 with
            | none => rfl
            | some o =>
              have z1 : L9 ≠ n := fun z => by subst z; rw [t3 _ _ gn2] at hL9; cases hL9
              have z2 : L9 ≠ Bf := fun z => by subst z; rw [t3 _ _ gbf2] at hL9; cases hL9
              rw [t3 _ _ (off2 L9 o z1 z2 e)] at hL9
              cases hL9
          have oo := (goo2.mv (KpT.same t24) fun L o e => t24 _ _ e).mv (kn (f2 := putF "webs" (.ref L9) (wvF r w (row.take a ++ f ++ row.drop b) L Bf)) gn4) fun L o e => nL gn4 e
          refine ⟨_, rfl, q _ m hm ⟨dx, L9, _, upd_same.trans (congrArg (fun z => some (HO.ins CN dx z)) rfl), nL gn4 zL9, nL gn4 (t24 _ _ gbf2), oo.len, oo.at_, hN L9 nL9⟩ fun b o e1 e2 e => (upd_ne e1).trans (t24 _ _ (off2 b o e1 e2 e))⟩
      · rintro σ G Q1 Q2 hq ⟨n, dx, r, L, B, L4, fs, w, row, cur, left, a1, a2, a3, a4, a5, a6, a7, a8, a9⟩
        exact ⟨n, dx, r, L, B, L4, fs, w, row, cur, left, a1, a2, a3, a4, a5, a6, a7, a8, hq _ _ a9⟩
    · exact Or.inr ⟨hbad, q⟩
    · refine Or.inl ⟨a, rfl, Nat.zero_le _, ha, fun H1 s1 => ?_⟩
      exact ⟨_, rfl, n, dx, _, rfl, s1 _ _ h1, rfl, _, rfl, _, rfl, _, n, r, Bf, fs, w, row, olds, _, a, rfl, hw.same s1, hrl, Or.inr ⟨hbad.same s1, fun H' d s' hd => q H' d (s1.trans s') hd⟩⟩
    · refine Or.inl ⟨a, rfl, Nat.zero_le _, by omega, fun H1 s1 => ?_⟩
      refine ⟨_, rfl, n, dx, _, rfl, s1 _ _ h1, rfl, _, rfl, _, rfl, _, n, r, Bf, fs, w, row, olds, _, a, rfl, hw.same s1, hrl, Or.inl ⟨b, rfl, hab, hbl, fun H2 s2 => ?_⟩⟩
      have s02 := s1.trans s2
      refine ⟨_, rfl, n, CN, dx, _, _, rfl, s02 _ _ h1, R.cls, R.nb, wv_book, r, C, dr, _, _, rfl, s02 _ _ hb1, RB.cls, RB.nL, rfl, _, rfl, sg, u, rfl, ?_⟩
      rcases hbad with hbad | ⟨f, rfl, hf, hfl, hsum⟩
      · rcases hbad H2 s02 with ⟨l, hv, hl, ha⟩ | hn
        · refine Or.inl ⟨l, hv, by omega, fun H3 s3 => ⟨_, rfl, ?_⟩⟩
          rw [ha]
          exact ifT rfl ⟨_, rfl, raise H3 (s02.trans s3) q⟩
        · exact Or.inr ⟨hn, fun H3 s3 => ⟨_, rfl, ifT rfl ⟨_, rfl, raise H3 (s02.trans s3) q⟩⟩⟩
      · refine Or.inl ⟨f, rfl, by omega, fun H3 s3 => ⟨_, rfl, ?_⟩⟩
        rw [allB_of hf]
        have s03 := s02.trans s3
        exact ifF rfl ⟨_, rfl, n, CN, dx, _, _, rfl, s03 _ _ h1, R.cls, R.nr, wv_row, _, _, rfl, len_S (by omega), _, rfl, _, _, rfl, rfl, _, rfl, _, _, rfl, rfl, _, rfl, _, _, rfl, len_S (by omega), _, _, rfl, rfl, _, _, rfl, rfl, _, rfl, ifT (decide_eq_true (by omega)) ⟨_, rfl, raise H3 s03 q⟩⟩
end
end Lw

namespace Mq
open PySem PySem.Spec PyProof.Rows L2
/-! ### several except clauses, each with the same name -/
/-- the ends behind a suite whose name in slot i goes -/
def backI (D : Ends) (i : Nat) : Ends := ⟨fun τ G => D.nx (τ.set i none) G, D.rt, fun τ G => D.bk (τ.set i none) G, fun τ G => D.ct (τ.set i none) G⟩
def wAll (K : PySem.W.Frag) (i : Nat) (Wo : WX) (D : Ends) : List (Value × (Addr → Value → Option Addr → TS)) → WX
  | [] => Wo
  | p :: ps => fun cl fd τ G => ∃ b, PySem.W.exmOne K cl p.1 = some b ∧ (b = true → ∀ ea, G ea = none → p.2 ea cl fd (backI D i) (τ.set i (some (.ref ea))) G) ∧ (b = false → wAll K i Wo D ps cl fd τ G)
inductive HdsN (X : Cx) (n : Str) : List ExceptHandler → List (Value × (Addr → Value → Option Addr → TS)) → Prop
  | nil : HdsN X n [] []
  | cons {x : Str} {c : Value} {ts : Addr → Value → Option Addr → TS} {s₀ : Stmt} {sts : List Stmt} {np hp : Pos} {hds : List ExceptHandler} {l : List (Value × (Addr → Value → Option Addr → TS))} (nm : Names X x c)
      (su : ∀ (ea : Addr) (eo : Obj) (cl : Value) (fd : Option Addr) (pn : List (Addr × Obj)), Zc cl fd eo → (∃ vs, eo.data = .fields vs) → PSs (X.suite ea ((ea, eo) :: pn)) (s₀ :: sts) (ts ea cl fd)) (rest : HdsN X n hds l) :
      HdsN X n (.ExceptHandler (some (.Name x np)) (some n) (s₀ :: sts) hp :: hds) ((c, ts) :: l)
section
variable {X : Cx} {n : Str} {i : Nat} {bd : List Stmt} {hd1 : ExceptHandler} {hds : List ExceptHandler} {l : List (Value × (Addr → Value → Option Addr → TS))} {pos : Pos} {tb : WX → TS} {Wo : WX}
theorem ps_try_all (st1 : X.stack = X.env :: X.outer) (fr1 : X.env.frame = some X.env.locals) (nd1 : X.N.Nodup) (at1 : X.N[i]? = some n) (loc1 : X.env.kindOf n = some .local) (tk : Takes X Wo)
    (body : ∀ (W : WX) (pn : List (Addr × Obj)) (xe : Value → Shared → Prop), Takes (X.tr pn xe) W → PassesOwn (model X.prog X.w) X.A X.env xe → PSs (X.tr pn xe) bd (tb W))
    (hh : HdsN X n (hd1 :: hds) l) : PS X (.Try bd (hd1 :: hds) [] [] pos) (fun D τ G => tb (wAll X.K i Wo D l) D τ G) := by
  refine ⟨fun pins s τ G D J0 h => ?_⟩
  have good := J0.ok
  have frs1 : X.A.frames = some (X.env :: X.outer) := by rw [good.frames, st1]
  have lc1 : Loc X.env.scope n := .inl loc1
  refine wpAny_Try_except ?_
  refine wpAny_mono ((body (wAll X.K i Wo D l) (X.pn ++ pins) (fun e t1 => wpAny (model X.prog X.w) X.A (noteFrame e X.env) (fun _ t2 => wpAny (model X.prog X.w) X.A (setFlight e none)
    (fun _ t3 => wpAny (model X.prog X.w) X.A (handleBy e X.env (hd1 :: hds)) (SP X pins D) X.xe t3) X.xe t2) X.xe t1) (fun u t xx => ?_) PassesOwn.looking).run [] s τ G D (J0.toTry _) h) (fun f t1 hsp => ?_) (fun e t1 he => he)
  · obtain ⟨ea, B, sA, pn1, τ1, G1, cl, fd, rfl, J1, nb, up, sky, na, os, ag, w⟩ := xx
    have J2 : Inv X pins τ1 G1 sA := J1.ofTry good
    have sky2 : Sky B (X.env :: X.outer) ea (Zc cl fd) X.env.locals t.heap := by rw [← st1]; exact sky
    show wpAny (model X.prog X.w) X.A (noteFrame (.ref ea) X.env) _ _ _
    refine Sky.land Zc.steady frs1 fr1 sky2 fun g3 fl3 up3 => ?_
    have J3 : Inv X pins τ1 G1 { t with heap := g3 } := J2.landed nb fl3.1 (up.trans up3) os ag
    obtain ⟨eo3, ws3, e3, z3, d3⟩ := fl3.there
    have out1 : ∀ {g : Heap} {o : Obj} {ws : Array Value}, g.FunFrames B (X.env :: X.outer) → g.get? ea = some o → o.data = .fields ws → ea ∉ frs (X.env :: X.outer) := fun {g o ws} ff e dd hm => by
      obtain ⟨_, o2, e2, no⟩ := ff.mem hm
      rw [e] at e2
      cases e2
      exact no _ dd
    have out2 := out1 fl3.2.2.1 e3 d3
    have nL : ea ≠ X.env.locals := fun z => out2 (List.mem_filterMap.mpr ⟨X.env, List.mem_cons_self, by rw [fr1, z]⟩)
    have nF : ea ∉ X.fs := fun hm => by
      obtain ⟨e, he, q⟩ := List.mem_filterMap.mp hm
      exact out2 (List.mem_filterMap.mpr ⟨e, List.mem_cons_of_mem _ he, q⟩)
    have S3 := J3.suite e3 d3 na nL nF
    have go : ∀ {hs2 : List ExceptHandler} {l2 : List (Value × (Addr → Value → Option Addr → TS))}, HdsN X n hs2 l2 → wAll X.K i Wo D l2 cl fd τ1 G1 → wpAny (model X.prog X.w) X.A (handleBy (.ref ea) X.env hs2) (SP X pins D) X.xe { t with heap := g3 } := by
      intro hs2 l2 hk
      induction hk with
      | nil =>
        intro w
        refine wpAny_handleBy_nil ?_
        obtain ⟨k1, k2, k3, eo, ws, T, oT, tz, he, hz, hd, h1, hr⟩ := id fl3
        unfold PySem.passOn
        refine wpAny_bind (wpAny_field he hd h1 ?_)
        rw [if_neg (show ¬ ((Value.ref T == Value.none) = true) by simp)]
        have fin : wpAny (model X.prog X.w) X.A (setFlight (.ref ea) X.env.frame) (fun _ t4 => wpAny (model X.prog X.w) X.A (throw (.ref ea) : Sem Flow) (SP X pins D) X.xe t4) X.xe { t with heap := g3 } := by
          rw [fr1]
          refine HandSPX.setFlight_upZ fl3 fun g4 hh4 up4 => wpAny_throw (tk _ _ ?_)
          exact ⟨ea, B, sA, pins, τ1, G1, cl, fd, rfl, J2, nb, (up.trans up3).trans up4, .inr (.inr (by rw [st1]; exact hh4)), na, os, ag, w⟩
        first | exact wpAny_bind (wpAny_pure (wpAny_bind fin)) | exact wpAny_bind fin
      | @cons x c ts s₀ sts np hp hs3 l3 nm su rest ih =>
        intro w
        obtain ⟨b, hb1, yes, no⟩ := w
        refine wpAny_handleBy_cons (codeAny_handlers_test ?_) (by intro q; cases q)
        have LT : PySem.W.Looks (model X.prog X.w) g3 (typeOf (.ref ea)) cl := fun A Q E s k q => wpAny_typeOf_ref (k _ _ e3) (by rw [z3.1]; exact q)
        have LM := PySem.W.exm_one (M := model X.prog X.w) (J3.kIn) LT hb1
        have test : ∀ {Q : Value → Shared → Prop} {E : Value → Shared → Prop}, Q c { t with heap := g3 } → wpAny (model X.prog X.w) (X.A.mark (some (.ref ea))) (eval (.Name x np) X.env) Q E { t with heap := g3 } := by
          intro Q E q
          obtain ⟨hg, hdb, hm | ⟨hm, hv, hnn⟩⟩ := nm
          · exact ld_glob (X := X.suite ea ((ea, eo3) :: (X.pn ++ pins))) S3 hg hm q hdb
          · exact ld_blt (X := X.suite ea ((ea, eo3) :: (X.pn ++ pins))) S3 hg hm hv q hnn hdb
        refine test (LM.here ?_)
        cases b with
        | true =>
          refine codeAny_handlers_suite_as ?_
          refine HandSPX.lands_againZ fl3 fun g4 fl4 up4 => ?_
          have J4 : Inv X pins τ1 G1 { t with heap := g4 } := J2.landed nb fl4.1 ((up.trans up3).trans up4) os ag
          obtain ⟨eo4, ws4, e4, z4, d4⟩ := fl4.there
          have S4 := J4.suite e4 d4 na nL nF
          refine store_ok (X := X.suite ea ((ea, eo4) :: (X.pn ++ pins))) (v := .ref ea) S4 nd1 at1 lc1 rfl (fun t5 S5 => ?_) (.inr loc1)
          refine wpAny_mono ((su ea eo4 cl fd (X.pn ++ pins) z4 ⟨_, d4⟩).run [] t5 _ G1 _ S5 (yes rfl ea na)) (fun f t6 hsp => ?_) (fun _ _ z => False.elim z)
          have fin : ∀ {τ6 : L2.St} {G6 : Hp} {Q : Shared → Prop}, Inv (X.suite ea ((ea, eo4) :: (X.pn ++ pins))) [] τ6 G6 t6 → (∀ t7, Inv X pins (τ6.set i none) G6 t7 → Q t7) →
              wpAny (model X.prog X.w) X.A (do bindName X.env n .none; unbindBehindTheSuite X.env n hp) (fun _ t7 => Q t7) X.xe t6 := fun {τ6 G6 Q} S6 hq => gone_ok (S6.unsuite good) nd1 at1 loc1 hq
          cases f with
          | next =>
            obtain ⟨τ6, G6, S6, q6⟩ := hsp
            exact fin S6 fun t7 J7 => ⟨_, _, J7, q6⟩
          | brk =>
            obtain ⟨τ6, G6, S6, q6⟩ := hsp
            exact fin S6 fun t7 J7 => ⟨_, _, J7, q6⟩
          | cont =>
            obtain ⟨τ6, G6, S6, q6⟩ := hsp
            exact fin S6 fun t7 J7 => ⟨_, _, J7, q6⟩
          | ret u =>
            obtain ⟨v6, τ6, G6, S6, r6, q6⟩ := hsp
            exact fin S6 fun t7 J7 => ⟨_, _, _, J7, r6, q6⟩
        | false =>
          show wpAny _ X.A (handleBy (.ref ea) X.env hs3) _ _ _
          exact ih (no rfl)
    exact go hh w
  · cases f with
    | next =>
      obtain ⟨τ1, G1, J1, q⟩ := hsp
      exact wpAny_execs_nil ⟨τ1, G1, J1.ofTry good, q⟩
    | brk =>
      obtain ⟨τ1, G1, J1, q⟩ := hsp
      exact ⟨τ1, G1, J1.ofTry good, q⟩
    | cont =>
      obtain ⟨τ1, G1, J1, q⟩ := hsp
      exact ⟨τ1, G1, J1.ofTry good, q⟩
    | ret u =>
      obtain ⟨v, τ1, G1, J1, r, q⟩ := hsp
      exact ⟨v, τ1, G1, J1.ofTry good, r, q⟩
end
end Mq

namespace Lw
open PySem PySem.Spec PyProof.Rows L2 Mq
open SX (S)
/-! ### what the law hears of a weaving -/
/-- what the written part says of an error -/
structure ErrT (K : PySem.W.Frag) (mg : Str → Option Value) (nm qn : Str) (CW CM fB : Addr) : Prop where
  txt : MqE_thing.Txt K mg nm qn CW fB
  xf : XfC K CW
  nt : PySem.W.findIn K (.ref CW) "thing" = some none
  held : HeldC K CW
  gM : mg "MillError" = some (.ref CM)
  kit : PySem.W.kitOne K (.ref CW) (.ref CM) = some true
  exm : PySem.W.exmOne K (.ref CW) (.ref CW) = some true
structure ErrTP (K : PySem.W.Frag) (mg : Str → Option Value) (nm qn : Str) (CW CM fB : Addr) : Prop where
  txt : MqE_place.Txt K mg nm qn CW fB
  xf : XfC K CW
  nt : PySem.W.findIn K (.ref CW) "place" = some none
  held : HeldC K CW
  gM : mg "MillError" = some (.ref CM)
  kit : PySem.W.kitOne K (.ref CW) (.ref CM) = some true
  exm : PySem.W.exmOne K (.ref CW) (.ref CW) = some true
def revA {α : Type} (us ws : List α) : List α := us ++ ws.reverse
theorem vals_revA {vs : List V} {us : List Value} {zs : List V} {ws : List Value} (a : Vals vs us) (b : Vals zs ws) : Vals (revA vs zs) (revA us ws) := a.append (vals_rev b)
theorem kbn_m3 {K : PySem.W.Frag} {x qual : Str} {st : Stmt} {f : Addr} {fd : FuncData} {p1 p2 p3 : Str} (F : Fun K x qual st f fd)
    (h : ∀ (kV doc pm : Value) (an : Option Addr) (cdv ct : Value) (u a b c : Value), bindArgs (PySem.W.fnOf x qual (defArgs st) (defBody st) (defScope st) .none kV doc pm an cdv ct) ⟨[u], [(p3, a), (p2, b), (p1, c)]⟩ = pure [(("self" : Str), u), (p1, c), (p2, b), (p3, a)]) :
    KBn K fd ["self", p1, p2, p3] 1 [p3, p2, p1] revA revA := by
  obtain ⟨oc, od, kV, doc, pm, an, cdv, ct, osl, rfl, lk, hcd⟩ := F.ex
  refine ⟨fun s us ws _ h1 h2 => ?_, vals_revA⟩
  match us, ws, h1, h2 with
  | [u], [a, b, c], _, _ => exact .of_eq (h kV doc pm an cdv ct u a b c)
theorem kbn_m1 {K : PySem.W.Frag} {x qual : Str} {st : Stmt} {f : Addr} {fd : FuncData} {p1 : Str} (F : Fun K x qual st f fd)
    (h : ∀ (kV doc pm : Value) (an : Option Addr) (cdv ct : Value) (u a : Value), bindArgs (PySem.W.fnOf x qual (defArgs st) (defBody st) (defScope st) .none kV doc pm an cdv ct) ⟨[u], [(p1, a)]⟩ = pure [(("self" : Str), u), (p1, a)]) :
    KBn K fd ["self", p1] 1 [p1] revA revA := by
  obtain ⟨oc, od, kV, doc, pm, an, cdv, ct, osl, rfl, lk, hcd⟩ := F.ex
  refine ⟨fun s us ws _ h1 h2 => ?_, vals_revA⟩
  match us, ws, h1, h2 with
  | [u], [a], _, _ => exact .of_eq (h kV doc pm an cdv ct u a)
theorem kbn_m0 {K : PySem.W.Frag} {fd : FuncData} (hb : Binds K fd ["self"] []) : KBn K fd ["self"] 1 [] (fun us _ => us) (fun vs _ => vs) := by
  refine ⟨fun s us ws kin h1 h2 => ?_, fun a _ => a⟩
  have b := hb s us kin (by rw [List.append_nil]; exact h1)
  rw [List.append_nil] at b
  exact b
def told (xs : List V) (H : Hp) (Q : VK) : Prop := ∀ H' p, Same H H' → p ≠ sysModules → H' p = some (.lst xs) → Q (.ref p) H'
def spMadeW (K : PySem.W.Frag) (C CN : Addr) : Sp := fun vs H Q _ => ∃ (nm : Bool) (N : Addr → Prop) (r fa ta : Addr) (sg : List Nat) (fs : List Fd) (v u : V), vs = [.ref r, v, u, .bl nm] ∧ BkAt H C r sg fs fa ta ∧ FsOk sg fs ∧
  ((∃ l row, WebGood sg v l ∧ WebGood sg u row ∧ (∀ X, H X = none → N X) ∧ ∀ H' n B, WvAt K H' CN N n r B fs l row [] → H n = none → H B = none → Same H H' → Q (.ref n) H') ∨
   (BadS K H sg v ∧ told [.str "web", v, .bl true] H Q) ∨ ((∃ l, WebGood sg v l) ∧ BadS K H sg u ∧ told [.str "row", u, .bl true] H Q))
def spSpot (K : PySem.W.Frag) (CN : Addr) : Sp := fun vs H Q _ => ∃ (nm : Bool) (N : Addr → Prop) (n r B : Addr) (fs : List Fd) (w row : List Nat) (olds : List (List Nat)) (v : V), vs = [.ref n, v, .bl nm] ∧ WvAt K H CN N n r B fs w row olds ∧ row.length ≤ 300 ∧
  ((∃ k : Nat, v = .int (k : Nat) ∧ k ≤ row.length ∧ ∀ H', Same H H' → Q (.str (S (ledM fs w (row.take k)))) H') ∨ (PlBadS K H v 0 row.length ∧ told [v, .bl true] H Q))
def spChanged (K : PySem.W.Frag) (C CN : Addr) : Sp := fun vs H Q _ => ∃ (nm : Bool) (N : Addr → Prop) (n r B fa ta : Addr) (sg : List Nat) (fs : List Fd) (w row : List Nat) (olds : List (List Nat)) (s e u : V), vs = [.ref n, s, e, u, .bl nm] ∧
  WvAt K H CN N n r B fs w row olds ∧ BkAt H C r sg fs fa ta ∧ FsOk sg fs ∧ w.length ≤ 300 ∧ row.length ≤ 300 ∧ olds.length ≤ 1000 ∧
  ((∃ (a b : Nat) (f : List Nat), s = .int (a : Nat) ∧ e = .int (b : Nat) ∧ u = .str (S f) ∧ a ≤ b ∧ b ≤ row.length ∧ (∀ c ∈ f, c ∈ sg) ∧ f.length ≤ 300 ∧ row.length + a + f.length ≤ 200 + b ∧ (∀ X, H X = none → N X) ∧
      ∀ H' m, IsMany fs w row a b f m → WvAt K H' CN N n r B fs w (row.take a ++ f ++ row.drop b) (olds ++ [row]) → Off n B H H' → Q (.int m) H') ∨
   (PlBadS K H s 0 row.length ∧ told [.str "place", s] H Q) ∨
   (∃ a : Nat, s = .int (a : Nat) ∧ a ≤ row.length ∧ PlBadS K H e a row.length ∧ told [.str "place", e] H Q) ∨
   (∃ a b : Nat, s = .int (a : Nat) ∧ e = .int (b : Nat) ∧ a ≤ b ∧ b ≤ row.length ∧ (BadS K H sg u ∨ ∃ f : List Nat, u = .str (S f) ∧ (∀ c ∈ f, c ∈ sg) ∧ f.length ≤ 1000 ∧ 200 + b < row.length + a + f.length) ∧ told [.str "row", u] H Q))
def spUndone (K : PySem.W.Frag) (CN : Addr) : Sp := fun vs H Q _ => ∃ (N : Addr → Prop) (n r B : Addr) (fs : List Fd) (w row : List Nat) (olds : List (List Nat)), vs = [.ref n] ∧ WvAt K H CN N n r B fs w row olds ∧
  ((olds = [] ∧ Q (.bl true) H) ∨ (∃ os o, olds = os ++ [o] ∧ ∀ H', WvAt K H' CN N n r B fs w o os → Off n B H H' → Q .non H'))
section
variable {P : Program} {w : World} {K : PySem.W.Frag} {mg : Str → Option Value} {base : Heap} {C CN CW CR CP CU CM : Addr}
theorem initW_of {N : Addr → Prop} {H : Hp} {x dx r fa ta : Addr} {sg : List Nat} {fs : List Fd} {v u : V} {Q' : VK} {E' : XK} (hx : H x = none) (hdx : H dx = none) (hne : dx ≠ x) (hb : BkAt H C r sg fs fa ta) (hfs : FsOk sg fs)
    (hN : ∀ X, H X = none → N X) (h : (∃ l row, WebGood sg v l ∧ WebGood sg u row ∧ ∀ H' B, WvAt K H' CN N x r B fs l row [] → H B = none → Same H H' → Q' .non H') ∨
      (BadS K H sg v ∧ ∀ H' d, Same H H' → H' d = none → E' (.ref CW) (some d) (upd H' d (.xd [("thing", v)]))) ∨ ((∃ l, WebGood sg v l) ∧ BadS K H sg u ∧ ∀ H' d, Same H H' → H' d = none → E' (.ref CR) (some d) (upd H' d (.xd [("thing", u)])))) :
    spInitW K C CN CW CR [.ref x, .ref r, v, u] (upd (upd H dx (.own x)) x (.ins CN dx [])) Q' E' := by
  have t1 := same_new (o := HO.own x) hdx
  have t2 := same_new (o := HO.ins CN dx []) (H := upd H dx (.own x)) ((upd_ne (Ne.symm hne)).trans hx)
  have t := t1.trans t2
  refine ⟨N, x, dx, r, fa, ta, sg, fs, v, u, rfl, upd_same, hb.same t, hfs, (fun X hX => hN X (t.free hX)), ?_⟩
  rcases h with ⟨l, row, g1, g2, q⟩ | ⟨h1, q⟩ | ⟨h1, h2, q⟩
  · refine Or.inl ⟨l, row, g1, g2, fun H' B hw hB keep => q H' B hw ?_ (make_same hx hdx hne keep)⟩
    cases e : H B with
    | none => rfl
    | some o =>
      have := t _ _ e
      rw [hB] at this
      cases this
  · exact Or.inr (Or.inl ⟨h1.same t, fun H' d s' hd => q H' d (t.trans s') hd⟩)
  · exact Or.inr (Or.inr ⟨h1, h2.same t, fun H' d s' hd => q H' d (t.trans s') hd⟩)
theorem ok_made {f fI fB fB2 : Addr} {fd fdI : FuncData} (F : Fun K "_law_made" "_law_made" s__law_made f fd) (B : Blt mg) (T : ErrT K mg "BadWeb" "BadWeb.__init__" CW CM fB) (U : ErrT K mg "BadRow" "BadRow.__init__" CR CM fB2) (no : PySem.W.exmOne K (.ref CR) (.ref CW) = some false)
    (M : Mk K CN fI) (gN : mg "Weaving" = some (.ref CN)) (bI : Binds K fdI ["self", "book", "web", "row"] []) (kI : KBn K fdI ["self", "book", "web", "row"] 1 ["row", "web", "book"] revA revA) (GI : FnOk P w K mg base (L2.CX P w) 5 fI fdI ["self", "book", "web", "row"] (spInitW K C CN CW CR)) :
    FnG P w K mg base CX0 7 f fd ["_law_code_here", "_law_cloth", "_law_lays_here", "_law_is_named"] (spMadeW K C CN) := by
  refine Mq.Fun.okG F sc__law_made (fun vs H Q E h => ?_) (fun cdv A outer s H vs Q E gA hr h => ?_)
  · obtain ⟨_, _, _, _, _, _, _, _, _, rfl, _⟩ := h
    rfl
  · obtain ⟨nm, N, r, fa, ta, sg, fs, v, u, rfl, hb, hfs, h⟩ := h
    have hr6 : Room 6 (A.deeper (envOfC "_law_made" (defScope s__law_made) s.heap.objs.size f cdv)) := hr.mono (by decide)
    refine ⟨_, (pss_cons (ps_set (i := 4) sc__law_made.nd rfl (Or.inl rfl) pe_non)
      (pss_cons (ps_try_all (i := 5) (Wo := fun _ _ _ _ => False) rfl rfl sc__law_made.nd rfl rfl takes0
        (fun W pn xe tk _ => pss_one (ps_set (i := 4) sc__law_made.nd rfl (Or.inl rfl) (pe_ifExp (pt_val (pv 3)) (pe_makeKS (ES := WE W) M GI hr6 (by rfl) gN kI (fun σ => passAt tk σ) (pk_cons (pv 2) (pk_cons (pv 1) (pk_cons (pv 0) pk_nil)))) (pe_makeS (m := 3) (ES := WE W) M GI hr6 (by rfl) gN bI rfl (fun σ => passAt tk σ) (pa_cons (pv 0) (pa_cons (pv 1) (pa_cons (pv 2) pa_nil)))))))
        (.cons (c := .ref CW) ⟨rfl, by decide, Or.inl T.txt.gC⟩ (fun a oe cls d pn hz hf => pss_one (ps_set (i := 4) sc__law_made.nd rfl (Or.inl rfl) (Mq.pe_ls (pa_cons pe_str (pa_cons (pe_xf T.xf T.nt hz hf (pv 5)) (pa_cons (pe_callB (call_heldX T.held hz hf) (by rfl) B.isi (by decide +kernel) (pa_cons (pv 5) (pa_cons (pe_glob (v := .ref CM) (by rfl) T.gM rfl) pa_nil))) pa_nil))))))
        (.cons (c := .ref CR) ⟨rfl, by decide, Or.inl U.txt.gC⟩ (fun a oe cls d pn hz hf => pss_one (ps_set (i := 4) sc__law_made.nd rfl (Or.inl rfl) (Mq.pe_ls (pa_cons pe_str (pa_cons (pe_xf U.xf U.nt hz hf (pv 5)) (pa_cons (pe_callB (call_heldX U.held hz hf) (by rfl) B.isi (by decide +kernel) (pa_cons (pv 5) (pa_cons (pe_glob (v := .ref CM) (by rfl) U.gM rfl) pa_nil))) pa_nil))))))
        .nil)))
      (pss_one (ps_ret (pv 4))))), ?_⟩
    have finB : ∀ k x, told [.str k, x, .bl true] H Q → ∀ H1 dd, Same H H1 → H1 dd = none → ∀ p, upd H1 dd (.xd [("thing", x)]) p = none → p ≠ sysModules → Q (.ref p) (upd (upd H1 dd (.xd [("thing", x)])) p (.lst [.str k, x, .bl true])) := by
      intro k x q H1 dd s1 hdd p hp hne
      exact q _ p ((s1.trans (same_new hdd)).trans (same_new hp)) hne upd_same
    cases nm with
      | true =>
        refine ⟨_, rfl, _, rfl, ifT rfl ?_⟩
        refine ⟨_, rfl, _, rfl, _, rfl, rfl, fun x dx hx hdx hne => ?_⟩
        rcases h with ⟨l, row, h1, h2, hN, q⟩ | ⟨h1, q⟩ | ⟨h1, h2, q⟩
        · exact initW_of hx hdx hne hb hfs hN (Or.inl ⟨l, row, h1, h2, fun H1 B hw hB s1 => ⟨rfl, _, rfl, q H1 x B hw hx hB s1⟩⟩)
        · refine initW_of (N := fun _ => True) hx hdx hne hb hfs (fun _ _ => trivial) (Or.inr (Or.inl ⟨h1, fun H1 dd s1 hdd => ⟨true, T.exm, fun _ a0 ha0 => ?_, fun z => nomatch z⟩⟩))
          exact ⟨_, rfl, rfl, rfl, dd, _, v, rfl, upd_same, rfl, _, rfl, rfl, dd, CM, _, true, rfl, rfl, upd_same, T.kit, sz_le (n := 3) (by decide), fun p hp hne => ⟨_, rfl, finB _ v q H1 dd s1 hdd p hp hne⟩⟩
        · refine initW_of (N := fun _ => True) hx hdx hne hb hfs (fun _ _ => trivial) (Or.inr (Or.inr ⟨h1, h2, fun H1 dd s1 hdd => ⟨false, no, (fun z => nomatch z), fun _ => ⟨true, U.exm, fun _ a0 ha0 => ?_, fun z => nomatch z⟩⟩⟩))
          exact ⟨_, rfl, rfl, rfl, dd, _, u, rfl, upd_same, rfl, _, rfl, rfl, dd, CM, _, true, rfl, rfl, upd_same, U.kit, sz_le (n := 3) (by decide), fun p hp hne => ⟨_, rfl, finB _ u q H1 dd s1 hdd p hp hne⟩⟩
      | false =>
        refine ⟨_, rfl, _, rfl, ifF rfl ?_⟩
        refine ⟨_, rfl, _, rfl, _, rfl, rfl, fun x dx hx hdx hne => ?_⟩
        rcases h with ⟨l, row, h1, h2, hN, q⟩ | ⟨h1, q⟩ | ⟨h1, h2, q⟩
        · exact initW_of hx hdx hne hb hfs hN (Or.inl ⟨l, row, h1, h2, fun H1 B hw hB s1 => ⟨rfl, _, rfl, q H1 x B hw hx hB s1⟩⟩)
        · refine initW_of (N := fun _ => True) hx hdx hne hb hfs (fun _ _ => trivial) (Or.inr (Or.inl ⟨h1, fun H1 dd s1 hdd => ⟨true, T.exm, fun _ a0 ha0 => ?_, fun z => nomatch z⟩⟩))
          exact ⟨_, rfl, rfl, rfl, dd, _, v, rfl, upd_same, rfl, _, rfl, rfl, dd, CM, _, true, rfl, rfl, upd_same, T.kit, sz_le (n := 3) (by decide), fun p hp hne => ⟨_, rfl, finB _ v q H1 dd s1 hdd p hp hne⟩⟩
        · refine initW_of (N := fun _ => True) hx hdx hne hb hfs (fun _ _ => trivial) (Or.inr (Or.inr ⟨h1, h2, fun H1 dd s1 hdd => ⟨false, no, (fun z => nomatch z), fun _ => ⟨true, U.exm, fun _ a0 ha0 => ?_, fun z => nomatch z⟩⟩⟩))
          exact ⟨_, rfl, rfl, rfl, dd, _, u, rfl, upd_same, rfl, _, rfl, rfl, dd, CM, _, true, rfl, rfl, upd_same, U.kit, sz_le (n := 3) (by decide), fun p hp hne => ⟨_, rfl, finB _ u q H1 dd s1 hdd p hp hne⟩⟩
theorem ok_spot {f fA fB : Addr} {fd fdA : FuncData} (F : Fun K "_law_spot" "_law_spot" s__law_spot f fd) (B : Blt mg) (R : WvC K CN) (T : ErrTP K mg "BadPlace" "BadPlace.__init__" CP CM fB)
    (mA : Meth K CN "web_at" fA) (bA : Binds K fdA ["self", "place"] []) (kA : KBn K fdA ["self", "place"] 1 ["place"] revA revA) (GA : FnOk P w K mg base (L2.CX P w) 4 fA fdA ["self", "place"] (spWebAt K CN CP)) :
    FnG P w K mg base CX0 5 f fd ["_law_note", "_law_place_now", "_law_is_named"] (spSpot K CN) := by
  refine Mq.Fun.okG F sc__law_spot (fun vs H Q E h => ?_) (fun cdv A outer s H vs Q E gA hr h => ?_)
  · obtain ⟨_, _, _, _, _, _, _, _, _, _, rfl, _⟩ := h
    rfl
  · obtain ⟨nm, N, n, r, Bf, fs, w, row, olds, v, rfl, hw, hrl, h⟩ := h
    have hr4 : Room 4 (A.deeper (envOfC "_law_spot" (defScope s__law_spot) s.heap.objs.size f cdv)) := hr
    refine ⟨_, (pss_cons (ps_set (i := 3) sc__law_spot.nd rfl (Or.inl rfl) pe_non)
      (pss_cons (ps_try_all (i := 4) (Wo := fun _ _ _ _ => False) rfl rfl sc__law_spot.nd rfl rfl takes0
        (fun W pn xe tk _ => pss_one (ps_set (i := 3) sc__law_spot.nd rfl (Or.inl rfl) (pe_ifExp (pt_val (pv 2)) (pe_methK (E := WE W) (pv 0) R.cls mA GA hr4 kA (fun σ => passAt tk σ) (pk_cons (pv 1) pk_nil)) (pe_methT (E := WE W) (pv 0) R.cls mA GA hr4 bA (fun σ => passAt tk σ) (pa_cons (pv 1) pa_nil)))))
        (.cons (c := .ref CP) ⟨rfl, by decide, Or.inl T.txt.gC⟩ (fun a oe cls d pn hz hf => pss_one (ps_set (i := 3) sc__law_spot.nd rfl (Or.inl rfl) (Mq.pe_ls (pa_cons (pe_xf T.xf T.nt hz hf (pv 4)) (pa_cons (pe_callB (call_heldX T.held hz hf) (by rfl) B.isi (by decide +kernel) (pa_cons (pv 4) (pa_cons (pe_glob (v := .ref CM) (by rfl) T.gM rfl) pa_nil))) pa_nil)))))
        .nil))
      (pss_one (ps_ret (pv 3))))), ?_⟩
    obtain ⟨dx, L, us, h1, h2, h3, h4⟩ := id hw.ex
    have finB : told [v, .bl true] H Q → ∀ H1 dd, Same H H1 → H1 dd = none → ∀ p, upd H1 dd (.xd [("place", v)]) p = none → p ≠ sysModules → Q (.ref p) (upd (upd H1 dd (.xd [("place", v)])) p (.lst [v, .bl true])) := by
      intro q H1 dd s1 hdd p hp hne
      exact q _ p ((s1.trans (same_new hdd)).trans (same_new hp)) hne upd_same
    cases nm with
      | true =>
        refine ⟨_, rfl, _, rfl, ifT rfl ?_⟩
        refine ⟨_, rfl, n, dx, _, rfl, h1, rfl, _, rfl, rfl, _, n, r, Bf, fs, w, row, olds, v, rfl, hw, hrl, ?_⟩
        rcases h with ⟨k, hv, hk, q⟩ | ⟨hbad, q⟩
        · exact Or.inl ⟨k, hv, hk, fun H1 s1 => ⟨_, rfl, q H1 s1⟩⟩
        · refine Or.inr ⟨hbad, fun H1 dd s1 hdd => ⟨true, T.exm, fun _ a0 ha0 => ?_, fun z => nomatch z⟩⟩
          exact ⟨_, rfl, rfl, rfl, dd, _, v, rfl, upd_same, rfl, _, rfl, rfl, dd, CM, _, true, rfl, rfl, upd_same, T.kit, sz_le (n := 2) (by decide), fun p hp hne => ⟨_, rfl, finB q H1 dd s1 hdd p hp hne⟩⟩
      | false =>
        refine ⟨_, rfl, _, rfl, ifF rfl ?_⟩
        refine ⟨_, rfl, n, dx, _, rfl, h1, rfl, _, rfl, _, n, r, Bf, fs, w, row, olds, v, rfl, hw, hrl, ?_⟩
        rcases h with ⟨k, hv, hk, q⟩ | ⟨hbad, q⟩
        · exact Or.inl ⟨k, hv, hk, fun H1 s1 => ⟨_, rfl, q H1 s1⟩⟩
        · refine Or.inr ⟨hbad, fun H1 dd s1 hdd => ⟨true, T.exm, fun _ a0 ha0 => ?_, fun z => nomatch z⟩⟩
          exact ⟨_, rfl, rfl, rfl, dd, _, v, rfl, upd_same, rfl, _, rfl, rfl, dd, CM, _, true, rfl, rfl, upd_same, T.kit, sz_le (n := 2) (by decide), fun p hp hne => ⟨_, rfl, finB q H1 dd s1 hdd p hp hne⟩⟩
theorem ok_changed {f fA fB fB2 : Addr} {fd fdA : FuncData} (F : Fun K "_law_changed" "_law_changed" s__law_changed f fd) (R : WvC K CN) (T : ErrTP K mg "BadPlace" "BadPlace.__init__" CP CM fB) (U : ErrT K mg "BadRow" "BadRow.__init__" CR CM fB2) (no : PySem.W.exmOne K (.ref CR) (.ref CP) = some false)
    (mA : Meth K CN "change" fA) (bA : Binds K fdA ["self", "start", "end", "letters"] []) (kA : KBn K fdA ["self", "start", "end", "letters"] 1 ["letters", "end", "start"] revA revA) (GA : FnOk P w K mg base (L2.CX P w) 4 fA fdA ["self", "start", "end", "letters"] (spChange K C CN CP CR)) :
    FnG P w K mg base CX0 5 f fd ["_law_note", "_law_near", "_law_far", "_law_fresh", "_law_is_named"] (spChanged K C CN) := by
  refine Mq.Fun.okG F sc__law_changed (fun vs H Q E h => ?_) (fun cdv A outer s H vs Q E gA hr h => ?_)
  · obtain ⟨_, _, _, _, _, _, _, _, _, _, _, _, _, _, _, rfl, _⟩ := h
    rfl
  · obtain ⟨nm, N, n, r, Bf, fa, ta, sg, fs, w, row, olds, s, e, u, rfl, hw, hb, hfs, hwl, hrl, hol, h⟩ := h
    have hr4 : Room 4 (A.deeper (envOfC "_law_changed" (defScope s__law_changed) _ f cdv)) := hr
    refine ⟨_, (pss_cons (ps_set (i := 5) sc__law_changed.nd rfl (Or.inl rfl) pe_non)
      (pss_cons (ps_try_all (i := 6) (Wo := fun _ _ _ _ => False) rfl rfl sc__law_changed.nd rfl rfl takes0
        (fun W pn xe tk _ => pss_one (ps_set (i := 5) sc__law_changed.nd rfl (Or.inl rfl) (pe_ifExp (pt_val (pv 4)) (pe_methK (E := WE W) (pv 0) R.cls mA GA hr4 kA (fun σ => passAt tk σ) (pk_cons (pv 3) (pk_cons (pv 2) (pk_cons (pv 1) pk_nil)))) (pe_methT (E := WE W) (pv 0) R.cls mA GA hr4 bA (fun σ => passAt tk σ) (pa_cons (pv 1) (pa_cons (pv 2) (pa_cons (pv 3) pa_nil)))))))
        (.cons (c := .ref CP) ⟨rfl, by decide, Or.inl T.txt.gC⟩ (fun a oe cls d pn hz hf => pss_one (ps_set (i := 5) sc__law_changed.nd rfl (Or.inl rfl) (Mq.pe_ls (pa_cons pe_str (pa_cons (pe_xf T.xf T.nt hz hf (pv 6)) pa_nil)))))
        (.cons (c := .ref CR) ⟨rfl, by decide, Or.inl U.txt.gC⟩ (fun a oe cls d pn hz hf => pss_one (ps_set (i := 5) sc__law_changed.nd rfl (Or.inl rfl) (Mq.pe_ls (pa_cons pe_str (pa_cons (pe_xf U.xf U.nt hz hf (pv 6)) pa_nil)))))
        .nil)))
      (pss_one (ps_ret (pv 5))))), ?_⟩
    obtain ⟨dx, L, us, h1, h2, h3, h4⟩ := id hw.ex
    have finB : ∀ (k kk : Str) (x : V), told [.str k, x] H Q → ∀ H1 dd, Same H H1 → H1 dd = none → ∀ p, upd H1 dd (.xd [(kk, x)]) p = none → p ≠ sysModules → Q (.ref p) (upd (upd H1 dd (.xd [(kk, x)])) p (.lst [.str k, x])) := by
      intro k kk x q H1 dd s1 hdd p hp hne
      exact q _ p ((s1.trans (same_new hdd)).trans (same_new hp)) hne upd_same
    cases nm with
      | true =>
        refine ⟨_, rfl, _, rfl, ifT rfl ?_⟩
        refine ⟨_, rfl, n, dx, _, rfl, h1, rfl, _, rfl, _, rfl, _, rfl, rfl, _, n, r, Bf, fa, ta, sg, fs, w, row, olds, s, e, u, rfl, hw, hb, hfs, hwl, hrl, hol, ?_⟩
        rcases h with ⟨a, b, f, e1, e2, e3, e4, e5, e6, e7, e8, e9, q⟩ | ⟨hbad, q⟩ | ⟨a, e1, e2, hbad, q⟩ | ⟨a, b, e1, e2, e3, e4, hbad, q⟩
        · exact Or.inl ⟨a, b, f, e1, e2, e3, e4, e5, e6, e7, e8, e9, fun H1 m hm w1 f1 => ⟨_, rfl, q H1 m hm w1 f1⟩⟩
        · refine Or.inr (Or.inl ⟨hbad, fun H1 dd s1 hdd => ⟨true, T.exm, fun _ a0 ha0 => ?_, fun z => nomatch z⟩⟩)
          exact ⟨_, rfl, rfl, rfl, dd, _, s, rfl, upd_same, rfl, sz_le (n := 2) (by decide), fun p hp hne => ⟨_, rfl, finB _ _ s q H1 dd s1 hdd p hp hne⟩⟩
        · refine Or.inr (Or.inr (Or.inl ⟨a, e1, e2, hbad, fun H1 dd s1 hdd => ⟨true, T.exm, fun _ a0 ha0 => ?_, fun z => nomatch z⟩⟩))
          exact ⟨_, rfl, rfl, rfl, dd, _, e, rfl, upd_same, rfl, sz_le (n := 2) (by decide), fun p hp hne => ⟨_, rfl, finB _ _ e q H1 dd s1 hdd p hp hne⟩⟩
        · refine Or.inr (Or.inr (Or.inr ⟨a, b, e1, e2, e3, e4, hbad, fun H1 dd s1 hdd => ⟨false, no, (fun z => nomatch z), fun _ => ⟨true, U.exm, fun _ a0 ha0 => ?_, fun z => nomatch z⟩⟩⟩))
          exact ⟨_, rfl, rfl, rfl, dd, _, u, rfl, upd_same, rfl, sz_le (n := 2) (by decide), fun p hp hne => ⟨_, rfl, finB _ _ u q H1 dd s1 hdd p hp hne⟩⟩
      | false =>
        refine ⟨_, rfl, _, rfl, ifF rfl ?_⟩
        refine ⟨_, rfl, n, dx, _, rfl, h1, rfl, _, rfl, _, rfl, _, rfl, _, n, r, Bf, fa, ta, sg, fs, w, row, olds, s, e, u, rfl, hw, hb, hfs, hwl, hrl, hol, ?_⟩
        rcases h with ⟨a, b, f, e1, e2, e3, e4, e5, e6, e7, e8, e9, q⟩ | ⟨hbad, q⟩ | ⟨a, e1, e2, hbad, q⟩ | ⟨a, b, e1, e2, e3, e4, hbad, q⟩
        · exact Or.inl ⟨a, b, f, e1, e2, e3, e4, e5, e6, e7, e8, e9, fun H1 m hm w1 f1 => ⟨_, rfl, q H1 m hm w1 f1⟩⟩
        · refine Or.inr (Or.inl ⟨hbad, fun H1 dd s1 hdd => ⟨true, T.exm, fun _ a0 ha0 => ?_, fun z => nomatch z⟩⟩)
          exact ⟨_, rfl, rfl, rfl, dd, _, s, rfl, upd_same, rfl, sz_le (n := 2) (by decide), fun p hp hne => ⟨_, rfl, finB _ _ s q H1 dd s1 hdd p hp hne⟩⟩
        · refine Or.inr (Or.inr (Or.inl ⟨a, e1, e2, hbad, fun H1 dd s1 hdd => ⟨true, T.exm, fun _ a0 ha0 => ?_, fun z => nomatch z⟩⟩))
          exact ⟨_, rfl, rfl, rfl, dd, _, e, rfl, upd_same, rfl, sz_le (n := 2) (by decide), fun p hp hne => ⟨_, rfl, finB _ _ e q H1 dd s1 hdd p hp hne⟩⟩
        · refine Or.inr (Or.inr (Or.inr ⟨a, b, e1, e2, e3, e4, hbad, fun H1 dd s1 hdd => ⟨false, no, (fun z => nomatch z), fun _ => ⟨true, U.exm, fun _ a0 ha0 => ?_, fun z => nomatch z⟩⟩⟩))
          exact ⟨_, rfl, rfl, rfl, dd, _, u, rfl, upd_same, rfl, sz_le (n := 2) (by decide), fun p hp hne => ⟨_, rfl, finB _ _ u q H1 dd s1 hdd p hp hne⟩⟩
theorem ok_undone {f fA : Addr} {fd fdA : FuncData} (F : Fun K "_law_undone" "_law_undone" s__law_undone f fd) (R : WvC K CN) (T : BareT K mg "NothingToUndo" CU) (ex : PySem.W.exmOne K (.ref CU) (.ref CU) = some true)
    (mA : Meth K CN "undo" fA) (bA : Binds K fdA ["self"] []) (GA : FnOk P w K mg base (L2.CX P w) 1 fA fdA ["self"] (spUndo K CN CU)) :
    FnG P w K mg base CX0 2 f fd ["_law_note"] (spUndone K CN) := by
  refine Mq.Fun.okG F sc__law_undone (fun vs H Q E h => ?_) (fun cdv A outer s H vs Q E gA hr h => ?_)
  · obtain ⟨_, _, _, _, _, _, _, _, rfl, _⟩ := h
    rfl
  · obtain ⟨N, n, r, Bf, fs, w, row, olds, rfl, hw, h⟩ := h
    have hr1 : Room 1 (A.deeper (envOfC "_law_undone" (defScope s__law_undone) s.heap.objs.size f cdv)) := hr
    refine ⟨_, (pss_cons (ps_set (i := 1) sc__law_undone.nd rfl (Or.inl rfl) pe_non)
      (pss_cons (L2.ps_try_only (c := .ref CU) (Wout := fun _ _ _ _ => False) rfl rfl ⟨rfl, by decide, Or.inl T.gC⟩ takes0
        (fun W pn xe tk _ => pss_one (ps_set (i := 1) sc__law_undone.nd rfl (Or.inl rfl) (pe_methK (E := WE W) (kws := []) (pv 0) R.cls mA GA hr1 (kbn_m0 bA) (fun σ => passAt tk σ) pk_nil)))
        (fun a oe cls d pn hz hf => pss_one (ps_set (i := 1) sc__law_undone.nd rfl (Or.inl rfl) pe_bl)))
      (pss_one (ps_ret (pv 1))))), ?_⟩
    obtain ⟨dx, L, us, h1, h2, h3, h4⟩ := id hw.ex
    refine ⟨_, rfl, n, dx, _, rfl, h1, rfl, rfl, _, n, r, Bf, fs, w, row, olds, rfl, hw, ?_⟩
    rcases h with ⟨ho, q⟩ | ⟨os, o, ho, q⟩
    · exact Or.inl ⟨ho, true, ex, fun _ a0 ha0 => ⟨_, rfl, q⟩, fun z => nomatch z⟩
    · exact Or.inr ⟨os, o, ho, fun H1 w1 f1 => ⟨_, rfl, q H1 w1 f1⟩⟩
end
end Lw

namespace Lw
open PySem PySem.Spec PyProof.Rows L2 Mq
open SX (S)
/-! ### the law's own webs along a row -/
def spLaidL : Sp := fun vs H Q _ => ∃ (wd ld : Addr) (sg w : List Nat) (gs : List Fd) (y : Nat), vs = [.ref wd, .str (S w), .str (S [y])] ∧ WAt H wd ld sg gs ∧ zOk gs ∧ w.length ≤ 2000 ∧ ∀ H', Same H H' → Q (.str (S (laidM gs w y))) H'
def spAlongL : Sp := fun vs H Q _ => ∃ (wd ld : Addr) (sg w row : List Nat) (gs : List Fd), vs = [.ref wd, .str (S w), .str (S row)] ∧ WAt H wd ld sg gs ∧ zOk gs ∧ w.length ≤ 300 ∧ row.length ≤ 1000 ∧
  ∀ H' L, Same H H' → H L = none → H' L = some (.lst (websV gs w row)) → Q (.ref L) H'
def spDue : Sp := fun vs H Q _ => ∃ (wd ld : Addr) (sg w row f : List Nat) (gs : List Fd) (a b : Nat), vs = [.ref wd, .str (S w), .str (S row), .int (a : Nat), .int (b : Nat), .str (S f)] ∧ WAt H wd ld sg gs ∧ zOk gs ∧ w.length ≤ 300 ∧ row.length ≤ 300 ∧ f.length ≤ 300 ∧ a ≤ b ∧ b ≤ row.length ∧
  ∀ H' m, Same H H' → IsMany gs w row a b f m → Q (.int m) H'
section
variable {P : Program} {w : World} {K : PySem.W.Frag} {mg : Str → Option Value} {base : Heap}
theorem ok_laidL {f : Addr} {fd : FuncData} (F : Fun K "_law_laid" "_law_laid" s__law_laid f fd) : FnOk P w K mg base CX0 1 f fd ["_law_f", "_law_cloth", "_law_y"] spLaidL := by
  refine F.ok sc__law_laid (fun vs H Q E h => ?_) (fun cdv A outer s H vs Q E hr h => ?_)
  · obtain ⟨_, _, _, _, _, _, rfl, _⟩ := h
    rfl
  · obtain ⟨wd, ld, sg, l, gs, y, rfl, hw, hz, hl, q⟩ := h
    have hu1 : (A.deeper (envOfC "_law_laid" (defScope s__law_laid) s.heap.objs.size f cdv)).units + 1 < cLine := by
      have := hr.units
      omega
    refine ⟨_, (pss_cons (ps_set (i := 3) sc__law_laid.nd rfl (Or.inl rfl) (pe_dget1 hu1 (pe_dget hu1 (pv 0) pe_str (fun _ _ => rfl)) (pe_tup (pa_cons (pe_slice C8.sl_txt (pv 1) (po_some (pe_un un_neg pe_int)) po_none) (pa_cons (pv 2) pa_nil))) ⟨rfl, rfl, rfl, rfl⟩))
      (pss_one (ps_ret (pe_ifExp (pt_cmpR op_isN (pv 3) pe_non (nomark _)) (pe_op op_add_str (pv 1) (pv 2)) (pe_op op_add_str (pe_slice C8.sl_txt (pv 1) po_none (po_some (pe_un un_neg pe_int))) (pv 3)))))), ?_⟩
    have g1 : DGet H wd (.str "folds") (some (.ref ld)) := DGet.k (k := .inr "folds") hw.w
    have hlz : (S l).length ≤ sizeLine := by
      rw [SX.S_len]
      exact sz_le (by omega)
    have hadd : ∀ H', Same H H' → laidM gs l y = l ++ [y] → (∃ i j : Str, V.str (S l) = .str i ∧ V.str (S [y]) = .str j ∧ i.length + j.length ≤ sizeLine ∧ Q (.str (i ++ j)) H') := by
      intro H' s' e
      refine ⟨S l, S [y], rfl, rfl, ?_, ?_⟩
      · rw [SX.S_len, SX.S_len]
        exact sz_le (by show l.length + 1 ≤ _; omega)
      · rw [SX.S_cat, ← e]
        exact q H' s'
    refine ⟨_, rfl, wd, _, rfl, g1, ld, rfl, Or.inr ⟨_, .inl hw.l⟩, _, rfl, _, rfl, _, rfl, S l, rfl, hlz, _, rfl, sz_le (n := 2) (by decide), fun pk hpk => ?_⟩
    rcases List.eq_nil_or_concat l with rfl | ⟨u, x, rfl⟩
    · rw [show Txt.slice (S []) (some (-1)) none = S [] by decide +kernel]
      have tk := same_new (o := HO.tup [V.str (S []), V.str (S [y])]) hpk
      have hnone : valV (tabF gs) [Sum.inr (S []), Sum.inr (S [y])] = none := by
        unfold valV tabF
        rw [List.find?_eq_none.mpr]
        · rfl
        · intro g hg
          obtain ⟨g', _, rfl⟩ := List.mem_map.mp hg
          intro z
          have z' := of_decide_eq_true z
          injection z' with z1 _
          have z2 := SX.S_inj (Sum.inr.inj z1)
          cases z2
      refine ⟨_, DGet.t (k := [Sum.inr (S []), Sum.inr (S [y])]) (tk _ _ hw.l) upd_same, ?_⟩
      rw [hnone]
      exact ⟨_, rfl, rfl, _, rfl, ifT rfl ⟨_, rfl, _, rfl, hadd _ tk rfl⟩⟩
    · rw [List.concat_eq_append] at *
      rw [show Txt.slice (S (u ++ [x])) (some (-1)) none = S [x] from SX.last_snoc _ x]
      have tk := same_new (o := HO.tup [V.str (S [x]), V.str (S [y])]) hpk
      refine ⟨_, DGet.t (k := [Sum.inr (S [x]), Sum.inr (S [y])]) (tk _ _ hw.l) upd_same, ?_⟩
      rw [tab_val]
      have hlast : laidM gs (u ++ [x]) y = (match leftM gs x y with | .none => u ++ [x] ++ [y] | .some z => u ++ z) := by
        unfold laidM
        rw [List.getLast?_concat, List.dropLast_concat]
        try rfl
      cases e : leftM gs x y with
      | none =>
        rw [e] at hlast
        exact ⟨_, rfl, rfl, _, rfl, ifT rfl ⟨_, rfl, _, rfl, hadd _ tk hlast⟩⟩
      | some z =>
        rw [e] at hlast
        have hzl := leftz hz e
        refine ⟨_, rfl, rfl, _, rfl, ifF rfl ⟨_, rfl, _, rfl, _, rfl, S (u ++ [x]), rfl, hlz, ?_⟩⟩
        rw [show Txt.slice (S (u ++ [x])) none (some (-1)) = S u from SX.butlast_snoc u x]
        refine ⟨_, rfl, S u, S z, rfl, rfl, ?_, ?_⟩
        · rw [SX.S_len, SX.S_len]
          rw [List.length_append] at hl
          exact sz_le (by omega)
        · rw [SX.S_cat]
          have q1 := q _ tk
          rw [hlast] at q1
          exact q1
theorem ok_alongL {f fL : Addr} {fd fdL : FuncData} (F : Fun K "_law_along" "_law_along" s__law_along f fd)
    (FL : Fun K "_law_laid" "_law_laid" s__law_laid fL fdL) (gL : mg "_law_laid" = some (.ref fL)) (bL : Binds K fdL ["_law_f", "_law_cloth", "_law_y"] []) (GL : FnOk P w K mg base CX0 1 fL fdL ["_law_f", "_law_cloth", "_law_y"] spLaidL) :
    FnOk P w K mg base CX0 2 f fd ["_law_f", "_law_cloth", "_law_lays_here"] spAlongL := by
  refine F.ok sc__law_along (fun vs H Q E h => ?_) (fun cdv A outer s H vs Q E hr h => ?_)
  · obtain ⟨_, _, _, _, _, _, rfl, _⟩ := h
    rfl
  · obtain ⟨wd, ld, sg, l, row, gs, rfl, hw, hz, hl, hrl, q⟩ := h
    refine ⟨_, (pss_cons (ps_set (i := 3) sc__law_along.nd rfl (Or.inl rfl) (Mq.pe_ls (pa_cons (pv 1) pa_nil)))
      (pss_cons (ps_for PassesOwn.never rfl (pi_str (pv 2)) (pg_name (i := 4) sc__law_along.nd rfl (Or.inl rfl))
        (pss_cons (ps_set (i := 1) sc__law_along.nd rfl (Or.inl rfl) (pe_call GL (hr.mono (by decide)) (by rfl) gL FL.kp bL .nil pass0 (pa_cons (pv 0) (pa_cons (pv 1) (pa_cons (pv 4) pa_nil)))))
        (pss_one (ps_expr (pe_bm PySem.F.plainAttrs_list PySem.F.slot_list_append PySem.F.type_list_append mt_append (pv 3) (pa_cons (pv 1) pa_nil))))))
      (pss_one (ps_ret (pv 3))))), ?_⟩
    refine ⟨_, rfl, sz_le (n := 1) (by decide), fun L hL _ => ?_⟩
    have s1 := same_new (o := HO.lst [V.str (S l)]) hL
    have hL1 : upd H L (.lst [V.str (S l)]) L = some (.lst (websV gs l (row.take 0))) := by
      rw [List.take_zero]
      exact upd_same
    generalize upd H L (.lst [V.str (S l)]) = H1 at s1 hL1 ⊢
    refine ⟨_, rfl, S row, rfl, ?_⟩
    refine for_it (walk_S row) (fun i σ H' => Same H H' ∧ H' L = some (.lst (websV gs l (row.take i))) ∧ ∃ o, σ = [some (.ref wd), some (.str (S (ledM gs l (row.take i)))), some (.str (S row)), some (.ref L), o]) ⟨s1, hL1, _, rfl⟩ (fun _ _ _ _ _ => trivial) ?_ ?_
    · rintro i x σ H2 H2' hi ⟨s2, hL2, o, rfl⟩ ⟨rfl, rfl⟩
      have hlen := ledz_len hz (row.take i) l
      rw [List.length_take] at hlen
      refine ⟨_, rfl, _, rfl, _, rfl, wd, ld, sg, ledM gs l (row.take i), gs, row.getD i 0, rfl, hw.same s2, hz, by omega, fun H4 s4 => ?_⟩
      have hL4 := s4 _ _ hL2
      refine ⟨_, rfl, Or.inl ⟨rfl, _, SqL.of hL4⟩, _, rfl, L, _, _, rfl, rfl, hL4, sz_lt (by rw [websV_len, List.length_take]; omega), push_same hL (s2.trans s4), ?_, some (.str (S [row.getD i 0])), ?_⟩
      · rw [upd_same, take_snoc hi, websV_snoc]
      · rw [take_snoc hi, led_snoc]
        rfl
    · rintro σ H2 ⟨s2, hL2, o, rfl⟩
      rw [List.take_length] at hL2
      exact ⟨_, rfl, q H2 L s2 hL hL2⟩
theorem ok_due {f fL : Addr} {fd fdL : FuncData} (F : Fun K "_law_due" "_law_due" s__law_due f fd) (B : Blt mg)
    (FL : Fun K "_law_along" "_law_along" s__law_along fL fdL) (gL : mg "_law_along" = some (.ref fL)) (bL : Binds K fdL ["_law_f", "_law_cloth", "_law_lays_here"] []) (GL : FnOk P w K mg base CX0 2 fL fdL ["_law_f", "_law_cloth", "_law_lays_here"] spAlongL) :
    FnOk P w K mg base CX0 3 f fd ["_law_f", "_law_cloth", "_law_lays_here", "_law_near", "_law_far", "_law_fresh"] spDue := by
  refine F.ok sc__law_due (fun vs H Q E h => ?_) (fun cdv A outer s H vs Q E hr h => ?_)
  · obtain ⟨_, _, _, _, _, _, _, _, _, rfl, _⟩ := h
    rfl
  · obtain ⟨wd, ld, sg, l, row, fr, gs, a, b, rfl, hw, hz, hl, hrl, hfl, hab, hbl, q⟩ := h
    refine ⟨_, (pss_cons (ps_par (i := 6) (j := 7) rfl sc__law_due.nd rfl rfl (by decide) rfl rfl (pa_cons (pe_call GL (hr.mono (by decide)) (by rfl) gL FL.kp bL .nil pass0 (pa_cons (pv 0) (pa_cons (pv 1) (pa_cons (pv 2) pa_nil)))) (pa_cons (pe_call GL (hr.mono (by decide)) (by rfl) gL FL.kp bL .nil pass0 (pa_cons (pv 0) (pa_cons (pv 1) (pa_cons (pe_op op_add_str (pe_op op_add_str (pe_slice C8.sl_txt (pv 2) po_none (po_some (pv 3))) (pv 5)) (pe_slice C8.sl_txt (pv 2) (po_some (pv 4)) po_none)) pa_nil)))) pa_nil)) (by rfl))
      (pss_cons (ps_for PassesOwn.never rfl (pi_range3 (by rfl) B.range (pa_cons (pe_op op_sub (pe_callB call_len (by rfl) B.len (by decide +kernel) (pa_cons (pv 2) pa_nil)) (pv 4)) (pa_cons (pe_un un_neg pe_int) (pa_cons (pe_un un_neg pe_int) pa_nil)))) (pg_name (i := 8) sc__law_due.nd rfl (Or.inl rfl))
        (pss_one (ps_if (pt_cmpR op_eq (pe_ix ix_list (pv 6) (pe_op op_sub (pe_callB call_len (by rfl) B.len (by decide +kernel) (pa_cons (pv 2) pa_nil)) (pv 8)) (fun _ _ => rfl)) (pe_ix ix_list (pv 7) (pe_op op_sub (pe_op op_sub (pe_callB call_len (by rfl) B.len (by decide +kernel) (pa_cons (pv 7) pa_nil)) pe_int) (pv 8)) (fun _ _ => rfl)) (nomark _)) (pss_one (ps_ret (pv 8))) pss_nil)))
      (pss_one (ps_ret (pe_un un_neg pe_int))))), ?_⟩
    have lens : ∀ u : List Nat, u.length ≤ 2000 → (S u).length ≤ sizeLine := fun u hu => by
      rw [SX.S_len]
      exact sz_le (by omega)
    have hal : a ≤ row.length := by omega
    refine ⟨_, rfl, _, rfl, _, rfl, wd, ld, sg, l, row, gs, rfl, hw, hz, hl, by omega, fun H1 L1 s1 n1 hL1 => ?_⟩
    refine ⟨_, rfl, _, rfl, _, rfl, _, rfl, _, rfl, S row, rfl, lens row (by omega), ?_⟩
    rw [SX.slice_to (by omega : (0 : Int) ≤ ((a : Nat) : Int)), Int.toNat_natCast]
    refine ⟨_, rfl, S (row.take a), S fr, rfl, rfl, ?_, ?_⟩
    · rw [SX.S_len, SX.S_len, List.length_take]
      exact sz_le (by omega)
    rw [SX.S_cat]
    refine ⟨_, rfl, _, rfl, _, rfl, S row, rfl, lens row (by omega), ?_⟩
    rw [SX.slice_from (by omega : (0 : Int) ≤ ((b : Nat) : Int)), Int.toNat_natCast]
    have nl : (row.take a ++ fr ++ row.drop b).length = a + fr.length + (row.length - b) := by
      rw [List.length_append, List.length_append, List.length_take, List.length_drop]
      omega
    refine ⟨S (row.take a ++ fr), S (row.drop b), rfl, rfl, ?_, ?_⟩
    · rw [SX.S_len, SX.S_len, List.length_append, List.length_take, List.length_drop]
      exact sz_le (by omega)
    rw [SX.S_cat]
    refine ⟨wd, ld, sg, l, row.take a ++ fr ++ row.drop b, gs, rfl, hw.same s1, hz, hl, by omega, fun H2 L2 s2 n2 hL2 => ?_⟩
    refine ⟨_, _, rfl, ?_⟩
    have g1 := s2 _ _ hL1
    have s02 := s1.trans s2
    refine ⟨_, rfl, _, _, rfl, len_S (by omega), _, rfl, _, _, rfl, rfl, _, rfl, _, rfl, ((row.length : Nat) : Int) - ((b : Nat) : Int), -1, -1, row.length - b + 1, rfl, ?_, ?_⟩
    · have := _root_.L2.RgC.neg (i := ((row.length : Nat) : Int) - ((b : Nat) : Int)) (j := -1) (by omega) (by omega) (by omega) (by omega)
      rw [show (((row.length : Nat) : Int) - ((b : Nat) : Int) - -1).toNat = row.length - b + 1 by omega] at this
      exact this
    have eN : ∀ j, j ≤ row.length - b → (websV gs l (row.take a ++ fr ++ row.drop b))[a + fr.length + j]? = some (.str (S (ledM gs l (curM row a b fr j)))) := by
      intro j hj
      rw [websV_at (by omega)]
      congr 4
      unfold curM
      rw [List.take_append, List.length_append, List.length_take, Nat.min_eq_left hal, List.take_of_length_le (by rw [List.length_append, List.length_take]; omega)]
      congr 2
      omega
    refine for_it (walk_rangeC (n := row.length - b + 1)) (fun j σ H' => H' = H2 ∧ (∀ i, i < j → ¬ EqAtJ gs l row a b fr i) ∧ ∃ o, σ = [some (.ref wd), some (.str (S l)), some (.str (S row)), some (.int (a : Nat)), some (.int (b : Nat)), some (.str (S fr)), some (.ref L1), some (.ref L2), o]) ⟨rfl, (fun i hi => absurd hi (Nat.not_lt_zero _)), _, rfl⟩ (fun _ _ _ _ _ => trivial) ?_ ?_
    · rintro j x σ H3 H3' hj ⟨rfl, hno, o, rfl⟩ ⟨rfl, rfl⟩
      have em : ((row.length : Nat) : Int) - ((b : Nat) : Int) + ((j : Nat) : Int) * (-1) = ((row.length - b - j : Nat) : Int) := by omega
      have e1 : ((row.length : Nat) : Int) - (((row.length : Nat) : Int) - ((b : Nat) : Int) + ((j : Nat) : Int) * (-1)) = ((b + j : Nat) : Int) := by omega
      have e2 : (((websV gs l (row.take a ++ fr ++ row.drop b)).length : Nat) : Int) - 1 - (((row.length : Nat) : Int) - ((b : Nat) : Int) + ((j : Nat) : Int) * (-1)) = ((a + fr.length + j : Nat) : Int) := by
        rw [websV_len, nl]
        omega
      refine ⟨_, rfl, _, rfl, _, _, rfl, len_S (by omega), _, rfl, _, _, rfl, rfl, L1, _, _, _, rfl, rfl, SqL.of g1, (by rw [e1]; exact atI_nat (websV_at (by omega))), ?_⟩
      refine ⟨_, rfl, _, rfl, _, _, rfl, Or.inl ⟨_, SqL.of hL2, rfl⟩, _, _, rfl, rfl, _, rfl, _, _, rfl, rfl, L2, _, _, _, rfl, rfl, SqL.of hL2, (by rw [e2]; exact atI_nat (eN j (by omega))), rfl, _, rfl, ?_⟩
      rw [S_dec]
      refine ite2 (fun hc => ?_) (fun hc => ?_)
      · have hE : EqAtJ gs l row a b fr j := (of_decide_eq_true hc : ledM gs l (row.take (b + j)) = ledM gs l (curM row a b fr j)).symm
        refine ⟨_, rfl, ?_⟩
        have qq := q _ _ s02 (Or.inl ⟨j, by omega, hno, hE, rfl⟩)
        rw [← em] at qq
        exact qq
      · refine ⟨rfl, fun i hi => ?_, _, rfl⟩
        rcases Nat.lt_or_ge i j with z | z
        · exact hno i z
        · have : i = j := by omega
          subst this
          exact fun hE => hc (decide_eq_true (show ledM gs l (row.take (b + i)) = ledM gs l (curM row a b fr i) from (show ledM gs l (curM row a b fr i) = ledM gs l (row.take (b + i)) from hE).symm))
    · rintro σ H3 ⟨rfl, hno, o, rfl⟩
      exact ⟨_, rfl, q _ _ s02 (Or.inr ⟨fun i hi => hno i (by omega), rfl⟩)⟩
end
end Lw

namespace Mq
open PySem PySem.Spec PyProof.Rows L2
/-! ### a dict beside a whole number -/
theorem dsa_eq (a : Addr) (b : Int) (u : Tok) : Builtin.Dict.dictSlotArgs "__eq__" ⟨[.ref a, .int b u], []⟩ = pure (.ref a, .int b u) := by rfl
theorem isa_eq (a : Addr) (b : Int) (u : Tok) : slotArgs "__eq__" 1 ⟨[.int b u, .ref a], []⟩ = pure (.int b u, [.ref a]) := by rfl
theorem sub_id : isSubtype (Value.type "int") (Value.type "dict") = pure false := by rfl
theorem dict_not_int (a : Addr) (b : Int) (u : Tok) : Meets (Builtin.«dict.__eq__» ⟨[.ref a, .int b u], []⟩) (fun _ R s => R (.ok (.ret .notImplemented)) s) := by
  intro prog w A R s hr
  unfold Builtin.«dict.__eq__»
  refine wpAny_bind ?_
  rw [dsa_eq]
  refine wpAny_pure ?_
  refine wpAny_bind ?_
  show wpAny _ _ (isSubtype (Value.type "int") (Value.type "dict")) _ _ _
  rw [sub_id]
  refine wpAny_pure ?_
  refine wpAny_bind (wpAny_rule ?_)
  exact wpAny_pure hr
theorem int_not_dict (a : Addr) (b : Int) (u : Tok) : Meets (Builtin.«int.__eq__» ⟨[.int b u, .ref a], []⟩) (fun _ R s => (∃ o es ep, s.heap.get? a = some o ∧ o.data = .dict es ep) ∧ R (.ok (.ret .notImplemented)) s) := by
  rintro prog w A R s ⟨⟨o, es, ep, ho, hd⟩, hr⟩
  unfold Builtin.«int.__eq__»
  refine wpAny_bind ?_
  rw [isa_eq]
  refine wpAny_pure ?_
  refine wpAny_bind (Q := _) ?_
  show wpAny _ _ (Builtin.Int.intOfSelf (.int b u)) _ _ _
  unfold Builtin.Int.intOfSelf
  refine wpAny_bind (wpAny_pure (wpAny_pure ?_))
  refine wpAny_bind ?_
  show wpAny _ _ (asInt? (.ref a)) _ _ _
  unfold asInt?
  refine wpAny_bind (wpAny_load ho ?_)
  rw [hd]
  refine wpAny_pure ?_
  refine wpAny_bind (wpAny_rule ?_)
  exact wpAny_pure hr
theorem op_eqDI {X : Cx} (hu : X.A.units < cLine) : OpR X (compareOp .Eq) (fun x y H Q => ∃ a kvs i, x = .ref a ∧ y = .int i ∧ H a = some (.dK kvs) ∧ Q (.bl false) H) := by
  intro pins s σ H x y v u Q I rx ry h
  obtain ⟨a, kvs, i, rfl, rfl, ha, q⟩ := h
  cases rx
  obtain ⟨t, rfl⟩ := ry
  have ok := I.hok a _ ha
  unfold ObjOk at ok
  obtain ⟨_, _, vs, _, dk⟩ := ok
  obtain ⟨o, es, ep, ho, hd, hcl⟩ : ∃ o es ep, s.heap.get? a = some o ∧ o.data = .dict es ep ∧ o.cls = .type "dict" := by
    obtain ⟨o, es, ep, h1, h2, h3, _⟩ := dk
    exact ⟨o, es, ep, h1, h3, h2.1⟩
  refine PySem.W.cmp_ofEq (SeqAt.rc_eq_decline_or (k := false) (Ta := "dict") (Tb := "int") ⟨o, ho, hcl⟩ (rfl : typeOf (.int i t) = _) (by decide) sub_id PySem.F.slot_dict_eq PySem.F.slot_int_eq_refl (fun Q' hq => ?_) (fun Q' hq => ?_) (fun Q' hq => ?_) (Or.inr hu) ⟨.bl false, H, I, rfl, q⟩)
  · exact call_meets PySem.F.slot_dict_eq ⟨o, ho, hcl⟩ PySem.F.entry_dict_eq (PySem.F.args_dict_eq_2 _ _) (dict_not_int a i t) hq
  · exact call_meets PySem.F.slot_int_eq_refl (rfl : typeOf (.int i t) = _) PySem.F.entry_int_eq (PySem.F.args_int_eq_2 _ _) (int_not_dict a i t) ⟨⟨o, es, ep, ho, hd⟩, hq⟩
  · exact wpAny_pure hq
theorem op_or {X : Cx} {f : Value → Value → Sem Value} {r1 r2 : R2} (h1 : OpR X f r1) (h2 : OpR X f r2) : OpR X f (fun x y H Q => r1 x y H Q ∨ r2 x y H Q) := by
  intro pins s σ H x y v u Q I rx ry h
  rcases h with h | h
  · exact h1 pins s σ H x y v u Q I rx ry h
  · exact h2 pins s σ H x y v u Q I rx ry h
end Mq

namespace Lw
open PySem PySem.Spec PyProof.Rows L2 Mq
open SX (S)
/-! ### values that are no places; what a weaving tells -/
def oddP (size : Nat) (p5 p7 p8 : Addr) : List V := [.int (-1), .int ((size : Nat) + 1), .non, .bl true, .str "0", .ref p5, .int ((10 : Int) ^ 39), .ref p7, .ref p8]
structure OddPl (K : PySem.W.Frag) (H : Hp) (D C p5 p7 p8 : Addr) : Prop where
  t5 : SqT K H p5 []
  t7 : H p7 = some (.lst [])
  n7 : p7 ≠ sysModules
  t8 : H p8 = some (.dK [])
  m7 : p7 ≠ D ∧ p7 ≠ C
  m8 : p8 ≠ D ∧ p8 ≠ C
def plD (d : PyData) : PyData := .list [d, .bool true]
def plK (k : Str) (d : PyData) : PyData := .list [.str k, d]
def okB (d : PyData) : Bool := d.showable && (decide (d.depth ≤ 40) && decide (d.shown.length ≤ 1000))
theorem ok_of {d : PyData} (h : okB d = true) : ShowOk d := by
  obtain ⟨a, b⟩ := Bool.and_eq_true_iff.mp h
  obtain ⟨b, c⟩ := Bool.and_eq_true_iff.mp b
  have c' := of_decide_eq_true c
  exact ⟨a, of_decide_eq_true b, Nat.le_trans c' (by decide)⟩
theorem ok_two {d : PyData} (h : (okB (plD d) && okB (plK "place" d)) = true) : ShowOk (plD d) ∧ ShowOk (plK "place" d) := by
  obtain ⟨a, b⟩ := Bool.and_eq_true_iff.mp h
  exact ⟨ok_of a, ok_of b⟩
theorem gd_key (k : Str) (h : k = "place" ∨ k = "row" ∨ k = "web") : Gd 1000 2 (.str k) := by
  rcases h with rfl | rfl | rfl
  · exact ⟨by decide +kernel, rfl, by decide, by decide +kernel, rfl⟩
  · exact ⟨by decide +kernel, rfl, by decide, by decide +kernel, rfl⟩
  · exact ⟨by decide +kernel, rfl, by decide, by decide +kernel, rfl⟩
theorem ok_plK {k : Str} {d : PyData} (hk : k = "place" ∨ k = "row" ∨ k = "web") (h : Gd 1000 2 d) : ShowOk (plK k d) := (gd_lst (w := 1000) (n := 2) (m := 2) (ds := [.str k, d]) (fun x hx => by
  simp only [List.mem_cons, List.not_mem_nil, or_false] at hx
  rcases hx with rfl | rfl
  · exact gd_key k hk
  · exact h) (Nat.le_refl 2)).ok (by decide) (by decide)
theorem ok_plD {d : PyData} (h : Gd 1000 2 d) : ShowOk (plD d) := (gd_lst (w := 1000) (n := 2) (m := 2) (ds := [d, .bool true]) (fun x hx => by
  simp only [List.mem_cons, List.not_mem_nil, or_false] at hx
  rcases hx with rfl | rfl
  · exact h
  · exact ⟨rfl, rfl, by decide, by decide, rfl⟩) (Nat.le_refl 2)).ok (by decide) (by decide)
theorem PlBadS.up {K : PySem.W.Frag} {H : Hp} {v : V} {a n : Nat} (h : PlBadS K H v 0 n) : PlBadS K H v a n := fun H' e => by
  rcases h H' e with ⟨i, hv, hi⟩ | h
  · exact Or.inl ⟨i, hv, fun z => hi ⟨by omega, z.2⟩⟩
  · exact Or.inr h
/-- what may be asked beside a whole number -/
def EqAble (K : PySem.W.Frag) (H : Hp) (v : V) : Prop := (∃ d, Dp K H v d ∧ SeqAt.shaped d = true) ∨ ∃ a, v = .ref a ∧ H a = some (.dK [])
section
variable {K : PySem.W.Frag} {H H' : Hp} {D C p5 p7 p8 : Addr} {size : Nat}
theorem EqAble.same {v : V} (h : EqAble K H v) (e : Same H H') : EqAble K H' v := by
  rcases h with ⟨d, a, b⟩ | ⟨a, b, c⟩
  · exact Or.inl ⟨d, Mq.Dp.same e a, b⟩
  · exact Or.inr ⟨a, b, e _ _ c⟩
theorem OddPl.same (o : OddPl K H D C p5 p7 p8) (e : Same H H') : OddPl K H' D C p5 p7 p8 := ⟨Same.tup e o.t5, e _ _ o.t7, o.n7, e _ _ o.t8, o.m7, o.m8⟩
theorem OddPl.off {T : Nat} (o : OddPl K H D C p5 p7 p8) (f : Off D C H H') (k : DeckAt D C T H) : OddPl K H' D C p5 p7 p8 :=
  ⟨f.tup k o.t5, f _ _ o.m7.1 o.m7.2 o.t7, o.n7, f _ _ o.m8.1 o.m8.2 o.t8, o.m7, o.m8⟩
theorem odd_pl (o : OddPl K H D C p5 p7 p8) (hs : size ≤ 300) : ∀ v ∈ oddP size p5 p7 p8, PlBadS K H v 0 size ∧ (∃ d, Dg K H v d ∧ ShowOk (plD d) ∧ ShowOk (plK "place" d)) ∧ EqAble K H v := by
  intro v hv
  have no : ∀ {v : V} {a : String}, (∀ H', Same H H' → TyX K H' v (.type a)) → a ∈ ["NoneType", "bool", "int", "str", "list", "tuple", "dict"] → a ≠ "int" → a ≠ "bool" → PlBadS K H v 0 size := fun t m n b H' e => Or.inr (Or.inr ⟨_, t H' e, m, n, b⟩)
  unfold oddP at hv
  simp only [List.mem_cons, List.not_mem_nil, or_false] at hv
  rcases hv with rfl | rfl | rfl | rfl | rfl | rfl | rfl | rfl | rfl
  · exact ⟨fun _ _ => Or.inl ⟨-1, rfl, by omega⟩, ⟨_, .int _, ok_two (by decide +kernel)⟩, Or.inl ⟨_, .int _, by decide +kernel⟩⟩
  · have g : Gd 1000 2 (.int ((size : Nat) + 1 : Int)) := Gd.mono (gd_int (k := size + 1) (by omega)) (by decide) (by decide)
    exact ⟨fun _ _ => Or.inl ⟨_, rfl, by omega⟩, ⟨_, .int _, ok_plD g, ok_plK (Or.inl rfl) g⟩, Or.inl ⟨_, .int _, shaped_gd g (by decide)⟩⟩
  · exact ⟨no (fun _ _ => .base .non) (by decide) (by decide) (by decide), ⟨_, .non, ok_two (by decide +kernel)⟩, Or.inl ⟨_, .non, by decide +kernel⟩⟩
  · exact ⟨fun _ _ => Or.inr (Or.inl ⟨_, rfl⟩), ⟨_, .bl _, ok_two (by decide +kernel)⟩, Or.inl ⟨_, .bl _, by decide +kernel⟩⟩
  · exact ⟨no (fun _ _ => .base (.str _)) (by decide) (by decide) (by decide), ⟨_, .str _, ok_two (by decide +kernel)⟩, Or.inl ⟨_, .str _, by decide +kernel⟩⟩
  · exact ⟨no (fun _ e => ty_tup (Same.tup e o.t5)) (by decide) (by decide) (by decide), ⟨_, .tup o.t5 .nil, ok_two (by decide +kernel)⟩, Or.inl ⟨_, .tup o.t5 .nil, by decide +kernel⟩⟩
  · refine ⟨fun _ _ => Or.inl ⟨_, rfl, fun z => ?_⟩, ⟨_, .int _, ok_two (by decide +kernel)⟩, Or.inl ⟨_, .int _, by decide +kernel⟩⟩
    have h1 : (1000 : Int) < (10 : Int) ^ 39 := by decide
    have h2 := z.2
    omega
  · exact ⟨no (fun _ e => ty_list (SqL.of (e _ _ o.t7))) (by decide) (by decide) (by decide), ⟨_, .lst o.n7 (SqL.of o.t7) .nil, ok_two (by decide +kernel)⟩, Or.inl ⟨_, .lst (SqL.of o.t7) .nil, by decide +kernel⟩⟩
  · exact ⟨no (fun _ e => .base (.dK (e _ _ o.t8))) (by decide) (by decide) (by decide), ⟨_, .dct o.t8 .nil, ok_two (by decide +kernel)⟩, Or.inr ⟨_, rfl, o.t8⟩⟩
end
end Lw

namespace Lw
open PySem PySem.Spec PyProof.Rows L2 Mq
open SX (S)
theorem GsOk.z {sg : List Nat} {gs : List Fd} (h : GsOk sg gs) : zOk gs := by
  intro g hg
  rcases (h.ok g hg).2.2 with e | ⟨c, _, e⟩
  · rw [e]
    exact Nat.zero_le _
  · rw [e]
    exact Nat.le_refl 1
theorem laid_in {sg : List Nat} {gs : List Fd} (h : GsOk sg gs) {w : List Nat} {y : Nat} (hw : ∀ c ∈ w, c ∈ sg) (hy : y ∈ sg) : ∀ c ∈ laidM gs w y, c ∈ sg := by
  have add : ∀ c ∈ w ++ [y], c ∈ sg := by
    intro c hc
    rcases List.mem_append.mp hc with hc | hc
    · exact hw c hc
    · rw [List.mem_singleton.mp hc]
      exact hy
  intro c hc
  unfold laidM at hc
  split at hc
  · exact add c hc
  · split at hc
    · exact add c hc
    · rename_i z e
      obtain ⟨f, hf, _, _, rfl⟩ := left_some e
      rcases List.mem_append.mp hc with hc | hc
      · exact hw c ((List.dropLast_sublist w).subset hc)
      · rcases (h.ok f hf).2.2 with e | ⟨d, hd, e⟩
        · rw [e] at hc
          cases hc
        · rw [e] at hc
          rw [List.mem_singleton.mp hc]
          exact hd
theorem led_in {sg : List Nat} {gs : List Fd} (h : GsOk sg gs) : ∀ {row w : List Nat}, (∀ c ∈ w, c ∈ sg) → (∀ c ∈ row, c ∈ sg) → ∀ c ∈ ledM gs w row, c ∈ sg
  | [], w, hw, _ => hw
  | y :: row, w, hw, hr => led_in h (row := row) (laid_in h hw (hr y (List.mem_cons_self ..))) fun c hc => hr c (List.mem_cons_of_mem _ hc)
/-- a text over the signs -/
theorem gd_sg {sg : List Nat} (hs : SgOk sg) {l : List Nat} (h : ∀ c ∈ l, c ∈ sg) (hl : l.length ≤ 900) : Gd 1000 2 (.str (S l)) :=
  Gd.mono (gd_str (w := 900) (fun c hc => by have := hs.low c (h c hc); omega) hl) (by decide) (by decide)
theorem call_lenK {X : Cx} {K : PySem.W.Frag} (h : X.K = K) : CallR X (.builtin "len") (fun xs H Q => ∃ x n, xs = [x] ∧ LenV K x H n ∧ Q (V.int (n : Nat)) H) := by
  subst h
  exact call_len
theorem lst_ok {ds : List PyData} (h : ∀ d ∈ ds, Gd 1000 2 d) (hl : ds.length ≤ 4) : ShowOk (.list ds) ∧ (PyData.list ds).hasDict = false := by
  have g := gd_lst (w := 1000) (n := 2) (m := 4) h hl
  exact ⟨g.ok (by decide) (by decide), PyData.hasDict_of_canLay _ g.cl⟩
def spStands (K : PySem.W.Frag) (C CN : Addr) : Sp := fun vs H Q _ => ∃ (N : Addr → Prop) (D Cc : Addr) (T : Nat) (wd ld r fa ta n B : Addr) (sg w row : List Nat) (gs fs : List Fd) (olds : List (List Nat)), vs = [.ref D, .ref wd, .ref r, .ref n, .str (S w), .str (S row)] ∧ DeckAt D Cc T H ∧ T ≤ 900000 ∧
  WAt H wd ld sg gs ∧ GsOk sg gs ∧ SgOk sg ∧ fs.Perm gs ∧ FsOk sg fs ∧ BkWh K H C r sg fs fa ta ∧ WvAt K H CN N n r B fs w row olds ∧ B ≠ Cc ∧ (∀ c ∈ w, c ∈ sg) ∧ (∀ c ∈ row, c ∈ sg) ∧ w.length ≤ 200 ∧ row.length ≤ 200 ∧
  ∀ H', DeckAt D Cc (T + 4) H' → Off D Cc H H' → Q (.bl true) H'
/-- whether the webs along a short row are told otherwise -/
def tWebs (K : PySem.W.Frag) (C : Addr) : TT := fun σ H Q => ∃ (r fa ta La : Addr) (sg w row : List Nat) (fs gs : List Fd), σ[2]? = some (some (.ref r)) ∧ σ[4]? = some (some (.str (S w))) ∧ σ[5]? = some (some (.str (S row))) ∧ σ[6]? = some (some (.ref La)) ∧
  BkAt H C r sg fs fa ta ∧ FsOk sg fs ∧ SgOk sg ∧ GsOk sg gs ∧ ledM fs = ledM gs ∧ (∀ c ∈ w, c ∈ sg) ∧ (∀ c ∈ row, c ∈ sg) ∧ w.length ≤ 200 ∧ row.length ≤ 200 ∧ H La = some (.lst (websV fs w row)) ∧ ∀ H', Same H H' → Q false H'
section
variable {P : Program} {w : World} {K : PySem.W.Frag} {mg : Str → Option Value} {base : Heap} {C CN CW CR : Addr}
theorem ok_stands {f fA fD fP fW fS fp1 fp2 g1 g2 fN fE : Addr} {fd fdA fdD fdP fdW fdS fdp1 fdp2 fdN fdE : FuncData} (F : Fun K "_law_stands" "_law_stands" s__law_stands f fd) (B : Blt mg) (R : WvC K CN)
    (FA : Fun K "_law_along" "_law_along" s__law_along fA fdA) (gAl : mg "_law_along" = some (.ref fA)) (bA : Binds K fdA ["_law_f", "_law_cloth", "_law_lays_here"] []) (GA : FnOk P w K mg base CX0 2 fA fdA ["_law_f", "_law_cloth", "_law_lays_here"] spAlongL)
    (FD : Fun K "_law_draw" "_law_draw" s__law_draw fD fdD) (gD : mg "_law_draw" = some (.ref fD)) (bD : Binds K fdD ["_law_deck_here", "_law_many"] []) (GD : FnOk P w K mg base CX0 1 fD fdD ["_law_deck_here", "_law_many"] spDraw)
    (FP : Fun K "_law_pick" "_law_pick" s__law_pick fP fdP) (gP : mg "_law_pick" = some (.ref fP)) (bP : Binds K fdP ["_law_deck_here", "_law_some"] []) (GP : FnOk P w K mg base CX0 2 fP fdP ["_law_deck_here", "_law_some"] spPick)
    (FW : Fun K "webs_along" "webs_along" s_webs_along fW fdW) (gW : mg "webs_along" = some (.ref fW)) (bW : Binds K fdW ["book", "web", "row"] []) (GW : FnOk P w K mg base (L2.CX P w) 5 fW fdW ["book", "web", "row"] (spAns K C CW CR 0))
    (FS : Fun K "_law_spot" "_law_spot" s__law_spot fS fdS) (gS : mg "_law_spot" = some (.ref fS)) (bS : Binds K fdS ["_law_note", "_law_place_now", "_law_is_named"] []) (GS : FnG P w K mg base CX0 5 fS fdS ["_law_note", "_law_place_now", "_law_is_named"] (spSpot K CN))
    (p1 : PropOf K CN "row_now" fp1 g1) (bp1 : Binds K fdp1 ["self"] []) (Gp1 : FnOk P w K mg base CX0 1 g1 fdp1 ["self"] (spNow K CN))
    (p2 : PropOf K CN "web_now" fp2 g2) (bp2 : Binds K fdp2 ["self"] []) (Gp2 : FnOk P w K mg base CX0 1 g2 fdp2 ["self"] (spWebNow K CN))
    (mN : Meth K CN "__len__" fN) (bN : Binds K fdN ["self"] []) (GN : FnOk P w K mg base CX0 1 fN fdN ["self"] (spLenW K CN))
    (mE : Meth K C "__eq__" fE) (bE : Binds K fdE ["self", "other"] []) (GE : FnOk P w K mg base CX0 1 fE fdE ["self", "other"] (spSame K C)) :
    FnG P w K mg base CX0 6 f fd ["_law_deck_here", "_law_f", "_law_code_here", "_law_note", "_law_cloth", "_law_lays_here"] (spStands K C CN) := by
  refine Mq.Fun.okG F sc__law_stands (fun vs H Q E h => ?_) (fun cdv A outer s H vs Q E gA hr h => ?_)
  · obtain ⟨_, _, _, _, _, _, _, _, _, _, _, _, _, _, _, _, _, rfl, _⟩ := h
    rfl
  · obtain ⟨N, D, Cc, T, wd, ld, r, fa, ta, n, Bf, sg, w, row, gs, fs, olds, rfl, hdk, hT, hw, hgs, hs, hperm, hfs, hbk, hwv, hBC, hwi, hri, hwl, hrl, q⟩ := h
    have hr5 : Room 5 (A.deeper (envOfC "_law_stands" (defScope s__law_stands) s.heap.objs.size f cdv)) := hr
    have hu64 : (A.deeper (envOfC "_law_stands" (defScope s__law_stands) s.heap.objs.size f cdv)).units + 64 < cLine := by
      have := hr.un
      omega
    refine ⟨_, (pss_cons (ps_set (i := 6) sc__law_stands.nd rfl (Or.inl rfl) (pe_call GA (hr.mono (by decide)) (by rfl) gAl FA.kp bA .nil pass0 (pa_cons (pv 1) (pa_cons (pv 4) (pa_cons (pv 5) pa_nil)))))
      (pss_cons (ps_if (pt_cmpR op_ne (pe_callB (call_rep hr gA) (by rfl) B.repr (by decide +kernel) (pa_cons (Mq.pe_ls (pa_cons (pe_prop (E := fun _ _ _ => False) (pv 3) R.cls p1 Gp1 (hr.mono (by decide)) bp1 .nil pass0 (by rfl)) (pa_cons (pe_prop (E := fun _ _ _ => False) (pv 3) R.cls p2 Gp2 (hr.mono (by decide)) bp2 .nil pass0 (by rfl)) (pa_cons (pe_callB (call_lenO mN GN (hr.mono (by decide)) bN pass0) (by rfl) B.len (by decide +kernel) (pa_cons (pv 3) pa_nil)) (pa_cons (pe_fld (pv 3) rfl) pa_nil))))) pa_nil)) (pe_callB (call_rep hr gA) (by rfl) B.repr (by decide +kernel) (pa_cons (Mq.pe_ls (pa_cons (pv 5) (pa_cons (pe_ix ix_list (pv 6) (pe_un un_neg pe_int) (fun _ _ => rfl)) (pa_cons (pe_callB call_len (by rfl) B.len (by decide +kernel) (pa_cons (pv 5) pa_nil)) (pa_cons (pv 4) pa_nil))))) pa_nil)) (nomark _)) (pss_one (ps_ret pe_bl)) pss_nil)
      (pss_cons (ps_for (passes_of rfl) rfl (pi_list (pe_op op_cat (Mq.pe_ls (pa_cons pe_int (pa_cons (pe_callB call_len (by rfl) B.len (by decide +kernel) (pa_cons (pv 5) pa_nil)) pa_nil))) (pe_lc (own := [("_law_k", 9)]) (g := gName 9) (tt := tYes) rfl sc__law_stands.nd (pi_range1 (by rfl) B.range (pa_cons pe_int pa_nil)) (blkOk_by (own := [("_law_k", 9)]) (N := ["_law_deck_here", "_law_f", "_law_code_here", "_law_note", "_law_cloth", "_law_lays_here", "_law_along_here", "_law_place_now", "_law_odd", "_law_k"]) (sc := defScope s__law_stands) (by decide +kernel)) (fun _ _ _ _ _ => pg_name (i := 9) sc__law_stands.nd rfl (Or.inl rfl)) (fun _ _ _ _ _ => pts_nil) (fun _ _ _ _ _ => (pe_call GD (hr.mono (by decide)) (by rfl) gD FD.kp bD .nil pass0 (pa_cons (pv 0) (pa_cons (pe_op op_add (pe_callB (call_lenK (K := K) rfl) (by rfl) B.len (by decide +kernel) (pa_cons (pv 5) pa_nil)) pe_int) pa_nil))))))) (pg_name (i := 7) sc__law_stands.nd rfl (Or.inl rfl))
        (pss_one (ps_if (pt_cmpR op_ne (pe_callB (call_rep hr gA) (by rfl) B.repr (by decide +kernel) (pa_cons (Mq.pe_ls (pa_cons (Mq.pe_callG GS gA hr5 (by rfl) gS FS.kp bS pass0 (pa_cons (pv 3) (pa_cons (pv 7) (pa_cons pe_bl pa_nil)))) (pa_cons (Mq.pe_callG GS gA hr5 (by rfl) gS FS.kp bS pass0 (pa_cons (pv 3) (pa_cons (pv 7) (pa_cons pe_bl pa_nil)))) pa_nil))) pa_nil)) (pe_callB (call_repP hr gA) (by rfl) B.repr (by decide +kernel) (pa_cons (pe_op op_rep (Mq.pe_ls (pa_cons (pe_ix ix_list (pv 6) (pv 7) (fun _ _ => rfl)) pa_nil)) pe_int) pa_nil)) (nomark _)) (pss_one (ps_ret pe_bl)) pss_nil)))
      (pss_cons (ps_if (PT_imp (t' := tWebs K C) (PW.pt (pw_and (pt_cmpR op_lt (pe_callB call_len (by rfl) B.len (by decide +kernel) (pa_cons (pv 5) pa_nil)) pe_int (nomark _)) (pw_and1 (pt_cmpR (op_neD hu64) (pe_callS (E := WE (fun _ _ _ _ => False)) GW hr5 (by rfl) gW FW.kp bW (fun σ => passAt takes0 σ) (pa_cons (pv 2) (pa_cons (pv 4) (pa_cons (pv 5) pa_nil)))) (pe_callTy call_tuple_of (by rfl) B.tuple (by decide +kernel) (pa_cons (pv 6) pa_nil)) (nomark _))))) (fun σ H Q h => ?wbs)) (pss_one (ps_ret pe_bl)) pss_nil)
      (pss_cons (ps_set (i := 8) sc__law_stands.nd rfl (Or.inl rfl) (pe_call GP (hr.mono (by decide)) (by rfl) gP FP.kp bP .nil pass0 (pa_cons (pv 0) (pa_cons (Mq.pe_ls (pa_cons (pe_un un_neg pe_int) (pa_cons (pe_op op_add (pe_callB call_len (by rfl) B.len (by decide +kernel) (pa_cons (pv 5) pa_nil)) pe_int) (pa_cons pe_non (pa_cons pe_bl (pa_cons pe_str (pa_cons (pe_tup pa_nil) (pa_cons (pe_op op_pow pe_int pe_int) (pa_cons (Mq.pe_ls pa_nil) (pa_cons pe_dnewK pa_nil)))))))))) pa_nil))))
      (pss_one (ps_ret (pe_and (pe_cmpR op_eq (pe_callB (call_rep hr gA) (by rfl) B.repr (by decide +kernel) (pa_cons (Mq.pe_callG GS gA hr5 (by rfl) gS FS.kp bS pass0 (pa_cons (pv 3) (pa_cons (pv 8) (pa_cons (pe_cmpR op_eq (pe_op op_modN (pe_callB call_len (by rfl) B.len (by decide +kernel) (pa_cons (pv 5) pa_nil)) pe_int) pe_int (nomark _)) pa_nil)))) pa_nil)) (pe_callB (call_rep hr gA) (by rfl) B.repr (by decide +kernel) (pa_cons (Mq.pe_ls (pa_cons (pv 8) (pa_cons pe_bl pa_nil))) pa_nil)) (nomark _)) (pe_one (pe_cmpR (op_eqO mE GE (hr.mono (by decide)) bE pass0) (pe_fld (pv 3) rfl) (pv 2) (nomark _))))))))))), ?_⟩
    case wbs =>
      obtain ⟨r, fa, ta, La, sg, w, row, fs, gs, e2, e4, e5, e6, hb, hfs, hs, hgs, he, hwi, hri, hwl, hrl, hLa, q⟩ := h
      refine ⟨_, e5, _, _, rfl, len_S (by omega), _, _, rfl, rfl, _, rfl, ite2 (fun _ => ?_) (fun _ => q H (Same.refl H))⟩
      refine ⟨_, e2, _, e4, _, e5, r, fa, ta, sg, fs, _, _, rfl, hb, hfs, Or.inl ⟨w, row, ⟨rfl, hwi, by omega⟩, ⟨rfl, hri, by omega⟩, fun H1 x s1 td => ?_⟩⟩
      refine ⟨_, e6, La, _, rfl, Or.inl ⟨SqL.of (s1 _ _ hLa), fun t ht => ?_⟩⟩
      have s2 := same_new (o := HO.tup (websV fs w row)) ht
      have d2 : Td K (upd H1 t (.tup (websV fs w row))) (.ref t) (ansM fs w row 0) := by
        refine .tup (xs := websV fs w row) (Or.inl (Or.inl upd_same)) ?_
        have := TdAll.of_strs (K := K) (H := upd H1 t (.tup (websV fs w row))) (xs := (websM fs w row).map S)
        rw [List.map_map, List.map_map] at this
        exact this
      have gd : Gd (201 * (400 + 1)) 1 (ansM fs w row 0) := by
        refine gd_tup (w := 400) (n := 0) (m := 201) (fun d hd => ?_) ?_
        · obtain ⟨x, hx, rfl⟩ := List.mem_map.mp hd
          unfold websM at hx
          obtain ⟨i, hi, rfl⟩ := List.mem_map.mp hx
          rw [he]
          refine gd_str (fun c hc => ?_) ?_
          · have := hs.low c (led_in hgs hwi (fun c hc => hri c ((List.take_sublist i row).subset hc)) c hc)
            omega
          · have := ledz_len hgs.z (row.take i) w
            rw [List.length_take] at this
            omega
        · unfold websM
          rw [List.length_map, List.length_map, List.length_range]
          omega
      refine ⟨_, _, (td.same s2).dp, d2.dp, shaped_gd gd (by decide), shaped_gd gd (by decide), _, rfl, ?_⟩
      rw [eqv_td td]
      exact q _ (s1.trans s2)
    have he : ledM fs = ledM gs := led_eq hgs.nd hperm
    have hev : websV gs w row = websV fs w row := by
      unfold websV websM
      rw [he]
    have wk : ∀ k, k ≤ row.length → Gd 1000 2 (.str (S (ledM fs w (row.take k)))) := fun k hk => by
      rw [he]
      refine gd_sg hs (led_in hgs hwi fun c hc => hri c ((List.take_sublist k row).subset hc)) ?_
      have := ledz_len hgs.z (row.take k) w
      rw [List.length_take] at this
      omega
    refine ⟨_, rfl, _, rfl, _, rfl, wd, ld, sg, w, row, gs, rfl, hw, hgs.z, by omega, by omega, fun H1 La s1 nLa hLa => ?_⟩
    rw [hev] at hLa
    have wv1 := hwv.same s1
    have bk1 := hbk.same s1
    have dk1 := hdk.same s1
    have mLa := new_ne' hdk nLa
    obtain ⟨dx, L, us, h1, h2, h3, h4⟩ := id wv1.ex
    obtain ⟨ok1, _⟩ := lst_ok (ds := [.str (S row), .str (S (ledM fs w row)), .int (row.length : Nat), .str (S w)]) (fun d hd => by
      simp only [List.mem_cons, List.not_mem_nil, or_false] at hd
      rcases hd with rfl | rfl | rfl | rfl
      · exact gd_sg hs hri (by omega)
      · have := wk row.length (Nat.le_refl _)
        rw [List.take_length] at this
        exact this
      · exact Gd.mono (gd_int (by omega)) (by decide) (by decide)
      · exact gd_sg hs hwi (by omega)) (by show 4 ≤ 4; decide)
    refine ⟨_, rfl, n, dx, _, rfl, h1, _, n, r, Bf, fs, w, row, olds, rfl, wv1, _, rfl, n, dx, _, rfl, h1, _, n, r, Bf, fs, w, row, olds, rfl, wv1, _, rfl, n, dx, _, rfl, h1, _, n, r, Bf, fs, w, row, olds, rfl, wv1, by omega, row.length, rfl, by omega, _, rfl, n, CN, dx, _, _, rfl, h1, R.cls, R.nw, wv_web, sz_le (n := 4) (by decide), fun pa hpa hna => ?_⟩
    have t2 := same_new (o := HO.lst [V.str (S row), V.str (S (ledM fs w row)), V.int (row.length : Nat), V.str (S w)]) hpa
    have za : upd H1 pa (.lst [V.str (S row), V.str (S (ledM fs w row)), V.int (row.length : Nat), V.str (S w)]) pa = some (.lst [V.str (S row), V.str (S (ledM fs w row)), V.int (row.length : Nat), V.str (S w)]) := upd_same
    refine ⟨_, .list [.str (S row), .str (S (ledM fs w row)), .int (row.length : Nat), .str (S w)], rfl, .lst hna (SqL.of za) (.cons (.str _) (.cons (.str _) (.cons (.int _) (.cons (.str _) .nil)))), ok1.sh, ok1.de, ok1.le, ?_⟩
    generalize upd H1 pa (.lst [V.str (S row), V.str (S (ledM fs w row)), V.int (row.length : Nat), V.str (S w)]) = H2 at t2 za ⊢
    have hLa2 := t2 _ _ hLa
    have hLa2' := hLa2
    rw [websV_last] at hLa2'
    refine ⟨_, rfl, _, rfl, _, rfl, La, _, -1, _, rfl, rfl, SqL.of hLa2', atI_last _ _, _, rfl, _, _, rfl, len_S (by omega), _, rfl, sz_le (n := 4) (by decide), fun pb hpb hnb => ?_⟩
    have t3 := same_new (o := HO.lst [V.str (S row), V.str (S (ledM fs w row)), V.int (row.length : Nat), V.str (S w)]) hpb
    have zb : upd H2 pb (.lst [V.str (S row), V.str (S (ledM fs w row)), V.int (row.length : Nat), V.str (S w)]) pb = some (.lst [V.str (S row), V.str (S (ledM fs w row)), V.int (row.length : Nat), V.str (S w)]) := upd_same
    refine ⟨_, .list [.str (S row), .str (S (ledM fs w row)), .int (row.length : Nat), .str (S w)], rfl, .lst hnb (SqL.of zb) (.cons (.str _) (.cons (.str _) (.cons (.int _) (.cons (.str _) .nil)))), ok1.sh, ok1.de, ok1.le, ?_⟩
    generalize upd H2 pb (.lst [V.str (S row), V.str (S (ledM fs w row)), V.int (row.length : Nat), V.str (S w)]) = H3 at t3 zb ⊢
    refine ⟨rfl, _, rfl, ifF (by rw [decide_eq_true rfl]; rfl) ?_⟩
    have t13 := t2.trans t3
    have hLa3 := t13 _ _ hLa
    have wv3 := wv1.same t13
    have bk3 := bk1.same t13
    have dk3 := dk1.same t13
    have off3 : Off D Cc H H3 := Off.same (s1.trans t13)
    clear hLa2 hLa2' za zb t2 t3 hna hnb hpa hpb h1 h2 h3 h4
    refine ⟨_, rfl, _, _, rfl, len_S (by omega), sz_le (n := 2) (by decide), fun q1 hq1 _ => ?_⟩
    have t4 := same_new (o := HO.lst [V.int 0, V.int (row.length : Nat)]) hq1
    have zq1 : upd H3 q1 (.lst [V.int 0, V.int (row.length : Nat)]) q1 = some (.lst [V.int 0, V.int (row.length : Nat)]) := upd_same
    have mq1 := new_ne' dk3 hq1
    have dk4 := dk3.same t4
    have hLa4 := t4 _ _ hLa3
    have wv4 := wv3.same t4
    have bk4 := bk3.same t4
    have off4 := off3.trans (Off.same (D := D) (C := Cc) t4)
    generalize upd H3 q1 (.lst [V.int 0, V.int (row.length : Nat)]) = H4 at zq1 dk4 hLa4 wv4 bk4 off4 ⊢
    clear t4 dk3 wv3 bk3 hLa3 off3
    refine ⟨3, rfl, by decide, by decide, fun Lc hLc => ?_⟩
    have mLc := new_ne' dk4 hLc
    refine lc_yes (walk_rng (n := 3)) (fun i H' => DeckAt D Cc (T + i) H' ∧ Off D Cc H4 H' ∧ ∃ p : List Nat, p.length = i ∧ (∀ c ∈ p, c ≤ row.length) ∧ H' Lc = some (.lst (p.map fun c => .int (c : Nat)))) ⟨dk4.same (same_new hLc), Off.same (same_new hLc), [], rfl, (fun _ h => by cases h), upd_same⟩ (fun _ _ _ _ => trivial) ?_ ?_
    · rintro i x H5 H6 hi ⟨dk5, off5, p, hp, hc5, hL5⟩ ⟨rfl, rfl⟩
      refine ⟨rfl, ?_⟩
      refine ⟨_, rfl, _, rfl, _, _, rfl, len_S (by omega), _, _, rfl, rfl, D, Cc, _, row.length + 1, rfl, dk5, by omega, by omega, by omega, fun H7 k hk dk7 off7 => ?_⟩
      refine ⟨_, off7 Lc _ mLc.1 mLc.2 hL5, sz_lt (by rw [List.length_map]; omega), ?_, ?_, p ++ [k], by rw [List.length_append, hp]; rfl, ?_, ?_⟩
      · obtain ⟨m, t, js, a1, a2, a3, a4⟩ := dk7.ex
        exact ⟨m, t, js, (upd_ne (Ne.symm mLc.1)).trans a1, (upd_ne (Ne.symm mLc.2)).trans a2, a3, by omega⟩
      · intro b o e1 e2 e3
        rw [upd_ne (ne_of_none e3 hLc)]
        exact (off5.trans off7) b o e1 e2 e3
      · intro d hd
        rcases List.mem_append.mp hd with hd | hd
        · exact hc5 d hd
        · rw [List.mem_singleton.mp hd]
          omega
      · rw [upd_same, List.map_append]
        rfl
    · rintro H5 ⟨dk5, off5, p, hp, hc5, hL5⟩
      have zq5 := off5 _ _ mq1.1 mq1.2 zq1
      have hLa5 := off5 _ _ mLa.1 mLa.2 hLa4
      have wv5 := wv4.off off5 dk4 hBC
      have bk5 := bk4.off off5 dk4
      have off05 := off4.trans off5
      refine ⟨q1, Lc, _, _, rfl, rfl, zq5, hL5, sz_le (by rw [List.length_map]; show 2 + p.length ≤ _; omega), fun q3 hq3 => ?_⟩
      have t6 := same_new (o := HO.lst ([V.int 0, V.int (row.length : Nat)] ++ p.map fun c => V.int (c : Nat))) hq3
      have zq3 : upd H5 q3 (.lst ([V.int 0, V.int (row.length : Nat)] ++ p.map fun c => V.int (c : Nat))) q3 = some (.lst ([V.int 0, V.int (row.length : Nat)] ++ p.map fun c => V.int (c : Nat))) := upd_same
      generalize upd H5 q3 (.lst ([V.int 0, V.int (row.length : Nat)] ++ p.map fun c => V.int (c : Nat))) = H6 at t6 zq3 ⊢
      refine ⟨q3, rfl, ⟨_, SqL.of zq3⟩, ?_⟩
      refine for_list (xs := [V.int 0, V.int (row.length : Nat)] ++ p.map fun c => V.int (c : Nat)) (fun i σ H' => Same H6 H' ∧ ∃ o7, σ = [some (.ref D), some (.ref wd), some (.ref r), some (.ref n), some (.str (S w)), some (.str (S row)), some (.ref La), o7, none, none]) ⟨Same.refl _, _, rfl⟩ (fun i σ H' _ p => SqL.of (p.1 _ _ zq3)) ?_ ?_
      · rintro i x σ H7 hx ⟨s7, o7, rfl⟩
        obtain ⟨k, hk, rfl⟩ : ∃ k : Nat, k ≤ row.length ∧ x = .int (k : Nat) := by
          have hm := List.mem_of_getElem? hx
          rcases List.mem_append.mp hm with hm | hm
          · simp only [List.mem_cons, List.not_mem_nil, or_false] at hm
            rcases hm with rfl | rfl
            · exact ⟨0, Nat.zero_le _, rfl⟩
            · exact ⟨row.length, Nat.le_refl _, rfl⟩
          · obtain ⟨c, hc, rfl⟩ := List.mem_map.mp hm
            exact ⟨c, hc5 c hc, rfl⟩
        have s57 := t6.trans s7
        have wv7 := wv5.same s57
        have hLa7 := s57 _ _ hLa5
        obtain ⟨ok2, nod⟩ := lst_ok (ds := [.str (S (ledM fs w (row.take k))), .str (S (ledM fs w (row.take k)))]) (fun d hd => by
          simp only [List.mem_cons, List.not_mem_nil, or_false] at hd
          rcases hd with rfl | rfl <;> exact wk k hk) (by show 2 ≤ 4; decide)
        refine ⟨_, rfl, _, rfl, false, _, n, r, Bf, fs, w, row, olds, _, rfl, wv7, by omega, Or.inl ⟨k, rfl, hk, fun H8 s8 => ?_⟩⟩
        refine ⟨_, rfl, _, rfl, true, _, n, r, Bf, fs, w, row, olds, _, rfl, wv7.same s8, by omega, Or.inl ⟨k, rfl, hk, fun H9 s9 => ?_⟩⟩
        refine ⟨sz_le (n := 2) (by decide), fun pa hpa hna => ?_⟩
        have r1 := same_new (o := HO.lst [V.str (S (ledM fs w (row.take k))), V.str (S (ledM fs w (row.take k)))]) hpa
        refine ⟨_, .list [.str (S (ledM fs w (row.take k))), .str (S (ledM fs w (row.take k)))], rfl, .lst hna (SqL.of upd_same) (.cons (.str _) (.cons (.str _) .nil)), ok2.sh, ok2.de, ok2.le, ?_⟩
        have s79 := (s8.trans s9).trans r1
        generalize upd H9 pa (.lst [V.str (S (ledM fs w (row.take k))), V.str (S (ledM fs w (row.take k)))]) = H10 at s79 ⊢
        refine ⟨_, rfl, _, rfl, La, _, (k : Nat), _, rfl, rfl, SqL.of (s79 _ _ hLa7), atI_nat (websV_at hk), sz_le (n := 1) (by decide), fun p3 hp3 _ => ?_⟩
        refine ⟨p3, 2, _, rfl, rfl, upd_same, by decide, by decide, sz_le (n := 2) (by decide), fun p4 hp4 => ?_⟩
        have r2 := (same_new (o := HO.lst [V.str (S (ledM fs w (row.take k)))]) hp3).trans (same_new (o := HO.lst (List.replicate (2 : Int).toNat [V.str (S (ledM fs w (row.take k)))]).flatten) hp4)
        refine ⟨p4, .list [.str (S (ledM fs w (row.take k))), .str (S (ledM fs w (row.take k)))], rfl, .lst (SqL.of upd_same) (.cons (.str _) (.cons (.str _) .nil)), ok2.sh, nod, ok2.de, ok2.le, ?_⟩
        refine ⟨rfl, _, rfl, ifF (by rw [decide_eq_true rfl]; rfl) ?_⟩
        exact ⟨s7.trans (s79.trans r2), _, rfl⟩
      · rintro σ H7 ⟨s7, o7, rfl⟩
        have s57 := t6.trans s7
        have wv7 := wv5.same s57
        have bk7 := bk5.same s57
        have hLa7 := s57 _ _ hLa5
        have dk7 := dk5.same s57
        have off07 := off05.trans (Off.same (D := D) (C := Cc) s57)
        refine ⟨r, fa, ta, La, sg, w, row, fs, gs, rfl, rfl, rfl, rfl, bk7.1, hfs, hs, hgs, he, hwi, hri, hwl, hrl, hLa7, fun H8 s8 => ifF rfl ?_⟩
        have wv8 := wv7.same s8
        have bk8 := bk7.same s8
        have dk8 := dk7.same s8
        have off08 := off07.trans (Off.same (D := D) (C := Cc) s8)
        clear wv7 bk7 dk7 off07 wv5 bk5 hLa5 zq5 s57 s7 t6 zq3 hLa7 s8
        refine ⟨_, rfl, _, rfl, _, rfl, _, _, rfl, len_S (by omega), _, _, rfl, rfl, sz_le (n := 0) (by decide), fun p5 hp5 => ?_⟩
        have t1 := same_new (o := HO.tup []) hp5
        have z5 : SqT K (upd H8 p5 (.tup [])) p5 [] := Or.inl (Or.inl upd_same)
        generalize upd H8 p5 (.tup []) = G1 at t1 z5 ⊢
        refine ⟨_, _, rfl, rfl, ⟨by decide, by decide, by decide⟩, sz_le (n := 0) (by decide), fun p7 hp7 hn7 => ?_⟩
        have n7 := new_ne' (dk8.same t1) hp7
        have t2 := same_new (o := HO.lst []) hp7
        have z7 : upd G1 p7 (.lst []) p7 = some (.lst []) := upd_same
        have z5 := Same.tup t2 z5
        have t02 := t1.trans t2
        generalize upd G1 p7 (.lst []) = G2 at t02 z7 z5 ⊢
        refine fun p8 hp8 => ?_
        have n8 := new_ne' (dk8.same t02) hp8
        have t3 := same_new (o := HO.dK []) hp8
        have od : OddPl K (upd G2 p8 (.dK [])) D Cc p5 p7 p8 := ⟨Same.tup t3 z5, t3 _ _ z7, hn7, upd_same, n7, n8⟩
        have t03 := t02.trans t3
        generalize upd G2 p8 (.dK []) = G3 at t03 od ⊢
        refine ⟨sz_le (n := 9) (by decide), fun ps hps _ => ?_⟩
        have nps := new_ne' (dk8.same t03) hps
        have t4 := same_new (o := HO.lst (oddP row.length p5 p7 p8)) hps
        have zps : upd G3 ps (.lst (oddP row.length p5 p7 p8)) ps = some (.lst (oddP row.length p5 p7 p8)) := upd_same
        have od4 := od.same t4
        have t04 := t03.trans t4
        have dk9 := dk8.same t04
        refine ⟨D, Cc, _, .ref ps, rfl, dk9, by omega, Or.inr ⟨ps, _, rfl, zps, nps.2, Nat.zero_lt_succ _, by show 9 ≤ 1000; decide, fun H9 v hv dk10 off9 => ?_⟩⟩
        have od9 := od4.off off9 dk9
        have wv9 := (wv8.same t04).off off9 dk9 hBC
        have bk9 := (bk8.same t04).off off9 dk9
        have off09 := (off08.trans (Off.same (D := D) (C := Cc) t04)).trans off9
        obtain ⟨bad, ⟨d, dg, okd, _⟩, _⟩ := odd_pl od9 (by omega) v hv
        refine ⟨_, rfl, _, rfl, _, rfl, _, _, rfl, len_S (by omega), _, _, rfl, rfl, (show (2 : Int) ≠ 0 by decide), rfl, _, _, n, r, Bf, fs, w, row, olds, v, rfl, wv9, by omega, Or.inr ⟨bad, fun H10 pc s10 hne hpc => ?_⟩⟩
        refine ⟨_, plD d, rfl, .lst hne (SqL.of hpc) (.cons (dg.same s10) (.cons (.bl true) .nil)), okd.sh, okd.de, okd.le, ?_⟩
        refine ⟨_, rfl, sz_le (n := 2) (by decide), fun pd hpd hnd => ?_⟩
        have t5 := same_new (o := HO.lst [v, V.bl true]) hpd
        refine ⟨_, plD d, rfl, .lst hnd (SqL.of upd_same) (.cons ((dg.same s10).same t5) (.cons (.bl true) .nil)), okd.sh, okd.de, okd.le, ?_⟩
        have s910 := s10.trans t5
        generalize upd H10 pd (.lst [v, V.bl true]) = H11 at s910 ⊢
        refine ⟨rfl, _, rfl, ifT (decide_eq_true rfl) ?_⟩
        obtain ⟨dx, L, us, h1, _⟩ := (wv9.same s910).ex
        have bk11 := bk9.same s910
        obtain ⟨dr, hr1⟩ := bk11.1.1
        exact ⟨_, rfl, n, CN, dx, _, _, rfl, h1, R.cls, R.nb, wv_book, _, rfl, r, r, dr, dr, _, _, rfl, rfl, hr1, hr1, r, fa, ta, sg, fs, rfl, bk11, hfs, hs, true, rfl, q _ ((dk10.same s910).mono (by omega)) (off09.trans (Off.same s910))⟩
end
end Lw

namespace Lw
open PySem PySem.Spec PyProof.Rows L2 Mq
open SX (S)
/-! ### what is refused -/
theorem rep_fold (c : Nat) : ∀ (n : Nat) (acc : Array Nat), (List.replicate n #[c]).foldl (· ++ ·) acc = acc ++ (List.replicate n c).toArray
  | 0, acc => by simp
  | n + 1, acc => by
    rw [List.replicate_succ, List.foldl_cons, rep_fold c n]
    apply Array.ext'
    simp [List.replicate_succ]
theorem rep_one (c n : Nat) : repS (S [c]) n = S (List.replicate n c) := by
  show (⟨(List.replicate n (S [c]).cps).foldl (· ++ ·) #[]⟩ : Str) = ⟨(List.replicate n c).toArray⟩
  have := rep_fold c n #[]
  rw [show (S [c]).cps = #[c] from rfl, this]
  simp
theorem all_out {sg : List Nat} {c : Nat} (h : c ∉ sg) (w : List Nat) : allB (w ++ [c]) sg = false := by
  cases e : allB (w ++ [c]) sg with
  | false => rfl
  | true =>
    unfold allB at e
    rw [List.all_map, List.all_eq_true] at e
    have h1 := e w.length (List.mem_range.mpr (by rw [List.length_append]; exact Nat.lt_succ_self _))
    have h2 : inB ((w ++ [c]).getD w.length 0) sg = true := h1
    rw [List.getD_eq_getElem?_getD, List.getElem?_append_right (Nat.le_refl _), Nat.sub_self] at h2
    exact (h (of_decide_eq_true h2)).elim
theorem menu_in : ∀ sg ∈ menuW, 63 ∉ sg ∧ 65 ∉ sg ∧ 97 ∈ sg := by decide
theorem bad_one {K : PySem.W.Frag} {H : Hp} {sg : List Nat} {x : Str} {c : Nat} (e : x = S [c]) (h : c ∉ sg) : BadS K H sg (.str x) := fun _ _ => Or.inl ⟨[c], by rw [e], by show 1 ≤ 1000; decide, all_out h []⟩
theorem bad_of {K : PySem.W.Frag} {H : Hp} {sg : List Nat} {v : V} {a : String} (t : ∀ H', Same H H' → TyX K H' v (.type a)) (m : a ∈ ["NoneType", "bool", "int", "str", "list", "tuple", "dict"]) (n : a ≠ "str") : BadS K H sg v := fun H' e => Or.inr ⟨a, t H' e, m, n⟩
/-- what a lot asks: start, end, letters, and what is due -/
structure LotOk (K : PySem.W.Frag) (C CN n : Addr) (s e u : V) (k : Str) (x : V) (d : PyData) (H : Hp) : Prop where
  hear : ∀ (H' : Hp) (nm : Bool) (Q : VK) (E : XK), Same H H' → told [.str k, x] H' Q → spChanged K C CN [.ref n, s, e, u, .bl nm] H' Q E
  dg : Dg K H x d
  ok : ShowOk (plK k d)
  eq : EqAble K H s
theorem LotOk.same {K : PySem.W.Frag} {C CN n : Addr} {s e u : V} {k : Str} {x : V} {d : PyData} {H H' : Hp} (h : LotOk K C CN n s e u k x d H) (e' : Same H H') : LotOk K C CN n s e u k x d H' :=
  ⟨fun H2 nm Q E s2 => h.hear H2 nm Q E (e'.trans s2), h.dg.same e', h.ok, h.eq.same e'⟩
def LotAt (K : PySem.W.Frag) (C CN n : Addr) (H0 H : Hp) (v : V) : Prop := ∃ p q s e u k x d, v = .ref p ∧ SqT K H p [s, e, u, .ref q] ∧ H q = some (.lst [.str k, x]) ∧ q ≠ sysModules ∧ LotOk K C CN n s e u k x d H0
theorem LotAt.same {K : PySem.W.Frag} {C CN n : Addr} {H0 H H' : Hp} {v : V} (h : LotAt K C CN n H0 H v) (e : Same H H') : LotAt K C CN n H0 H' v :=
  let ⟨p, q, s, e1, u, k, x, d, a, b, c, f, g⟩ := h; ⟨p, q, s, e1, u, k, x, d, a, Same.tup e b, e _ _ c, f, g⟩
theorem LotAt.base {K : PySem.W.Frag} {C CN n : Addr} {H0 H0' H : Hp} {v : V} (h : LotAt K C CN n H0 H v) (e : Same H0 H0') : LotAt K C CN n H0' H v :=
  let ⟨p, q, s, e1, u, k, x, d, a, b, c, f, g⟩ := h; ⟨p, q, s, e1, u, k, x, d, a, b, c, f, g.same e⟩
theorem lot_new {K : PySem.W.Frag} {C CN n : Addr} {H0 H : Hp} {s e u : V} {k : Str} {x : V} {d : PyData} {q p : Addr} (h : LotOk K C CN n s e u k x d H0) (hq : H q = none) (hn : q ≠ sysModules) (hp : upd H q (.lst [.str k, x]) p = none) :
    LotAt K C CN n H0 (upd (upd H q (.lst [.str k, x])) p (.tup [s, e, u, .ref q])) (.ref p) ∧ Same H (upd (upd H q (.lst [.str k, x])) p (.tup [s, e, u, .ref q])) := by
  have t1 := same_new (o := HO.lst [.str k, x]) hq
  have t2 := same_new (o := HO.tup [s, e, u, .ref q]) hp
  exact ⟨⟨p, q, s, e, u, k, x, d, rfl, Or.inl (Or.inl upd_same), t2 _ _ upd_same, hn, h⟩, t1.trans t2⟩
/-- the list of lots, one more behind it -/
theorem lots_grow {K : PySem.W.Frag} {C CN n LL : Addr} {H0 G : Hp} {xs : List V} {v : V} (h : G LL = some (.lst xs)) (h0 : 0 < xs.length) (a : ∀ x ∈ xs, LotAt K C CN n H0 G x) (b : LotAt K C CN n H0 G v) : ∀ x ∈ xs ++ [v], LotAt K C CN n H0 (upd G LL (.lst (xs ++ [v]))) x := by
  have kp : KpT K G (upd G LL (.lst (xs ++ [v]))) := KpT.lst h
  have mv : ∀ x, LotAt K C CN n H0 G x → LotAt K C CN n H0 (upd G LL (.lst (xs ++ [v]))) x := by
    rintro x ⟨p, q, s, e1, u, k, y, d, a1, b1, c1, f1, g1⟩
    refine ⟨p, q, s, e1, u, k, y, d, a1, kp _ _ b1, (upd_ne ?_).trans c1, f1, g1⟩
    rintro rfl
    rw [h] at c1
    injection c1 with c1
    injection c1 with c1
    obtain ⟨p', _, _, _, _, _, _, _, e, _⟩ := a (.str k) (by rw [c1]; exact List.mem_cons_self)
    cases e
  intro x hx
  rcases List.mem_append.mp hx with hx | hx
  · exact mv x (a x hx)
  · rw [List.mem_singleton.mp hx]
    exact mv v b
def spRefused (K : PySem.W.Frag) (C CN : Addr) : Sp := fun vs H Q _ => ∃ (N : Addr → Prop) (D Cc : Addr) (T : Nat) (r fa ta n B : Addr) (sg w row : List Nat) (fs : List Fd) (olds : List (List Nat)), vs = [.ref D, .ref n, .int (row.length : Nat)] ∧ DeckAt D Cc T H ∧ T ≤ 900000 ∧ sg ∈ menuW ∧
  FsOk sg fs ∧ BkAt H C r sg fs fa ta ∧ WvAt K H CN N n r B fs w row olds ∧ B ≠ Cc ∧ w.length ≤ 200 ∧ row.length ≤ 196 ∧ olds.length ≤ 1000 ∧ ∀ H', DeckAt D Cc (T + 2) H' → Off D Cc H H' → Q (.bl true) H'
theorem PS_imp {X : Cx} {st : Stmt} {t t' : TS} (h : PS X st t) (i : ∀ D σ H, t' D σ H → t D σ H) : PS X st t' := ⟨fun pins s σ H D I q => h.run pins s σ H D I (i D σ H q)⟩
/-- one lot more, where near is no 0 -/
def tNear (K : PySem.W.Frag) (C CN : Addr) : TS := fun D σ H => ∃ (H2 : Hp) (n LL : Addr) (a : Nat) (xs : List V), σ[4]? = some (some (.int (a : Nat))) ∧ σ[5]? = some (some (.ref LL)) ∧ H LL = some (.lst xs) ∧ 0 < xs.length ∧ xs.length ≤ 3 ∧ (∀ x ∈ xs, LotAt K C CN n H2 H x) ∧ Same H2 H ∧ H2 LL = none ∧
  (0 < a → LotOk K C CN n (.int (a : Nat)) (.int ((a : Nat) - 1)) (.str "?") "place" (.int ((a : Nat) - 1)) (.int ((a : Nat) - 1)) H2) ∧
  ∀ J xs', Same H2 J → J LL = some (.lst xs') → 0 < xs'.length → xs'.length ≤ 4 → (∀ x ∈ xs', LotAt K C CN n H2 J x) → D.nx σ J
section
variable {P : Program} {w : World} {K : PySem.W.Frag} {mg : Str → Option Value} {base : Heap} {C CN : Addr}
theorem ok_refused {f fD fP fG : Addr} {fd fdD fdP fdG : FuncData} (F : Fun K "_law_refused" "_law_refused" s__law_refused f fd) (B : Blt mg)
    (FD : Fun K "_law_draw" "_law_draw" s__law_draw fD fdD) (gD : mg "_law_draw" = some (.ref fD)) (bD : Binds K fdD ["_law_deck_here", "_law_many"] []) (GD : FnOk P w K mg base CX0 1 fD fdD ["_law_deck_here", "_law_many"] spDraw)
    (FP : Fun K "_law_pick" "_law_pick" s__law_pick fP fdP) (gP : mg "_law_pick" = some (.ref fP)) (bP : Binds K fdP ["_law_deck_here", "_law_some"] []) (GP : FnOk P w K mg base CX0 2 fP fdP ["_law_deck_here", "_law_some"] spPick)
    (FG : Fun K "_law_changed" "_law_changed" s__law_changed fG fdG) (gG : mg "_law_changed" = some (.ref fG)) (bG : Binds K fdG ["_law_note", "_law_near", "_law_far", "_law_fresh", "_law_is_named"] []) (GG : FnG P w K mg base CX0 5 fG fdG ["_law_note", "_law_near", "_law_far", "_law_fresh", "_law_is_named"] (spChanged K C CN)) :
    FnG P w K mg base CX0 6 f fd ["_law_deck_here", "_law_note", "_law_size"] (spRefused K C CN) := by
  refine Mq.Fun.okG F sc__law_refused (fun vs H Q E h => ?_) (fun cdv A outer s H vs Q E gA hr h => ?_)
  · obtain ⟨_, _, _, _, _, _, _, _, _, _, _, _, _, _, rfl, _⟩ := h
    rfl
  · obtain ⟨N, D, Cc, T, r, fa, ta, n, Bf, sg, w, row, fs, olds, rfl, hdk, hT, hm, hfs, hbk, hwv, hBC, hwl, hrl, hol, q⟩ := h
    have hr5 : Room 5 (A.deeper (envOfC "_law_refused" (defScope s__law_refused) s.heap.objs.size f cdv)) := hr
    have hu64 : (A.deeper (envOfC "_law_refused" (defScope s__law_refused) s.heap.objs.size f cdv)).units + 64 < cLine := by
      have := hr.un
      omega
    have hu0 : (A.deeper (envOfC "_law_refused" (defScope s__law_refused) s.heap.objs.size f cdv)).units < cLine := by omega
    refine ⟨_, (pss_cons (ps_set (i := 3) sc__law_refused.nd rfl (Or.inl rfl) (pe_call GP (hr.mono (by decide)) (by rfl) gP FP.kp bP .nil pass0 (pa_cons (pv 0) (pa_cons (Mq.pe_ls (pa_cons (pe_un un_neg pe_int) (pa_cons (pe_op op_add (pv 2) pe_int) (pa_cons pe_non (pa_cons pe_bl (pa_cons pe_str (pa_cons (pe_tup pa_nil) (pa_cons (pe_op op_pow pe_int pe_int) (pa_cons (Mq.pe_ls pa_nil) (pa_cons pe_dnewK pa_nil)))))))))) pa_nil))))
      (pss_cons (ps_set (i := 4) sc__law_refused.nd rfl (Or.inl rfl) (pe_call GD (hr.mono (by decide)) (by rfl) gD FD.kp bD .nil pass0 (pa_cons (pv 0) (pa_cons (pe_op op_add (pv 2) pe_int) pa_nil))))
      (pss_cons (ps_set (i := 5) sc__law_refused.nd rfl (Or.inl rfl) (Mq.pe_ls (pa_cons (pe_tup (pa_cons (pv 3) (pa_cons (pv 3) (pa_cons pe_str (pa_cons (Mq.pe_ls (pa_cons pe_str (pa_cons (pv 3) pa_nil))) pa_nil))))) (pa_cons (pe_tup (pa_cons (pv 4) (pa_cons (pv 3) (pa_cons pe_str (pa_cons (Mq.pe_ls (pa_cons pe_str (pa_cons (pv 3) pa_nil))) pa_nil))))) (pa_cons (pe_tup (pa_cons (pv 3) (pa_cons (pv 4) (pa_cons pe_non (pa_cons (Mq.pe_ls (pa_cons pe_str (pa_cons (pv 3) pa_nil))) pa_nil))))) pa_nil)))))
      (pss_cons (PS_imp (t' := tNear K C CN) (ps_if (pt_cmpR op_gt (pv 4) pe_int (nomark _)) (pss_one (ps_expr (pe_bm PySem.F.plainAttrs_list PySem.F.slot_list_append PySem.F.type_list_append mt_append (pv 5) (pa_cons (pe_tup (pa_cons (pv 4) (pa_cons (pe_op op_sub (pv 4) pe_int) (pa_cons pe_str (pa_cons (Mq.pe_ls (pa_cons pe_str (pa_cons (pe_op op_sub (pv 4) pe_int) pa_nil))) pa_nil))))) pa_nil)))) pss_nil) (fun D σ H h => ?nr))
      (pss_cons (ps_for (passes_of rfl) rfl (pi_tup (pe_tup (pa_cons pe_non (pa_cons pe_str (pa_cons (pe_tup (pa_cons pe_str pa_nil)) (pa_cons pe_int (pa_cons pe_str (pa_cons (Mq.pe_ls pa_nil) (pa_cons (pe_op op_mulS pe_str (pe_op op_sub pe_int (pv 2))) pa_nil))))))))) (pg_name (i := 6) sc__law_refused.nd rfl (Or.inl rfl))
        (pss_one (ps_expr (pe_bm PySem.F.plainAttrs_list PySem.F.slot_list_append PySem.F.type_list_append mt_append (pv 5) (pa_cons (pe_tup (pa_cons (pv 4) (pa_cons (pv 4) (pa_cons (pv 6) (pa_cons (Mq.pe_ls (pa_cons pe_str (pa_cons (pv 6) pa_nil))) pa_nil))))) pa_nil)))))
      (pss_cons (ps_for (passes_of rfl) rfl (pi_list (pv 5)) (pg_tup rfl (pgs_cons (pg_name (i := 7) sc__law_refused.nd rfl (Or.inl rfl)) (pgs_cons (pg_name (i := 8) sc__law_refused.nd rfl (Or.inl rfl)) (pgs_cons (pg_name (i := 9) sc__law_refused.nd rfl (Or.inl rfl)) (pgs_cons (pg_name (i := 10) sc__law_refused.nd rfl (Or.inl rfl)) pgs_nil)))))
        (pss_one (ps_if (pt_cmpR op_ne (pe_callB (call_rep hr gA) (by rfl) B.repr (by decide +kernel) (pa_cons (Mq.pe_callG GG gA hr5 (by rfl) gG FG.kp bG pass0 (pa_cons (pv 1) (pa_cons (pv 7) (pa_cons (pv 8) (pa_cons (pv 9) (pa_cons (pe_cmpR (op_or (op_eqD hu64) (op_eqDI hu0)) (pv 7) (pv 4) (nomark _)) pa_nil)))))) pa_nil)) (pe_callB (call_rep hr gA) (by rfl) B.repr (by decide +kernel) (pa_cons (pv 10) pa_nil)) (nomark _)) (pss_one (ps_ret pe_bl)) pss_nil)))
      (pss_one (ps_ret pe_bl)))))))), ?_⟩
    case nr =>
      obtain ⟨H2, n, LL, a, xs, e4, e5, zL, hx0, hxl, hxa, s2, LLn, lot, q⟩ := h
      refine ⟨_, e4, _, _, rfl, rfl, _, rfl, ite2 (fun hc => ?_) (fun _ => q H xs s2 zL hx0 (by omega) hxa)⟩
      have hc' : (0 : Int) < ((a : Nat) : Int) := of_decide_eq_true hc
      refine ⟨_, e5, Or.inl ⟨rfl, _, SqL.of zL⟩, _, e4, _, e4, _, _, rfl, rfl, _, e4, _, _, rfl, rfl, sz_le (n := 2) (by decide), fun q1 hq1 hn1 => ⟨sz_le (n := 4) (by decide), fun p1 hp1 => ?_⟩⟩
      obtain ⟨A1, u1⟩ := lot_new (lot (by omega)) hq1 hn1 hp1
      have zL1 := u1 _ _ zL
      refine ⟨LL, _, _, rfl, rfl, zL1, sz_lt (by omega), q _ _ (push_same LLn (s2.trans u1)) upd_same (by rw [List.length_append]; omega) (by rw [List.length_append]; show xs.length + 1 ≤ 4; omega) (lots_grow zL1 hx0 (fun x hx => (hxa x hx).same u1) A1)⟩
    obtain ⟨m63, m65, m97⟩ := menu_in sg hm
    obtain ⟨hs, _, _⟩ := menu_ok sg hm
    refine ⟨_, rfl, _, rfl, _, rfl, _, _, rfl, rfl, sz_le (n := 0) (by decide), fun p5 hp5 => ?_⟩
    have t1 := same_new (o := HO.tup []) hp5
    have z5 : SqT K (upd H p5 (.tup [])) p5 [] := Or.inl (Or.inl upd_same)
    generalize upd H p5 (.tup []) = G1 at t1 z5 ⊢
    refine ⟨_, _, rfl, rfl, ⟨by decide, by decide, by decide⟩, sz_le (n := 0) (by decide), fun p7 hp7 hn7 => ?_⟩
    have n7 := new_ne' (hdk.same t1) hp7
    have t2 := same_new (o := HO.lst []) hp7
    have z7 : upd G1 p7 (.lst []) p7 = some (.lst []) := upd_same
    have z5 := Same.tup t2 z5
    have t02 := t1.trans t2
    generalize upd G1 p7 (.lst []) = G2 at t02 z7 z5 ⊢
    refine fun p8 hp8 => ?_
    have n8 := new_ne' (hdk.same t02) hp8
    have t3 := same_new (o := HO.dK []) hp8
    have od : OddPl K (upd G2 p8 (.dK [])) D Cc p5 p7 p8 := ⟨Same.tup t3 z5, t3 _ _ z7, hn7, upd_same, n7, n8⟩
    have t03 := t02.trans t3
    generalize upd G2 p8 (.dK []) = G3 at t03 od ⊢
    refine ⟨sz_le (n := 9) (by decide), fun ps hps _ => ?_⟩
    have nps := new_ne' (hdk.same t03) hps
    have t4 := same_new (o := HO.lst (oddP row.length p5 p7 p8)) hps
    have zps : upd G3 ps (.lst (oddP row.length p5 p7 p8)) ps = some (.lst (oddP row.length p5 p7 p8)) := upd_same
    have od4 := od.same t4
    have t04 := t03.trans t4
    have dk4 := hdk.same t04
    refine ⟨D, Cc, _, .ref ps, rfl, dk4, by omega, Or.inr ⟨ps, _, rfl, zps, nps.2, Nat.zero_lt_succ _, by show 9 ≤ 1000; decide, fun H1 v hv dk1 off1 => ?_⟩⟩
    have od1 := od4.off off1 dk4
    have wv1 := (hwv.same t04).off off1 dk4 hBC
    have bk1 := (hbk.same t04).off off1 dk4
    have off01 := (Off.same (D := D) (C := Cc) t04).trans off1
    refine ⟨_, rfl, _, rfl, _, _, rfl, rfl, D, Cc, _, row.length + 1, rfl, dk1, by omega, by omega, by omega, fun H2 a ha dk2 off2 => ?_⟩
    have od2 := od1.off off2 dk1
    have wv2 := wv1.off off2 dk1 hBC
    have bk2 := bk1.off off2 dk1
    have off02 := off01.trans off2
    have hal : a ≤ row.length := by omega
    clear od1 wv1 bk1 dk1 off1 off2 off01 od4 dk4 zps t4 od t03 z7 z5 t02 t1 t2 t3
    obtain ⟨bad, ⟨d, dg, _, okd⟩, ea⟩ := odd_pl od2 (by omega) v hv
    have eaN : ∀ H, EqAble K H (.int (a : Nat)) := fun H => Or.inl ⟨_, .int _, shaped_gd (gd_int (by omega)) (by decide)⟩
    have L1 : LotOk K C CN n v v (.str "?") "place" v d H2 := ⟨fun H' nm Q E s q => ⟨nm, _, n, r, Bf, fa, ta, sg, fs, w, row, olds, _, _, _, rfl, wv2.same s, bk2.same s, hfs, by omega, by omega, hol, Or.inr (Or.inl ⟨bad.same s, q⟩)⟩, dg, okd, ea⟩
    have L2 : LotOk K C CN n (.int (a : Nat)) v (.str "a") "place" v d H2 := ⟨fun H' nm Q E s q => ⟨nm, _, n, r, Bf, fa, ta, sg, fs, w, row, olds, _, _, _, rfl, wv2.same s, bk2.same s, hfs, by omega, by omega, hol, Or.inr (Or.inr (Or.inl ⟨a, rfl, hal, bad.up.same s, q⟩))⟩, dg, okd, eaN _⟩
    have L3 : LotOk K C CN n v (.int (a : Nat)) .non "place" v d H2 := ⟨fun H' nm Q E s q => ⟨nm, _, n, r, Bf, fa, ta, sg, fs, w, row, olds, _, _, _, rfl, wv2.same s, bk2.same s, hfs, by omega, by omega, hol, Or.inr (Or.inl ⟨bad.same s, q⟩)⟩, dg, okd, ea⟩
    refine ⟨_, rfl, _, rfl, _, rfl, sz_le (n := 2) (by decide), fun q1 hq1 hn1 => ⟨sz_le (n := 4) (by decide), fun p1 hp1 => ?_⟩⟩
    obtain ⟨A1, u1⟩ := lot_new L1 hq1 hn1 hp1
    generalize upd (upd H2 q1 (.lst [.str "place", v])) p1 (.tup [v, v, .str "?", .ref q1]) = J1 at A1 u1 ⊢
    refine ⟨_, rfl, _, rfl, _, rfl, sz_le (n := 2) (by decide), fun q2 hq2 hn2 => ⟨sz_le (n := 4) (by decide), fun p2 hp2 => ?_⟩⟩
    obtain ⟨A2, u2⟩ := lot_new L2 hq2 hn2 hp2
    have A1 := A1.same u2
    have u2 := u1.trans u2
    generalize upd (upd J1 q2 (.lst [.str "place", v])) p2 (.tup [.int (a : Nat), v, .str "a", .ref q2]) = J2 at A1 A2 u2 ⊢
    refine ⟨_, rfl, _, rfl, _, rfl, sz_le (n := 2) (by decide), fun q3 hq3 hn3 => ⟨sz_le (n := 4) (by decide), fun p3 hp3 => ?_⟩⟩
    obtain ⟨A3, u3⟩ := lot_new L3 hq3 hn3 hp3
    have A1 := A1.same u3
    have A2 := A2.same u3
    have u3 := u2.trans u3
    generalize upd (upd J2 q3 (.lst [.str "place", v])) p3 (.tup [v, .int (a : Nat), .non, .ref q3]) = J3 at A1 A2 A3 u3 ⊢
    refine ⟨sz_le (n := 3) (by decide), fun LL hLL _ => ?_⟩
    have u4 := same_new (o := HO.lst [V.ref p1, V.ref p2, V.ref p3]) hLL
    have zL : ∃ xs, upd J3 LL (.lst [V.ref p1, V.ref p2, V.ref p3]) LL = some (.lst xs) ∧ 0 < xs.length ∧ xs.length ≤ 3 ∧ ∀ v ∈ xs, LotAt K C CN n H2 (upd J3 LL (.lst [V.ref p1, V.ref p2, V.ref p3])) v := by
      refine ⟨_, upd_same, Nat.zero_lt_succ _, Nat.le_refl 3, fun v hv => ?_⟩
      simp only [List.mem_cons, List.not_mem_nil, or_false] at hv
      rcases hv with rfl | rfl | rfl
      · exact A1.same u4
      · exact A2.same u4
      · exact A3.same u4
    have LLn : H2 LL = none := u3.free hLL
    have u04 := u3.trans u4
    clear A1 A2 A3 u4 u3 u2 u1 L1 L2 L3 hLL
    generalize upd J3 LL (.lst [V.ref p1, V.ref p2, V.ref p3]) = J4 at zL u04 ⊢
    obtain ⟨xs, zL, hx0, hxl, hxa⟩ := zL
    have L4 : 0 < a → LotOk K C CN n (.int (a : Nat)) (.int ((a : Nat) - 1)) (.str "?") "place" (.int ((a : Nat) - 1)) (.int ((a : Nat) - 1)) H2 := fun h0 => by
      have e1 : ((a : Nat) : Int) - 1 = ((a - 1 : Nat) : Int) := by omega
      refine ⟨fun H' nm Q E s q => ⟨nm, _, n, r, Bf, fa, ta, sg, fs, w, row, olds, _, _, _, rfl, wv2.same s, bk2.same s, hfs, by omega, by omega, hol, Or.inr (Or.inr (Or.inl ⟨a, rfl, hal, fun _ _ => Or.inl ⟨_, rfl, by omega⟩, q⟩))⟩, .int _, ?_, eaN _⟩
      rw [e1]
      exact ok_plK (Or.inl rfl) (Gd.mono (gd_int (by omega)) (by decide) (by decide))
    refine ⟨H2, n, LL, a, xs, rfl, rfl, zL, hx0, hxl, hxa, u04, LLn, L4, fun J5 ys u5 zL5 hy0 hyl hya => ?_⟩
    clear zL hx0 hxl hxa u04 L4
    refine ⟨sz_le (n := 1) (by decide), fun pt hpt => ?_⟩
    have t1 := same_new (o := HO.tup [V.str "a"]) hpt
    have zt : SqT K (upd J5 pt (.tup [V.str "a"])) pt [V.str "a"] := Or.inl (Or.inl upd_same)
    generalize upd J5 pt (.tup [V.str "a"]) = J6 at t1 zt ⊢
    refine ⟨sz_le (n := 0) (by decide), fun pl hpl hnl => ?_⟩
    have t2 := same_new (o := HO.lst []) hpl
    have zl : upd J6 pl (.lst []) pl = some (.lst []) := upd_same
    have zt := Same.tup t2 zt
    have t56 := t1.trans t2
    generalize upd J6 pl (.lst []) = J7 at t56 zl zt ⊢
    have ea' : V.str "a" = V.str (S [97]) := by decide +kernel
    refine ⟨_, rfl, _, _, rfl, rfl, "a", 201 - row.length, rfl, congrArg V.int (by omega), by omega, by omega, by decide, by decide, ?_, sz_le (n := 7) (by decide), fun pm hpm => ?_⟩
    · rw [show ("a" : Str) = S [97] by decide +kernel, rep_one, SX.S_len, List.length_replicate]
      exact sz_le (by omega)
    have elong : repS "a" (201 - row.length) = S (List.replicate (201 - row.length) 97) := by
      rw [show ("a" : Str) = S [97] by decide +kernel, rep_one]
    rw [elong]
    have t3 := same_new (o := HO.tup [.non, .str "?", .ref pt, .int 0, .str "A", .ref pl, .str (S (List.replicate (201 - row.length) 97))]) hpm
    have zm : SqT K (upd J7 pm (.tup [.non, .str "?", .ref pt, .int 0, .str "A", .ref pl, .str (S (List.replicate (201 - row.length) 97))])) pm [.non, .str "?", .ref pt, .int 0, .str "A", .ref pl, .str (S (List.replicate (201 - row.length) 97))] := Or.inl (Or.inl upd_same)
    have zt := Same.tup t3 zt
    have zl := t3 _ _ zl
    have t58 := t56.trans t3
    generalize upd J7 pm (.tup [.non, .str "?", .ref pt, .int 0, .str "A", .ref pl, .str (S (List.replicate (201 - row.length) 97))]) = J8 at zm zt zl t58 ⊢
    have zL8 := t58 _ _ zL5
    have u8 := u5.trans t58
    have plL : pl ≠ LL := by
      rintro rfl
      rw [zL8] at zl
      injection zl with zl
      injection zl with zl
      rw [zl] at hy0
      exact absurd hy0 (Nat.not_lt_zero _)
    -- the heap but for the list
    obtain ⟨Hb, hb1, hb2⟩ : ∃ Hb : Hp, Hb LL = none ∧ ∀ b, b ≠ LL → Hb b = J8 b := ⟨fun b => if b = LL then none else J8 b, if_pos rfl, fun b h => if_neg h⟩
    have bS : ∀ {b o}, b ≠ LL → J8 b = some o → Hb b = some o := fun {b o} h e => (hb2 b h).trans e
    have nLL : ∀ {b o}, Hb b = some o → b ≠ LL := fun {b o} h z => by
      subst z
      rw [hb1] at h
      cases h
    have sHb : ∀ {G : Hp}, Same J8 G → Same Hb G := fun {G} e b o h => e b o ((hb2 b (nLL h)).symm.trans h)
    have s2b : Same H2 Hb := fun b o e => bS (fun z => by subst z; rw [LLn] at e; cases e) (u8 b o e)
    have sbu : ∀ {G : Hp} {o : HO}, Same Hb G → Same Hb (upd G LL o) := fun {G o} e b o' h => (upd_ne (nLL h)).trans (e b o' h)
    have tHb : ∀ {b : Addr} {xs : List V}, SqT K J8 b xs → SqT K Hb b xs := fun {b xs} h => by
      rcases h with (h | ⟨o, h⟩) | h
      · exact Or.inl (Or.inl (bS (fun z => by subst z; rw [zL8] at h; cases h) h))
      · exact Or.inl (Or.inr ⟨o, bS (fun z => by subst z; rw [zL8] at h; cases h) h⟩)
      · exact Or.inr h
    have wvb := wv2.same s2b
    have bkb := bk2.same s2b
    have all7 : ∀ x ∈ [V.non, V.str "?", V.ref pt, V.int 0, V.str "A", V.ref pl, V.str (S (List.replicate (201 - row.length) 97))], (BadS K Hb sg x ∨ ∃ f : List Nat, x = .str (S f) ∧ (∀ c ∈ f, c ∈ sg) ∧ f.length ≤ 1000 ∧ 200 + a < row.length + a + f.length) ∧ ∃ d, Dg K Hb x d ∧ ShowOk (plK "row" d) := by
      intro x hx
      simp only [List.mem_cons, List.not_mem_nil, or_false] at hx
      rcases hx with rfl | rfl | rfl | rfl | rfl | rfl | rfl
      · exact ⟨Or.inl (bad_of (fun _ _ => .base .non) (by decide) (by decide)), _, .non, ok_of (by decide +kernel)⟩
      · exact ⟨Or.inl (bad_one (by decide +kernel) m63), _, .str _, ok_of (by decide +kernel)⟩
      · exact ⟨Or.inl (bad_of (fun _ e => ty_tup (Same.tup e (tHb zt))) (by decide) (by decide)), _, .tup (tHb zt) (.cons (.str _) .nil), ok_of (by decide +kernel)⟩
      · exact ⟨Or.inl (bad_of (fun _ _ => .base (.int _)) (by decide) (by decide)), _, .int _, ok_of (by decide +kernel)⟩
      · exact ⟨Or.inl (bad_one (by decide +kernel) m65), _, .str _, ok_of (by decide +kernel)⟩
      · exact ⟨Or.inl (bad_of (fun _ e => ty_list (SqL.of (e _ _ (bS plL zl)))) (by decide) (by decide)), _, .lst hnl (SqL.of (bS plL zl)) .nil, ok_of (by decide +kernel)⟩
      · have hin : ∀ c ∈ List.replicate (201 - row.length) 97, c ∈ sg := fun c hc => by
          rw [(List.mem_replicate.mp hc).2]
          exact m97
        exact ⟨Or.inr ⟨_, rfl, hin, by rw [List.length_replicate]; omega, by rw [List.length_replicate]; omega⟩, _, .str _, ok_plK (Or.inr (Or.inl rfl)) (gd_sg hs hin (by rw [List.length_replicate]; omega))⟩
    refine ⟨pm, rfl, ⟨_, zm⟩, ?_⟩
    refine for_tup (xs := [V.non, V.str "?", V.ref pt, V.int 0, V.str "A", V.ref pl, V.str (S (List.replicate (201 - row.length) 97))]) (fun i σ H' => Same Hb H' ∧ SqT K H' pm [V.non, V.str "?", V.ref pt, V.int 0, V.str "A", V.ref pl, V.str (S (List.replicate (201 - row.length) 97))] ∧ ∃ ys o6, H' LL = some (.lst ys) ∧ 0 < ys.length ∧ ys.length ≤ 4 + i ∧ (∀ x ∈ ys, LotAt K C CN n Hb H' x) ∧
      σ = [some (.ref D), some (.ref n), some (.int (row.length : Nat)), some v, some (.int (a : Nat)), some (.ref LL), o6, none, none, none, none])
      ⟨sHb (Same.refl _), zm, ys, _, zL8, hy0, hyl, fun x hx => ((hya x hx).same t58).base s2b, rfl⟩ (fun i σ H' _ q => q.2.1) ?_ ?_
    · rintro i x σ G hx ⟨sG, zmG, ys, o6, zLG, hy0, hyl, hya, rfl⟩
      have hi : i < 7 := by
        rcases Nat.lt_or_ge i 7 with z | z
        · exact z
        · rw [List.getElem?_eq_none (by exact z)] at hx
          cases hx
      obtain ⟨bx, dx, dgx, okx⟩ := all7 x (List.mem_of_getElem? hx)
      have LX : LotOk K C CN n (.int (a : Nat)) (.int (a : Nat)) x "row" x dx Hb := by
        refine ⟨fun H' nm Q E s q => ⟨nm, _, n, r, Bf, fa, ta, sg, fs, w, row, olds, _, _, _, rfl, wvb.same s, bkb.same s, hfs, by omega, by omega, hol, Or.inr (Or.inr (Or.inr ⟨a, a, rfl, rfl, Nat.le_refl _, hal, ?_, q⟩))⟩, dgx, okx, eaN _⟩
        rcases bx with bx | bx
        · exact Or.inl (bx.same s)
        · exact Or.inr bx
      refine ⟨_, rfl, Or.inl ⟨rfl, _, SqL.of zLG⟩, _, rfl, _, rfl, _, rfl, _, rfl, sz_le (n := 2) (by decide), fun q1 hq1 hn1 => ⟨sz_le (n := 4) (by decide), fun p1 hp1 => ?_⟩⟩
      obtain ⟨A1, u1⟩ := lot_new LX hq1 hn1 hp1
      have zL1 := u1 _ _ zLG
      refine ⟨LL, _, _, rfl, rfl, zL1, sz_lt (by omega), sbu (sG.trans u1), KpT.lst zL1 _ _ (Same.tup u1 zmG), _, _, upd_same, by rw [List.length_append]; omega, by rw [List.length_append]; show ys.length + 1 ≤ 4 + (i + 1); omega, lots_grow zL1 hy0 (fun x hx => (hya x hx).same u1) A1, rfl⟩
    · rintro σ G ⟨sG, _, ys, o6, zLG, hy0, hyl, hya, rfl⟩
      refine ⟨_, rfl, LL, rfl, ⟨_, SqL.of zLG⟩, ?_⟩
      refine for_list (xs := ys) (fun i σ H' => Same G H' ∧ ∃ o7 o8 o9 o10, σ = [some (.ref D), some (.ref n), some (.int (row.length : Nat)), some v, some (.int (a : Nat)), some (.ref LL), o6, o7, o8, o9, o10]) ⟨Same.refl _, _, _, _, _, rfl⟩ (fun i σ H' _ p => SqL.of (p.1 _ _ zLG)) ?_ ?_
      · rintro i x σ G1 hx ⟨s1, o7, o8, o9, o10, rfl⟩
        obtain ⟨p, qq, s', e', u', k, xx, d', rfl, yy, ww, nd, lot⟩ := hya x (List.mem_of_getElem? hx)
        refine ⟨p, _, rfl, Same.tup s1 yy, rfl, _, _, rfl, _, _, rfl, _, _, rfl, _, _, rfl, rfl, ?_⟩
        have ss := sG.trans s1
        refine ⟨_, rfl, _, rfl, _, rfl, _, rfl, _, rfl, _, rfl, ?_⟩
        rcases lot.eq.same ss with ⟨d0, dp, sh⟩ | ⟨b0, rfl, hb0⟩
        · refine Or.inl ⟨d0, .int (a : Nat), dp, .int _, sh, shaped_gd (gd_int (by omega)) (by decide), ?_⟩
          try dsimp only [tNil, tCons, tC]
          refine lot.hear G1 _ _ _ ss (fun G2 pc s2 hne hpc => ?_)
          have s02 := ss.trans s2
          refine ⟨_, plK k d', rfl, .lst hne (SqL.of hpc) (.cons (.str _) (.cons (lot.dg.same s02) .nil)), lot.ok.sh, lot.ok.de, lot.ok.le, ?_⟩
          refine ⟨_, rfl, _, plK k d', rfl, .lst nd (SqL.of (s2 _ _ (s1 _ _ ww))) (.cons (.str _) (.cons (lot.dg.same s02) .nil)), lot.ok.sh, lot.ok.de, lot.ok.le, ?_⟩
          refine ⟨rfl, _, rfl, ifF (by rw [decide_eq_true rfl]; rfl) ?_⟩
          exact ⟨s1.trans s2, _, _, _, _, rfl⟩
        · refine Or.inr ⟨b0, [], (a : Nat), rfl, rfl, hb0, ?_⟩
          try dsimp only [tNil, tCons, tC]
          refine lot.hear G1 _ _ _ ss (fun G2 pc s2 hne hpc => ?_)
          have s02 := ss.trans s2
          refine ⟨_, plK k d', rfl, .lst hne (SqL.of hpc) (.cons (.str _) (.cons (lot.dg.same s02) .nil)), lot.ok.sh, lot.ok.de, lot.ok.le, ?_⟩
          refine ⟨_, rfl, _, plK k d', rfl, .lst nd (SqL.of (s2 _ _ (s1 _ _ ww))) (.cons (.str _) (.cons (lot.dg.same s02) .nil)), lot.ok.sh, lot.ok.de, lot.ok.le, ?_⟩
          refine ⟨rfl, _, rfl, ifF (by rw [decide_eq_true rfl]; rfl) ?_⟩
          exact ⟨s1.trans s2, _, _, _, _, rfl⟩
      · rintro σ G1 ⟨s1, o7, o8, o9, o10, rfl⟩
        have s21 : Same H2 G1 := s2b.trans (sG.trans s1)
        exact q G1 ((dk2.same s21).mono (by omega)) (off02.trans (Off.same s21))
end
end Lw

namespace Lw
open PySem PySem.Spec PyProof.Rows L2 Mq
open SX (S)
/-! ### pages beside a weaving -/
theorem slice_ab {l : List Nat} {a b : Nat} (h1 : a ≤ b) (h2 : b ≤ l.length) : Txt.slice (S l) (some ((a : Nat) : Int)) (some ((b : Nat) : Int)) = S ((l.drop a).take (b - a)) := by
  have hl : (S l).length = l.length := SX.S_len l
  unfold Txt.slice
  split
  · rename_i h
    rw [StrLaws.strSliceIndices_plain h1 (by rw [hl]; exact h2), List.length_map, List.length_range, hl] at h
    have h' : b - a = l.length := by simpa using h
    have e : a = 0 := by omega
    subst e
    rw [List.drop_zero, List.take_of_length_le (by omega)]
  · rw [StrLaws.sliced_plain (S l) h1 (by rw [hl]; exact h2)]
    try rfl
theorem cut_last {xs : List V} {x : V} : cutV (xs ++ [x]) none (some (-1)) = xs := by
  unfold cutV
  have e : HT.sIx (xs ++ [x]).length (xs ++ [x]).length (some (-1)) = xs.length := by
    show ((-1 : Int) + (((xs ++ [x]).length : Nat) : Int)).toNat = xs.length
    rw [List.length_append]
    show ((-1 : Int) + ((xs.length + 1 : Nat) : Int)).toNat = xs.length
    omega
  rw [e, HT.sIx_none, List.drop_zero, Nat.sub_zero, List.take_left' rfl]
def pagesV (pg : List (List Nat)) : List V := pg.map fun l => .str (S l)
section
variable {K : PySem.W.Frag} {N : Addr → Prop} {H H' : Hp} {CN n r B D C Cc P : Addr} {T : Nat} {fs : List Fd} {w row : List Nat} {olds pg : List (List Nat)}
theorem pages_deck (hp : H P = some (.lst (pagesV pg))) (ne : pg ≠ []) (k : DeckAt D C T H) : P ≠ D ∧ P ≠ C := by
  obtain ⟨m, t, js, a, b, _⟩ := k.ex
  refine ⟨?_, ?_⟩
  · rintro rfl
    rw [a] at hp
    cases hp
  · rintro rfl
    rw [b] at hp
    injection hp with hp
    injection hp with hp
    cases pg with
    | nil => exact ne rfl
    | cons l q =>
      cases js with
      | nil => cases hp
      | cons j js => cases hp
theorem pages_B (hp : H P = some (.lst (pagesV pg))) (ne : pg ≠ []) (h : WvAt K H CN N n r B fs w row olds) : P ≠ n ∧ P ≠ B := by
  obtain ⟨dx, L, us, a, b, c, d⟩ := h.ex
  refine ⟨?_, ?_⟩
  · rintro rfl
    rw [a] at hp
    cases hp
  · rintro rfl
    rw [c] at hp
    injection hp with hp
    injection hp with hp
    subst hp
    cases pg with
    | nil => exact ne rfl
    | cons l q =>
      cases olds with
      | nil =>
        have h0 : (pagesV (l :: q)).length = 0 := d.len
        exact absurd h0 (by unfold pagesV; simp)
      | cons o os =>
        obtain ⟨p, L, e, _⟩ := d.at_ 0 _ _ rfl rfl
        cases e
theorem WvAt.page {xs : List V} (h : WvAt K H CN (fun L => L ≠ P) n r B fs w row olds) (hp : H P = some (.lst (pagesV pg))) (ne : pg ≠ []) : WvAt K (upd H P (.lst xs)) CN (fun L => L ≠ P) n r B fs w row olds := by
  obtain ⟨p1, p2⟩ := pages_B hp ne h
  obtain ⟨dx, L, us, a, b, c, d⟩ := h.ex
  have kp : KpT K H (upd H P (.lst xs)) := KpT.lst hp
  refine ⟨dx, L, us, (upd_ne (Ne.symm p1)).trans a, (upd_ne d.far).trans b, (upd_ne (Ne.symm p2)).trans c, d.len, fun i v o e1 e2 => ?_, d.far⟩
  obtain ⟨q, L2, x1, x2, x3, x4⟩ := d.at_ i v o e1 e2
  exact ⟨q, L2, x1, kp _ _ x2, (upd_ne x4).trans x3, x4⟩
theorem WvAt.fresh (h : WvAt K H CN N n r B fs w row olds) (hP : H P = none) : WvAt K H CN (fun L => L ≠ P) n r B fs w row olds := by
  obtain ⟨dx, L, us, a, b, c, d⟩ := h.ex
  refine ⟨dx, L, us, a, b, c, d.len, fun i v o e1 e2 => ?_, ne_of_none b hP⟩
  obtain ⟨q, L2, x1, x2, x3, x4⟩ := d.at_ i v o e1 e2
  exact ⟨q, L2, x1, x2, x3, ne_of_none x3 hP⟩
end
structure LS (K : PySem.W.Frag) (C CN D Cc wd ld r fa ta n B : Addr) (sg w : List Nat) (gs fs : List Fd) (T m : Nat) (P : Addr) (olds : List (List Nat)) (row : List Nat) (H : Hp) : Prop where
  dk : DeckAt D Cc T H
  wt : WAt H wd ld sg gs
  bk : BkWh K H C r sg fs fa ta
  pg : H P = some (.lst (pagesV (olds ++ [row])))
  wv : WvAt K H CN (fun L => L ≠ P) n r B fs w row olds
  hB : B ≠ Cc
  ln : olds.length ≤ m
  ok : ∀ p ∈ olds ++ [row], (∀ c ∈ p, c ∈ sg) ∧ p.length ≤ 195
/-- what stays all along -/
structure LC (sg w : List Nat) (gs fs : List Fd) : Prop where
  gs_ : GsOk sg gs
  sg_ : SgOk sg
  menu : sg ∈ menuW
  perm : fs.Perm gs
  fs_ : FsOk sg fs
  wi : ∀ c ∈ w, c ∈ sg
  wl : w.length ≤ 4
section
variable {K : PySem.W.Frag} {C CN D Cc wd ld r fa ta n B P : Addr} {sg w row : List Nat} {gs fs : List Fd} {T T' m m' : Nat} {olds : List (List Nat)} {H H' : Hp}
theorem app_ne {olds : List (List Nat)} {row : List Nat} : olds ++ [row] ≠ [] := fun h => by
  have := congrArg List.length h
  rw [List.length_append] at this
  exact absurd this (by simp)
theorem LS.off (h : LS K C CN D Cc wd ld r fa ta n B sg w gs fs T m P olds row H) (f : Off D Cc H H') (dk : DeckAt D Cc T' H') : LS K C CN D Cc wd ld r fa ta n B sg w gs fs T' m P olds row H' :=
  let ⟨p1, p2⟩ := pages_deck h.pg app_ne h.dk; ⟨dk, h.wt.off f h.dk, h.bk.off f h.dk, f P _ p1 p2 h.pg, h.wv.off f h.dk h.hB, h.hB, h.ln, h.ok⟩
theorem LS.same (h : LS K C CN D Cc wd ld r fa ta n B sg w gs fs T m P olds row H) (e : Same H H') : LS K C CN D Cc wd ld r fa ta n B sg w gs fs T m P olds row H' := h.off (Off.same e) (h.dk.same e)
theorem LS.mono (h : LS K C CN D Cc wd ld r fa ta n B sg w gs fs T m P olds row H) (hT : T ≤ T') (hm : m ≤ m') : LS K C CN D Cc wd ld r fa ta n B sg w gs fs T' m' P olds row H := ⟨h.dk.mono hT, h.wt, h.bk, h.pg, h.wv, h.hB, Nat.le_trans h.ln hm, h.ok⟩
theorem LS.rowOk (h : LS K C CN D Cc wd ld r fa ta n B sg w gs fs T m P olds row H) : (∀ c ∈ row, c ∈ sg) ∧ row.length ≤ 195 := h.ok row (List.mem_append.mpr (Or.inr List.mem_cons_self))
/-- behind a change of the weaving, its page written -/
theorem LS.push {row' : List Nat} (h : LS K C CN D Cc wd ld r fa ta n B sg w gs fs T m P olds row H) (wv : WvAt K H' CN (fun L => L ≠ P) n r B fs w row' (olds ++ [row])) (f : Off n B H H') (g : (∀ c ∈ row', c ∈ sg) ∧ row'.length ≤ 195) :
    H' P = some (.lst (pagesV (olds ++ [row]))) ∧ LS K C CN D Cc wd ld r fa ta n B sg w gs fs T (m + 1) P (olds ++ [row]) row' (upd H' P (.lst (pagesV (olds ++ [row]) ++ [.str (S row')]))) := by
  obtain ⟨p1, p2⟩ := pages_B h.pg app_ne h.wv
  have pg' : H' P = some (.lst (pagesV (olds ++ [row]))) := f P _ p1 p2 h.pg
  have dk' := h.dk.note h.wv f h.hB
  have wt' := h.wt.note h.wv f
  have bk' := h.bk.note h.wv f
  obtain ⟨q1, q2⟩ := pages_deck pg' app_ne dk'
  have kp : KpT K H' (upd H' P (.lst (pagesV (olds ++ [row]) ++ [.str (S row')]))) := KpT.lst pg'
  refine ⟨pg', ?_, ?_, ?_, ?_, wv.page pg' app_ne, h.hB, ?_, ?_⟩
  · obtain ⟨mm, t, js, a1, a2, a3, a4⟩ := dk'.ex
    exact ⟨mm, t, js, (upd_ne (Ne.symm q1)).trans a1, (upd_ne (Ne.symm q2)).trans a2, a3, a4⟩
  · refine ⟨(upd_ne ?_).trans wt'.w, (upd_ne ?_).trans wt'.l⟩
    · rintro rfl
      have := wt'.w
      rw [pg'] at this
      cases this
    · rintro rfl
      have := wt'.l
      rw [pg'] at this
      cases this
  · obtain ⟨⟨⟨dr, b1⟩, b2⟩, xs, b3, b4⟩ := bk'
    refine ⟨⟨⟨dr, (upd_ne ?_).trans b1⟩, (upd_ne ?_).trans b2⟩, xs, kp _ _ b3, b4.kp kp⟩
    · rintro rfl
      rw [pg'] at b1
      cases b1
    · rintro rfl
      rw [pg'] at b2
      cases b2
  · rw [upd_same, show pagesV (olds ++ [row] ++ [row']) = pagesV (olds ++ [row]) ++ [V.str (S row')] from List.map_append]
  · rw [List.length_append]
    exact Nat.succ_le_succ h.ln
  · intro p hp
    rcases List.mem_append.mp hp with hp | hp
    · exact h.ok p hp
    · rw [List.mem_singleton.mp hp]
      exact g
/-- behind a change taken back, with new pages -/
theorem LS.drop {os : List (List Nat)} {o : List Nat} {P' : Addr} (h : LS K C CN D Cc wd ld r fa ta n B sg w gs fs T m P (os ++ [o]) row H) (wv : WvAt K H' CN (fun L => L ≠ P) n r B fs w o os) (f : Off n B H H') (hP : H' P' = none) :
    LS K C CN D Cc wd ld r fa ta n B sg w gs fs T m P' os o (upd H' P' (.lst (pagesV (os ++ [o])))) := by
  have e := same_new (o := HO.lst (pagesV (os ++ [o]))) hP
  refine ⟨(h.dk.note h.wv f h.hB).same e, (h.wt.note h.wv f).same e, (h.bk.note h.wv f).same e, upd_same, (wv.fresh hP).same e, h.hB, ?_, fun p hp => h.ok p (List.mem_append.mpr (Or.inl hp))⟩
  have := h.ln
  rw [List.length_append] at this
  omega
end
theorem many_ok {fs : List Fd} {w row f : List Nat} {a b : Nat} {m : Int} (h : IsMany fs w row a b f m) (hl : row.length ≤ 300) : ShowOk (.int m) := by
  rcases h with ⟨j, _, _, _, rfl⟩ | ⟨_, rfl⟩
  · exact (gd_int (k := row.length - b - j) (by omega)).ok (by decide) (by decide)
  · exact ok_of (by decide +kernel)
theorem many_eq {fs gs : List Fd} (he : ledM fs = ledM gs) {w row f : List Nat} {a b : Nat} {m : Int} (h : IsMany gs w row a b f m) : IsMany fs w row a b f m := by
  unfold IsMany EqAtJ at *
  rw [he]
  exact h
end Lw

namespace Lw
open PySem PySem.Spec PyProof.Rows L2 Mq
open SX (S)
/-! ### the law -/
/-- near, far and the letters, bent where they have to be -/
def tFix : TS := fun Dn σ H => ∃ (o0 o1 o2 o3 o4 o5 o6 o7 o9 o10 o11 o17 : Option V) (sg row f : List Nat) (a b : Nat), σ = [o0, o1, o2, o3, o4, o5, o6, o7, some (.str (S sg)), o9, o10, o11, some (.str (S row)), some (.int (a : Nat)), some (.int (b : Nat)), some (.str (S ((row.drop a).take (b - a)))), some (.str (S f)), o17] ∧
  a ≤ b ∧ b ≤ row.length ∧ b ≤ a + 3 ∧ row.length ≤ 195 ∧ f.length ≤ 3 ∧ (∀ c ∈ f, c ∈ sg) ∧ (∀ c ∈ row, c ∈ sg) ∧ 0 < sg.length ∧ sg.length ≤ 1000 ∧
  ∀ (a' b' : Nat) (f' : List Nat), a' ≤ b' → b' ≤ row.length → (∀ c ∈ f', c ∈ sg) → f'.length ≤ 4 → row.length + a' + f'.length ≤ 195 + b' →
    Dn.nx [o0, o1, o2, o3, o4, o5, o6, o7, some (.str (S sg)), o9, o10, o11, some (.str (S row)), some (.int (a' : Nat)), some (.int (b' : Nat)), some (.str (S ((row.drop a).take (b - a)))), some (.str (S f')), o17] H
/-- one turn: a change, or one taken back -/
def tTurn (K : PySem.W.Frag) (C CN : Addr) : TS := fun Dn σ H => ∃ (s0 D Cc wd ld r fa ta n B P : Addr) (sg w row : List Nat) (gs fs : List Fd) (T m way turn : Nat) (olds : List (List Nat)) (o9 o10 o13 o14 o15 o16 o17 : Option V),
  σ = [some (.ref s0), some (.ref D), some (.ref wd), some (.ref r), some (.int (way : Nat)), some (.str (S w)), some (.ref P), some (.ref n), some (.str (S sg)), o9, o10, some (.int (turn : Nat)), some (.str (S row)), o13, o14, o15, o16, o17] ∧
  LC sg w gs fs ∧ LS K C CN D Cc wd ld r fa ta n B sg w gs fs T m P olds row H ∧ T ≤ 800000 ∧ m ≤ 100 ∧
  ∀ (H' : Hp) (P' : Addr) (olds' : List (List Nat)) (row' : List Nat) (p13 p14 p15 p16 p17 : Option V), LS K C CN D Cc wd ld r fa ta n B sg w gs fs (T + 6500) (m + 1) P' olds' row' H' →
    Dn.nx [some (.ref s0), some (.ref D), some (.ref wd), some (.ref r), some (.int (way : Nat)), some (.str (S w)), some (.ref P'), some (.ref n), some (.str (S sg)), o9, o10, some (.int (turn : Nat)), some (.str (S row)), p13, p14, p15, p16, p17] H'
/-- how many turns -/
def tCnt : TE := fun σ H Q => ∃ (D Cc : Addr) (T way : Nat), σ[1]? = some (some (.ref D)) ∧ σ[4]? = some (some (.int (way : Nat))) ∧ DeckAt D Cc T H ∧ T ≤ 900000 ∧ ∀ H' (N : Nat), N ≤ 60 → DeckAt D Cc (T + 1) H' → Off D Cc H H' → Q (.int (N : Nat)) H'
def tMost : TE := fun σ H Q => ∃ way : Nat, σ[4]? = some (some (.int (way : Nat))) ∧ ∀ k : Nat, k ≤ 195 → Q (.int (k : Nat)) H
structure NtIs (K : PySem.W.Frag) (CN : Addr) : Prop where
  ca : PySem.W.findIn K (.ref CN) "__class__" = some (some (.builtin "object.__class__"))
  sp : PySem.W.specialIn K (.builtin "object.__class__") "__get__" = some (some (.builtin "getset_descriptor.__get__"))
  tk : PySem.W.takesIn K (.builtin "object.__class__") = some true
  mo : PySem.W.mroIn K CN (.type "object") = some true
  nl : PySem.W.kitOne K (.ref CN) (.type "list") = some false
def spLaw (K : PySem.W.Frag) : Sp := fun vs H Q _ => ∃ (a : Addr) (ns : List Int), vs = [.ref a] ∧ SqL K H a (ns.map V.int) ∧ ns.length ≤ 63 ∧ ∀ H', Q (.bl true) H'
def oddW (pt pl pd : Addr) : List V := [.non, .int 0, .ref pt, .str "a?", .str "A", .ref pl, .ref pd, .bl true, .str "zz"]
structure OddWe (K : PySem.W.Frag) (H : Hp) (D C pt pl pd : Addr) : Prop where
  tt : SqT K H pt [.str "a"]
  tl : H pl = some (.lst [])
  nl : pl ≠ sysModules
  td : H pd = some (.dK [])
  ml : pl ≠ D ∧ pl ≠ C
  md : pd ≠ D ∧ pd ≠ C
def saidD (d : PyData) : PyData := .list [.list [.str "web", d, .bool true], .list [.str "web", d, .bool true], .list [.str "row", d, .bool true]]
theorem menu_z : ∀ sg ∈ menuW, 122 ∉ sg := by decide
section
variable {K : PySem.W.Frag} {H H' : Hp} {D C pt pl pd : Addr} {sg : List Nat}
theorem OddWe.off {T : Nat} (o : OddWe K H D C pt pl pd) (f : Off D C H H') (k : DeckAt D C T H) : OddWe K H' D C pt pl pd :=
  ⟨f.tup k o.tt, f _ _ o.ml.1 o.ml.2 o.tl, o.nl, f _ _ o.md.1 o.md.2 o.td, o.ml, o.md⟩
theorem odd_we (o : OddWe K H D C pt pl pd) (hm : sg ∈ menuW) : ∀ v ∈ oddW pt pl pd, BadS K H sg v ∧ ∃ d, Dg K H v d ∧ ShowOk (saidD d) := by
  intro v hv
  obtain ⟨m63, m65, _⟩ := menu_in sg hm
  have m122 := menu_z sg hm
  unfold oddW at hv
  simp only [List.mem_cons, List.not_mem_nil, or_false] at hv
  rcases hv with rfl | rfl | rfl | rfl | rfl | rfl | rfl | rfl | rfl
  · exact ⟨bad_of (fun _ _ => .base .non) (by decide) (by decide), _, .non, ok_of (by decide +kernel)⟩
  · exact ⟨bad_of (fun _ _ => .base (.int _)) (by decide) (by decide), _, .int _, ok_of (by decide +kernel)⟩
  · exact ⟨bad_of (fun _ e => ty_tup (Same.tup e o.tt)) (by decide) (by decide), _, .tup o.tt (.cons (.str _) .nil), ok_of (by decide +kernel)⟩
  · exact ⟨fun _ _ => Or.inl ⟨[97, 63], by decide +kernel, by show 2 ≤ 1000; decide, all_out m63 [97]⟩, _, .str _, ok_of (by decide +kernel)⟩
  · exact ⟨bad_one (by decide +kernel) m65, _, .str _, ok_of (by decide +kernel)⟩
  · exact ⟨bad_of (fun _ e => ty_list (SqL.of (e _ _ o.tl))) (by decide) (by decide), _, .lst o.nl (SqL.of o.tl) .nil, ok_of (by decide +kernel)⟩
  · exact ⟨bad_of (fun _ e => .base (.dK (e _ _ o.td))) (by decide) (by decide), _, .dct o.td .nil, ok_of (by decide +kernel)⟩
  · exact ⟨bad_of (fun _ _ => .base (.bl _)) (by decide) (by decide), _, .bl _, ok_of (by decide +kernel)⟩
  · exact ⟨fun _ _ => Or.inl ⟨[122, 122], by decide +kernel, by show 2 ≤ 1000; decide, all_out m122 [122]⟩, _, .str _, ok_of (by decide +kernel)⟩
end
section
variable {P : Program} {w : World} {K : PySem.W.Frag} {mg : Str → Option Value} {base : Heap} {C CN : Addr}
theorem ok_law {f fD fR fP fO fK fL fM fU fE fG fT fX fp1 g1 : Addr} {fd fdD fdR fdP fdO fdK fdL fdM fdU fdE fdG fdT fdX fdp1 : FuncData} (F : Fun K "law" "law" s_law f fd) (B : Blt mg) (bmin : mg "min" = none) (R : WvC K CN) (I : NtIs K CN)
    (FD : Fun K "_law_deck" "_law_deck" s__law_deck fD fdD) (gD : mg "_law_deck" = some (.ref fD)) (bD : Binds K fdD ["_law_script"] []) (GD : FnOk P w K mg base CX0 1 fD fdD ["_law_script"] (spDeck K))
    (FR : Fun K "_law_draw" "_law_draw" s__law_draw fR fdR) (gR : mg "_law_draw" = some (.ref fR)) (bR : Binds K fdR ["_law_deck_here", "_law_many"] []) (GR : FnOk P w K mg base CX0 1 fR fdR ["_law_deck_here", "_law_many"] spDraw)
    (FP : Fun K "_law_pick" "_law_pick" s__law_pick fP fdP) (gP : mg "_law_pick" = some (.ref fP)) (bP : Binds K fdP ["_law_deck_here", "_law_some"] []) (GP : FnOk P w K mg base CX0 2 fP fdP ["_law_deck_here", "_law_some"] spPick)
    (FO : Fun K "_law_book" "_law_book" s__law_book fO fdO) (gO : mg "_law_book" = some (.ref fO)) (bO : Binds K fdO ["_law_deck_here", "_law_signs"] []) (GO : FnOk P w K mg base CX0 3 fO fdO ["_law_deck_here", "_law_signs"] spBookL)
    (FK : Fun K "_law_code" "_law_code" s__law_code fK fdK) (gK : mg "_law_code" = some (.ref fK)) (bK : Binds K fdK ["_law_f"] []) (GK : FnOk P w K mg base CX0 5 fK fdK ["_law_f"] (spCode K C))
    (FL : Fun K "_law_lays" "_law_lays" s__law_lays fL fdL) (gL : mg "_law_lays" = some (.ref fL)) (bL : Binds K fdL ["_law_deck_here", "_law_signs", "_law_most"] []) (GL : FnOk P w K mg base CX0 3 fL fdL ["_law_deck_here", "_law_signs", "_law_most"] spLays)
    (FM : Fun K "_law_made" "_law_made" s__law_made fM fdM) (gM : mg "_law_made" = some (.ref fM)) (bM : Binds K fdM ["_law_code_here", "_law_cloth", "_law_lays_here", "_law_is_named"] []) (GM : FnG P w K mg base CX0 7 fM fdM ["_law_code_here", "_law_cloth", "_law_lays_here", "_law_is_named"] (spMadeW K C CN))
    (FU : Fun K "_law_undone" "_law_undone" s__law_undone fU fdU) (gU : mg "_law_undone" = some (.ref fU)) (bU : Binds K fdU ["_law_note"] []) (GU : FnG P w K mg base CX0 2 fU fdU ["_law_note"] (spUndone K CN))
    (FE : Fun K "_law_due" "_law_due" s__law_due fE fdE) (gE : mg "_law_due" = some (.ref fE)) (bE : Binds K fdE ["_law_f", "_law_cloth", "_law_lays_here", "_law_near", "_law_far", "_law_fresh"] []) (GE : FnOk P w K mg base CX0 3 fE fdE ["_law_f", "_law_cloth", "_law_lays_here", "_law_near", "_law_far", "_law_fresh"] spDue)
    (FG : Fun K "_law_changed" "_law_changed" s__law_changed fG fdG) (gG : mg "_law_changed" = some (.ref fG)) (bG : Binds K fdG ["_law_note", "_law_near", "_law_far", "_law_fresh", "_law_is_named"] []) (GG : FnG P w K mg base CX0 5 fG fdG ["_law_note", "_law_near", "_law_far", "_law_fresh", "_law_is_named"] (spChanged K C CN))
    (FT : Fun K "_law_stands" "_law_stands" s__law_stands fT fdT) (gT : mg "_law_stands" = some (.ref fT)) (bT : Binds K fdT ["_law_deck_here", "_law_f", "_law_code_here", "_law_note", "_law_cloth", "_law_lays_here"] []) (GT : FnG P w K mg base CX0 6 fT fdT ["_law_deck_here", "_law_f", "_law_code_here", "_law_note", "_law_cloth", "_law_lays_here"] (spStands K C CN))
    (FX : Fun K "_law_refused" "_law_refused" s__law_refused fX fdX) (gX : mg "_law_refused" = some (.ref fX)) (bX : Binds K fdX ["_law_deck_here", "_law_note", "_law_size"] []) (GX : FnG P w K mg base CX0 6 fX fdX ["_law_deck_here", "_law_note", "_law_size"] (spRefused K C CN))
    (p1 : PropOf K CN "row_now" fp1 g1) (bp1 : Binds K fdp1 ["self"] []) (Gp1 : FnOk P w K mg base CX0 1 g1 fdp1 ["self"] (spNow K CN)) :
    FnG P w K mg base CX0 8 f fd ["_law_script"] (spLaw K) := by
  refine Mq.Fun.okG F sc_law (fun vs H Q E h => ?_) (fun cdv A outer s H vs Q E gA hr h => ?_)
  · obtain ⟨_, _, rfl, _⟩ := h
    rfl
  · obtain ⟨a, ns0, rfl, ha, hn0, q⟩ := h
    have hr7 : Room 7 (A.deeper (envOfC "law" (defScope s_law) s.heap.objs.size f cdv)) := hr
    have hr6 : Room 6 (A.deeper (envOfC "law" (defScope s_law) s.heap.objs.size f cdv)) := hr.mono (by decide)
    have hr5 : Room 5 (A.deeper (envOfC "law" (defScope s_law) s.heap.objs.size f cdv)) := hr.mono (by decide)
    have hr2 : Room 2 (A.deeper (envOfC "law" (defScope s_law) s.heap.objs.size f cdv)) := hr.mono (by decide)
    have hu1 : (A.deeper (envOfC "law" (defScope s_law) s.heap.objs.size f cdv)).units + 1 < cLine := by
      have := hr.un
      omega
    refine ⟨_, (pss_cons (ps_set (i := 1) sc_law.nd rfl (Or.inl rfl) (pe_call GD (hr.mono (by decide)) (by rfl) gD FD.kp bD .nil pass0 (pa_cons (pv 0) pa_nil)))
      (pss_cons (ps_set (i := 2) sc_law.nd rfl (Or.inl rfl) (pe_call GO (hr.mono (by decide)) (by rfl) gO FO.kp bO .nil pass0 (pa_cons (pv 1) (pa_cons (pe_call GP (hr.mono (by decide)) (by rfl) gP FP.kp bP .nil pass0 (pa_cons (pv 1) (pa_cons (Mq.pe_ls (pa_cons pe_str (pa_cons pe_str (pa_cons pe_str (pa_cons pe_str pa_nil))))) pa_nil))) pa_nil))))
      (pss_cons (ps_par (i := 3) (j := 4) rfl sc_law.nd rfl rfl (by decide) rfl rfl (pa_cons (pe_call GK (hr.mono (by decide)) (by rfl) gK FK.kp bK .nil pass0 (pa_cons (pv 2) pa_nil)) (pa_cons (pe_call GR (hr.mono (by decide)) (by rfl) gR FR.kp bR .nil pass0 (pa_cons (pv 1) (pa_cons pe_int pa_nil))) pa_nil)) (by rfl))
      (pss_cons (ps_set (i := 5) sc_law.nd rfl (Or.inl rfl) (pe_call GL (hr.mono (by decide)) (by rfl) gL FL.kp bL .nil pass0 (pa_cons (pv 1) (pa_cons (pe_dget hu1 (pv 2) pe_str (fun _ _ => rfl)) (pa_cons pe_int pa_nil)))))
      (pss_cons (ps_set (i := 6) sc_law.nd rfl (Or.inl rfl) (Mq.pe_ls (pa_cons (pe_call GL (hr.mono (by decide)) (by rfl) gL FL.kp bL .nil pass0 (pa_cons (pv 1) (pa_cons (pe_dget hu1 (pv 2) pe_str (fun _ _ => rfl)) (pa_cons (PE_imp (t' := tMost) (pe_ifExp (pt_cmpR op_eq (pv 4) pe_int (nomark _)) pe_int pe_int) (fun σ H Q h => by
            obtain ⟨way, h4, q⟩ := h
            exact ⟨_, h4, rfl, _, rfl, ite2 (fun _ => q 195 (by decide)) (fun _ => q 14 (by decide))⟩)) pa_nil)))) pa_nil)))
      (pss_cons (ps_par (i := 7) (j := 8) rfl sc_law.nd rfl rfl (by decide) rfl rfl (pa_cons (Mq.pe_callG GM gA hr7 (by rfl) gM FM.kp bM pass0 (pa_cons (pv 3) (pa_cons (pv 5) (pa_cons (pe_ix ix_list (pv 6) pe_int (fun _ _ => rfl)) (pa_cons (pe_cmpR op_eq (pe_op op_modN (pv 4) pe_int) pe_int (nomark _)) pa_nil))))) (pa_cons (pe_dget hu1 (pv 2) pe_str (fun _ _ => rfl)) pa_nil)) (by rfl))
      (pss_cons (ps_set (i := 9) sc_law.nd rfl (Or.inl rfl) (pe_call GP (hr.mono (by decide)) (by rfl) gP FP.kp bP .nil pass0 (pa_cons (pv 1) (pa_cons (Mq.pe_ls (pa_cons pe_non (pa_cons pe_int (pa_cons (pe_tup (pa_cons pe_str pa_nil)) (pa_cons pe_str (pa_cons pe_str (pa_cons (Mq.pe_ls pa_nil) (pa_cons pe_dnewK (pa_cons pe_bl (pa_cons pe_str pa_nil)))))))))) pa_nil))))
      (pss_cons (ps_set (i := 10) sc_law.nd rfl (Or.inl rfl) (Mq.pe_ls (pa_cons (Mq.pe_callG GM gA hr7 (by rfl) gM FM.kp bM pass0 (pa_cons (pv 3) (pa_cons (pv 9) (pa_cons (pe_ix ix_list (pv 6) pe_int (fun _ _ => rfl)) (pa_cons pe_bl pa_nil))))) (pa_cons (Mq.pe_callG GM gA hr7 (by rfl) gM FM.kp bM pass0 (pa_cons (pv 3) (pa_cons (pv 9) (pa_cons (pv 9) (pa_cons pe_bl pa_nil))))) pa_nil))))
      (pss_cons (ps_expr (pe_bm PySem.F.plainAttrs_list PySem.F.slot_list_append PySem.F.type_list_append mt_append (pv 10) (pa_cons (Mq.pe_callG GM gA hr7 (by rfl) gM FM.kp bM pass0 (pa_cons (pv 3) (pa_cons (pv 5) (pa_cons (pv 9) (pa_cons (pe_cmpR op_gt (pv 4) pe_int (nomark _)) pa_nil))))) pa_nil)))
      (pss_cons (ps_if (PW.pt (pw_or (pt_cmpR op_ne (pe_callB (call_rep hr gA) (by rfl) B.repr (by decide +kernel) (pa_cons (pv 10) pa_nil)) (pe_callB (call_rep hr gA) (by rfl) B.repr (by decide +kernel) (pa_cons (Mq.pe_ls (pa_cons (Mq.pe_ls (pa_cons pe_str (pa_cons (pv 9) (pa_cons pe_bl pa_nil)))) (pa_cons (Mq.pe_ls (pa_cons pe_str (pa_cons (pv 9) (pa_cons pe_bl pa_nil)))) (pa_cons (Mq.pe_ls (pa_cons pe_str (pa_cons (pv 9) (pa_cons pe_bl pa_nil)))) pa_nil)))) pa_nil)) (nomark _)) (pw_or1 (pt_val (pe_callB call_isi (by rfl) B.isi (by decide +kernel) (pa_cons (pv 7) (pa_cons (pe_bltn (v := .ty "list") (by rfl) B.list (by decide +kernel) rfl) pa_nil))))))) (pss_one (ps_ret pe_bl)) pss_nil)
      (pss_cons (ps_for (passes_of rfl) rfl (pi_range1 (by rfl) B.range (pa_cons (PE_imp (t' := tCnt) (pe_ifExp (pt_cmpR op_eq (pv 4) pe_int (nomark _)) pe_int (pe_op op_add pe_int (pe_call GR (hr.mono (by decide)) (by rfl) gR FR.kp bR .nil pass0 (pa_cons (pv 1) (pa_cons pe_int pa_nil))))) (fun σ H Q h => by
            obtain ⟨D, Cc, T, way, h1, h4, dk, hT, q⟩ := h
            refine ⟨_, h4, rfl, _, rfl, ite2 (fun _ => q H 60 (by decide) (dk.mono (by omega)) (Off.refl _ _ _)) (fun _ => ⟨_, h1, D, Cc, T, 7, rfl, dk, by omega, by decide, by decide, fun H1 k hk dk1 off1 => ⟨_, _, rfl, rfl, ?_⟩⟩)⟩
            have e : (3 : Int) + ((k : Nat) : Int) = ((3 + k : Nat) : Int) := by omega
            have qq := q H1 (3 + k) (by omega) dk1 off1
            rw [← e] at qq
            exact qq)) pa_nil)) (pg_name (i := 11) sc_law.nd rfl (Or.inl rfl))
        (pss_cons (ps_set (i := 12) sc_law.nd rfl (Or.inl rfl) (pe_ix ix_list (pv 6) (pe_un un_neg pe_int) (fun _ _ => rfl)))
        (pss_cons (PS_imp (t' := tTurn K C CN) (ps_if (pt_cmpR op_eq (pe_call GR (hr.mono (by decide)) (by rfl) gR FR.kp bR .nil pass0 (pa_cons (pv 1) (pa_cons pe_int pa_nil))) pe_int (nomark _)) (pss_cons (ps_if (pt_cmpR op_ne (pe_callB (call_rep hr gA) (by rfl) B.repr (by decide +kernel) (pa_cons (Mq.pe_callG GU gA hr2 (by rfl) gU FU.kp bU pass0 (pa_cons (pv 7) pa_nil)) pa_nil)) (pe_callB (call_rep hr gA) (by rfl) B.repr (by decide +kernel) (pa_cons (pe_ifExp (pt_cmpR op_gt (pe_callB call_len (by rfl) B.len (by decide +kernel) (pa_cons (pv 6) pa_nil)) pe_int (nomark _)) pe_non pe_bl) pa_nil)) (nomark _)) (pss_one (ps_ret pe_bl)) pss_nil)
            (pss_one (ps_set (i := 6) sc_law.nd rfl (Or.inl rfl) (pe_ifExp (pt_cmpR op_gt (pe_callB call_len (by rfl) B.len (by decide +kernel) (pa_cons (pv 6) pa_nil)) pe_int (nomark _)) (pe_slice sl_list (pv 6) po_none (po_some (pe_un un_neg pe_int))) (pv 6)))))
          (pss_cons (ps_set (i := 13) sc_law.nd rfl (Or.inl rfl) (pe_call GR (hr.mono (by decide)) (by rfl) gR FR.kp bR .nil pass0 (pa_cons (pv 1) (pa_cons (pe_op op_add (pe_callB call_len (by rfl) B.len (by decide +kernel) (pa_cons (pv 12) pa_nil)) pe_int) pa_nil))))
          (pss_cons (ps_set (i := 14) sc_law.nd rfl (Or.inl rfl) (pe_callB (call_min2 rfl) (by rfl) bmin (by decide +kernel) (pa_cons (pe_callB call_len (by rfl) B.len (by decide +kernel) (pa_cons (pv 12) pa_nil)) (pa_cons (pe_op op_add (pv 13) (pe_call GR (hr.mono (by decide)) (by rfl) gR FR.kp bR .nil pass0 (pa_cons (pv 1) (pa_cons pe_int pa_nil)))) pa_nil))))
          (pss_cons (ps_set (i := 15) sc_law.nd rfl (Or.inl rfl) (pe_slice C8.sl_txt (pv 12) (po_some (pv 13)) (po_some (pv 14))))
          (pss_cons (ps_set (i := 16) sc_law.nd rfl (Or.inl rfl) (pe_call GP (hr.mono (by decide)) (by rfl) gP FP.kp bP .nil pass0 (pa_cons (pv 1) (pa_cons (Mq.pe_ls (pa_cons (pe_call GL (hr.mono (by decide)) (by rfl) gL FL.kp bL .nil pass0 (pa_cons (pv 1) (pa_cons (pv 8) (pa_cons pe_int pa_nil)))) (pa_cons (pe_call GL (hr.mono (by decide)) (by rfl) gL FL.kp bL .nil pass0 (pa_cons (pv 1) (pa_cons (pv 8) (pa_cons pe_int pa_nil)))) (pa_cons (pv 15) (pa_cons (pe_revS (pv 15)) (pa_cons pe_str pa_nil)))))) pa_nil))))
          (pss_cons (PS_imp (t' := tFix) (ps_if (pt_cmpR op_gt (pe_callB call_len (by rfl) B.len (by decide +kernel) (pa_cons (pv 12) pa_nil)) pe_int (nomark _)) (pss_cons (ps_par (i := 13) (j := 16) rfl sc_law.nd rfl rfl (by decide) rfl rfl (pa_cons (pe_callB (call_min2 rfl) (by rfl) bmin (by decide +kernel) (pa_cons (pv 13) (pa_cons (pe_op op_sub (pe_callB call_len (by rfl) B.len (by decide +kernel) (pa_cons (pv 12) pa_nil)) pe_int) pa_nil))) (pa_cons pe_str pa_nil)) (by rfl))
              (pss_one (ps_set (i := 14) sc_law.nd rfl (Or.inl rfl) (pe_op op_add (pv 13) pe_int)))) (pss_one (ps_if (pt_cmpR op_eq (pv 16) (pv 15) (nomark _)) (pss_one (ps_set (i := 16) sc_law.nd rfl (Or.inl rfl) (pe_op op_add_str (pe_ix ix_str (pv 8) pe_int (fun _ _ => rfl)) (pv 15)))) pss_nil))) (fun Dn σ H h => ?fix))
          (pss_cons (ps_set (i := 17) sc_law.nd rfl (Or.inl rfl) (pe_call GE (hr.mono (by decide)) (by rfl) gE FE.kp bE .nil pass0 (pa_cons (pv 2) (pa_cons (pv 5) (pa_cons (pv 12) (pa_cons (pv 13) (pa_cons (pv 14) (pa_cons (pv 16) pa_nil))))))))
          (pss_cons (ps_if (pt_cmpR op_ne (pe_callB (call_rep hr gA) (by rfl) B.repr (by decide +kernel) (pa_cons (Mq.pe_callG GG gA hr5 (by rfl) gG FG.kp bG pass0 (pa_cons (pv 7) (pa_cons (pv 13) (pa_cons (pv 14) (pa_cons (pv 16) (pa_cons (pe_cmpR op_eq (pe_op op_modN (pv 11) pe_int) pe_int (nomark _)) pa_nil)))))) pa_nil)) (pe_callB (call_rep hr gA) (by rfl) B.repr (by decide +kernel) (pa_cons (pv 17) pa_nil)) (nomark _)) (pss_one (ps_ret pe_bl)) pss_nil)
          (pss_one (ps_expr (pe_bm PySem.F.plainAttrs_list PySem.F.slot_list_append PySem.F.type_list_append mt_append (pv 6) (pa_cons (pe_op op_add_str (pe_op op_add_str (pe_slice C8.sl_txt (pv 12) po_none (po_some (pv 13))) (pv 16)) (pe_slice C8.sl_txt (pv 12) (po_some (pv 14)) po_none)) pa_nil))))))))))) ) (fun Dn σ H h => ?trn))
        (pss_one (ps_if (pt_not (pt_val (Mq.pe_callG GT gA hr6 (by rfl) gT FT.kp bT pass0 (pa_cons (pv 1) (pa_cons (pv 2) (pa_cons (pv 3) (pa_cons (pv 7) (pa_cons (pv 5) (pa_cons (pe_ix ix_list (pv 6) (pe_un un_neg pe_int) (fun _ _ => rfl)) pa_nil))))))))) (pss_one (ps_ret pe_bl)) pss_nil)))))
      (pss_cons (ps_if (PW.pt (pw_or (pt_not (pt_val (Mq.pe_callG GX gA hr6 (by rfl) gX FX.kp bX pass0 (pa_cons (pv 1) (pa_cons (pv 7) (pa_cons (pe_callB call_len (by rfl) B.len (by decide +kernel) (pa_cons (pe_ix ix_list (pv 6) (pe_un un_neg pe_int) (fun _ _ => rfl)) pa_nil)) pa_nil)))))) (pw_or1 (pt_not (pt_val (Mq.pe_callG GT gA hr6 (by rfl) gT FT.kp bT pass0 (pa_cons (pv 1) (pa_cons (pv 2) (pa_cons (pv 3) (pa_cons (pv 7) (pa_cons (pv 5) (pa_cons (pe_ix ix_list (pv 6) (pe_un un_neg pe_int) (fun _ _ => rfl)) pa_nil)))))))))))) (pss_one (ps_ret pe_bl)) pss_nil)
      (pss_cons (ps_for (passes_of rfl) rfl (pi_list (pe_revL (pe_slice sl_list (pv 6) po_none (po_some (pe_un un_neg pe_int))))) (pg_name (i := 12) sc_law.nd rfl (Or.inl rfl))
        (pss_one (ps_if (PW.pt (pw_or (pt_cmpR op_notN (Mq.pe_callG GU gA hr2 (by rfl) gU FU.kp bU pass0 (pa_cons (pv 7) pa_nil)) pe_non (nomark _)) (pw_or1 (pt_cmpR op_ne (pe_prop (E := fun _ _ _ => False) (pv 7) R.cls p1 Gp1 (hr.mono (by decide)) bp1 .nil pass0 (by rfl)) (pv 12) (nomark _))))) (pss_one (ps_ret pe_bl)) pss_nil)))
      (pss_one (ps_ret (pe_and (pe_cmpR op_isBl (Mq.pe_callG GU gA hr2 (by rfl) gU FU.kp bU pass0 (pa_cons (pv 7) pa_nil)) pe_bl (nomark _)) (pe_one (Mq.pe_callG GT gA hr6 (by rfl) gT FT.kp bT pass0 (pa_cons (pv 1) (pa_cons (pv 2) (pa_cons (pv 3) (pa_cons (pv 7) (pa_cons (pv 5) (pa_cons (pe_ix ix_list (pv 6) pe_int (fun _ _ => rfl)) pa_nil)))))))))))))))))))))))), ?_⟩
    case fix =>
      obtain ⟨o0, o1, o2, o3, o4, o5, o6, o7, o9, o10, o11, o17, sg, row, f, a, b, rfl, hab, hbl, hb3, hrl, hfl, hfi, hri, hs0, hs1, q⟩ := h
      have hpl : ((row.drop a).take (b - a)).length ≤ 3 := by
        rw [List.length_take]
        omega
      have hpi : ∀ c ∈ (row.drop a).take (b - a), c ∈ sg := fun c hc => hri c ((List.drop_sublist a row).subset ((List.take_sublist _ _).subset hc))
      refine ⟨_, rfl, _, _, rfl, len_S (by omega), _, _, rfl, rfl, _, rfl, ite2 (fun hc => ?_) (fun hc => ?_)⟩
      · have hc' : (190 : Int) < ((row.length : Nat) : Int) := of_decide_eq_true hc
        refine ⟨_, rfl, _, rfl, _, _, rfl, len_S (by omega), _, _, rfl, rfl, _, _, rfl, _, _, rfl, ?_⟩
        refine ⟨_, rfl, _, _, rfl, rfl, ?_⟩
        have e1 : ((min a (row.length - 1) : Nat) : Int) = (if ((row.length : Nat) : Int) - 1 < ((a : Nat) : Int) then ((row.length : Nat) : Int) - 1 else ((a : Nat) : Int)) := by
          split <;> omega
        have e2 : ((min a (row.length - 1) + 1 : Nat) : Int) = (if ((row.length : Nat) : Int) - 1 < ((a : Nat) : Int) then ((row.length : Nat) : Int) - 1 else ((a : Nat) : Int)) + 1 := by
          rw [← e1]
          rfl
        have qq := q (min a (row.length - 1)) (min a (row.length - 1) + 1) [] (by omega) (by omega) (fun c hc => by cases hc) (by show 0 ≤ 4; decide) (by show row.length + _ + 0 ≤ _; omega)
        rw [e2, e1] at qq
        exact qq
      · have hc' : ¬ (190 : Int) < ((row.length : Nat) : Int) := fun z => hc (decide_eq_true z)
        refine ⟨_, rfl, _, rfl, rfl, _, rfl, ite2 (fun _ => ?_) (fun _ => ?_)⟩
        · have hsz : (S sg).length ≤ sizeLine := by
            rw [SX.S_len]
            exact sz_le (by omega)
          refine ⟨_, rfl, S sg, 0, sg.getD 0 0, rfl, rfl, hsz, at_get (k := 0) hs0, _, rfl, S [sg.getD 0 0], S ((row.drop a).take (b - a)), rfl, rfl, ?_, ?_⟩
          · rw [SX.S_len, SX.S_len]
            exact sz_le (by show 1 + _ ≤ _; omega)
          rw [SX.S_cat]
          refine q a b ([sg.getD 0 0] ++ (row.drop a).take (b - a)) hab hbl (fun c hc => ?_) ?_ ?_
          · rcases List.mem_append.mp hc with hc | hc
            · rw [List.mem_singleton.mp hc, List.getD_eq_getElem?_getD, List.getElem?_eq_getElem hs0]
              exact List.getElem_mem hs0
            · exact hpi c hc
          · rw [List.length_append]
            show 1 + _ ≤ 4
            omega
          · rw [List.length_append]
            show row.length + a + (1 + _) ≤ 195 + b
            omega
        · exact q a b f hab hbl hfi (by omega) (by omega)
    have lens : ∀ u : List Nat, u.length ≤ 2000 → (S u).length ≤ sizeLine := fun u hu => by
      rw [SX.S_len]
      exact sz_le (by omega)
    case trn =>
      obtain ⟨s0, D, Cc, wd, ld, r, fa, ta, n, Bf, Pg, sg, w, row, gs, fs, T, m, way, turn, olds, o9, o10, o13, o14, o15, o16, o17, rfl, lc, ls, hT, hm, q⟩ := h
      obtain ⟨hri, hrl⟩ := ls.rowOk
      have hs0 := lc.sg_.pos
      have hs1 := lc.sg_.few
      have lens : ∀ u : List Nat, u.length ≤ 2000 → (S u).length ≤ sizeLine := fun u hu => by
        rw [SX.S_len]
        exact sz_le (by omega)
      refine ⟨_, rfl, D, Cc, T, 4, rfl, ls.dk, by omega, by decide, by decide, fun H1 d4 hd4 dk1 off1 => ⟨rfl, _, rfl, ite2 (fun _ => ?_) (fun _ => ?_)⟩⟩
      · have ls1 := ls.off off1 dk1
        have okT : ShowOk (.bool true) := ok_of (by decide +kernel)
        have okN : ShowOk .none := ok_of (by decide +kernel)
        rcases List.eq_nil_or_concat olds with rfl | ⟨os, o, rfl⟩
        · have hlen : ((pagesV ([] ++ [row])).length : Int) = 1 := rfl
          refine ⟨_, rfl, _, n, r, Bf, fs, w, row, [], rfl, ls1.wv, Or.inl ⟨rfl, ?_⟩⟩
          refine ⟨_, .bool true, rfl, .bl true, okT.sh, okT.de, okT.le, ?_⟩
          refine ⟨_, rfl, _, _, rfl, Or.inl ⟨_, SqL.of ls1.pg, rfl⟩, _, _, rfl, rfl, _, rfl, ifF (decide_eq_false (by rw [hlen]; decide)) ?_⟩
          refine ⟨_, .bool true, rfl, .bl true, okT.sh, okT.de, okT.le, ?_⟩
          refine ⟨rfl, _, rfl, ifF (by rw [decide_eq_true rfl]; rfl) ?_⟩
          exact ⟨_, rfl, _, _, rfl, Or.inl ⟨_, SqL.of ls1.pg, rfl⟩, _, _, rfl, rfl, _, rfl, ifF (decide_eq_false (by rw [hlen]; decide)) ⟨_, rfl, q H1 Pg [] row _ _ _ _ _ (ls1.mono (by omega) (by omega))⟩⟩
        · rw [List.concat_eq_append] at *
          refine ⟨_, rfl, _, n, r, Bf, fs, w, row, os ++ [o], rfl, ls1.wv, Or.inr ⟨os, o, rfl, fun H2 wv2 off2 => ?_⟩⟩
          obtain ⟨b1, b2⟩ := pages_B ls1.pg app_ne ls1.wv
          have pg2 : H2 Pg = some (.lst (pagesV (os ++ [o]) ++ [V.str (S row)])) := (off2 Pg _ b1 b2 ls1.pg).trans (by
            unfold pagesV
            rw [List.map_append (l₁ := os ++ [o])]
            rfl)
          have hlen : (1 : Int) < (((pagesV (os ++ [o]) ++ [V.str (S row)]).length : Nat) : Int) := by
            unfold pagesV
            rw [List.length_append, List.length_map, List.length_append]
            show (1 : Int) < ((os.length + 1 + 1 : Nat) : Int)
            omega
          refine ⟨_, .none, rfl, .non, okN.sh, okN.de, okN.le, ?_⟩
          refine ⟨_, rfl, _, _, rfl, Or.inl ⟨_, SqL.of pg2, rfl⟩, _, _, rfl, rfl, _, rfl, ifT (decide_eq_true hlen) ?_⟩
          refine ⟨_, .none, rfl, .non, okN.sh, okN.de, okN.le, ?_⟩
          refine ⟨rfl, _, rfl, ifF (by rw [decide_eq_true rfl]; rfl) ?_⟩
          refine ⟨_, rfl, _, _, rfl, Or.inl ⟨_, SqL.of pg2, rfl⟩, _, _, rfl, rfl, _, rfl, ifT (decide_eq_true hlen) ?_⟩
          refine ⟨_, rfl, _, rfl, _, rfl, Pg, _, rfl, SqL.of pg2, fun P' hP' => ?_⟩
          rw [show (-1 : Int) = (-1 : Int) from rfl]
          have ec : cutV (pagesV (os ++ [o]) ++ [V.str (S row)]) none (some (-1)) = pagesV (os ++ [o]) := cut_last
          have ld2 := (ls1.drop wv2 off2 hP').mono (T' := T + 6500) (m' := m + 1) (by omega) (by omega)
          rw [← ec] at ld2
          exact q _ P' os o _ _ _ _ _ ld2
      · have ls1 := ls.off off1 dk1
        refine ⟨_, rfl, _, rfl, _, _, rfl, len_S (by omega), _, _, rfl, rfl, D, Cc, T + 1, row.length + 1, rfl, dk1, by omega, by omega, by omega, fun H2 a ha dk2 off2 => ?_⟩
        have ls2 := ls1.off off2 dk2
        refine ⟨_, rfl, _, _, rfl, len_S (by omega), _, rfl, _, rfl, D, Cc, _, 4, rfl, dk2, by omega, by decide, by decide, fun H3 d hd dk3 off3 => ⟨_, _, rfl, rfl, _, _, rfl, ?_⟩⟩
        have ls3 := ls2.off off3 dk3
        obtain ⟨b, eb, hab, hbl, hb3⟩ : ∃ b : Nat, (if ((a : Nat) : Int) + ((d : Nat) : Int) < ((row.length : Nat) : Int) then ((a : Nat) : Int) + ((d : Nat) : Int) else ((row.length : Nat) : Int)) = ((b : Nat) : Int) ∧ a ≤ b ∧ b ≤ row.length ∧ b ≤ a + 3 :=
          ⟨min (a + d) row.length, by split <;> omega, by omega, by omega, by omega⟩
        refine ⟨_, rfl, _, rfl, _, rfl, _, rfl, _, rfl, S row, rfl, lens row (by omega), ?_⟩
        rw [eb, slice_ab hab hbl]
        have hpl : ((row.drop a).take (b - a)).length ≤ 3 := by
          rw [List.length_take]
          omega
        have hpi : ∀ c ∈ (row.drop a).take (b - a), c ∈ sg := fun c hc => hri c ((List.drop_sublist a row).subset ((List.take_sublist _ _).subset hc))
        refine ⟨_, rfl, _, rfl, _, rfl, D, Cc, _, 3, sg, rfl, dk3, by omega, hs0, by omega, by decide, fun H4 l1 hl1 hl1' dk4 off4 => ?_⟩
        refine ⟨_, rfl, _, rfl, D, Cc, _, 3, sg, rfl, dk4, by omega, hs0, by omega, by decide, fun H5 l2 hl2 hl2' dk5 off5 => ?_⟩
        have ls5 := (ls3.off off4 dk4).off off5 dk5
        refine ⟨_, rfl, _, rfl, S ((row.drop a).take (b - a)), rfl, lens _ (by omega), sz_le (n := 5) (by decide), fun pm hpm _ => ?_⟩
        rw [rev_S]
        have t6 := same_new (o := HO.lst [V.str (S l1), V.str (S l2), V.str (S ((row.drop a).take (b - a))), V.str (S ((row.drop a).take (b - a)).reverse), V.str ""]) hpm
        have ls6 := ls5.same t6
        refine ⟨D, Cc, _, .ref pm, rfl, ls6.dk, by omega, Or.inr ⟨pm, _, rfl, upd_same, (new_ne' dk5 hpm).2, Nat.zero_lt_succ _, by show 5 ≤ 1000; decide, fun H7 v hv dk7 off7 => ?_⟩⟩
        have ls7 := ls6.off off7 dk7
        obtain ⟨f0, rfl, hfi, hfl⟩ : ∃ f0 : List Nat, v = .str (S f0) ∧ (∀ c ∈ f0, c ∈ sg) ∧ f0.length ≤ 3 := by
          simp only [List.mem_cons, List.not_mem_nil, or_false] at hv
          rcases hv with rfl | rfl | rfl | rfl | rfl
          · exact ⟨l1, rfl, hl1, hl1'⟩
          · exact ⟨l2, rfl, hl2, hl2'⟩
          · exact ⟨_, rfl, hpi, hpl⟩
          · exact ⟨_, rfl, fun c hc => hpi c (List.mem_reverse.mp hc), by rw [List.length_reverse]; exact hpl⟩
          · exact ⟨[], rfl, (fun c hc => by cases hc), Nat.zero_le _⟩
        refine ⟨_, _, _, _, _, _, _, _, _, _, _, _, sg, row, f0, a, b, rfl, hab, hbl, hb3, hrl, hfl, hfi, hri, hs0, by omega, fun a' b' f' e1 e2 e3 e4 e5 => ?_⟩
        refine ⟨_, rfl, _, rfl, _, rfl, _, rfl, _, rfl, _, rfl, wd, ld, sg, w, row, f', gs, a', b', rfl, ls7.wt, lc.gs_.z, by have := lc.wl; omega, by omega, by omega, e1, e2, fun H8 m8 s8 hm8 => ?_⟩
        have ls8 := ls7.same s8
        have he : ledM fs = ledM gs := led_eq lc.gs_.nd lc.perm
        have hol : olds.length ≤ 1000 := by have := ls8.ln; omega
        refine ⟨_, rfl, _, rfl, _, rfl, _, rfl, _, rfl, _, _, rfl, rfl, (show (2 : Int) ≠ 0 by decide), rfl, ?_⟩
        try dsimp only [tNil, tCons, tC]
        refine ⟨_, _, n, r, Bf, fa, ta, sg, fs, w, row, olds, _, _, _, rfl, ls8.wv, ls8.bk.1, lc.fs_, by have := lc.wl; omega, by omega, hol, Or.inl ⟨a', b', f', rfl, rfl, rfl, e1, e2, e3, by omega, by omega, (fun X hX => Ne.symm (ne_of_none ls8.pg hX)), fun H9 m9 hm9 wv9 off9 => ?_⟩⟩
        have em : m9 = m8 := hm9.uniq (many_eq he hm8)
        subst em
        have okm := many_ok hm9 (by omega)
        refine ⟨_, .int m9, rfl, .int _, okm.sh, okm.de, okm.le, ?_⟩
        refine ⟨_, rfl, _, .int m9, rfl, .int _, okm.sh, okm.de, okm.le, ?_⟩
        refine ⟨rfl, _, rfl, ifF (by rw [decide_eq_true rfl]; rfl) ?_⟩
        have hal' : a' ≤ row.length := by omega
        have nl : (row.take a' ++ f' ++ row.drop b').length = a' + f'.length + (row.length - b') := by
          rw [List.length_append, List.length_append, List.length_take, List.length_drop]
          omega
        obtain ⟨pg9, ls9⟩ := ls8.push wv9 off9 ⟨fun c hc => by
          rcases List.mem_append.mp hc with hc | hc
          · rcases List.mem_append.mp hc with hc | hc
            · exact hri c ((List.take_sublist _ _).subset hc)
            · exact e3 c hc
          · exact hri c ((List.drop_sublist _ _).subset hc), by rw [nl]; omega⟩
        refine ⟨_, rfl, Or.inl ⟨rfl, _, SqL.of pg9⟩, _, rfl, _, rfl, _, rfl, S row, rfl, lens row (by omega), ?_⟩
        rw [SX.slice_to (by omega : (0 : Int) ≤ ((a' : Nat) : Int)), Int.toNat_natCast]
        refine ⟨_, rfl, S (row.take a'), S f', rfl, rfl, ?_, ?_⟩
        · rw [SX.S_len, SX.S_len, List.length_take]
          exact sz_le (by omega)
        rw [SX.S_cat]
        refine ⟨_, rfl, _, rfl, _, rfl, S row, rfl, lens row (by omega), ?_⟩
        rw [SX.slice_from (by omega : (0 : Int) ≤ ((b' : Nat) : Int)), Int.toNat_natCast]
        refine ⟨S (row.take a' ++ f'), S (row.drop b'), rfl, rfl, ?_, ?_⟩
        · rw [SX.S_len, SX.S_len, List.length_append, List.length_take, List.length_drop]
          exact sz_le (by omega)
        rw [SX.S_cat]
        refine ⟨Pg, _, _, rfl, rfl, pg9, sz_lt (by unfold pagesV; rw [List.length_map, List.length_append]; show olds.length + 1 ≤ _; omega), q _ Pg (olds ++ [row]) _ _ _ _ _ _ (ls9.mono (by omega) (by omega))⟩
    have pgs : ∀ (os : List (List Nat)) (x : List Nat), pagesV (os ++ [x]) = pagesV os ++ [V.str (S x)] := fun os x => by
      unfold pagesV
      rw [List.map_append]
      rfl
    refine ⟨_, rfl, a, ns0, rfl, ha, hn0, fun H1 D Cc s1 dk1 => ?_⟩
    refine ⟨_, rfl, _, rfl, sz_le (n := 4) (by decide), fun p hp _ => ?_⟩
    have t3 := same_new (o := HO.lst [V.str "ab", V.str "ab", V.str "ax", V.str "abc"]) hp
    have dk3 := dk1.same t3
    refine ⟨D, Cc, _, .ref p, rfl, dk3, by omega, Or.inr ⟨p, _, rfl, upd_same, (new_ne' dk1 hp).2, Nat.zero_lt_succ _, by show 4 ≤ 1000; decide, fun H4 v0 hv0 dk4 off4 => ?_⟩⟩
    obtain ⟨sg, hm, rfl⟩ : ∃ sg ∈ menuW, v0 = .str (S sg) := by
      simp only [List.mem_cons, List.not_mem_nil, or_false] at hv0
      rcases hv0 with rfl | rfl | rfl | rfl
      · exact ⟨[97, 98], by decide, by decide +kernel⟩
      · exact ⟨[97, 98], by decide, by decide +kernel⟩
      · exact ⟨[97, 120], by decide, by decide +kernel⟩
      · exact ⟨[97, 98, 99], by decide, by decide +kernel⟩
    obtain ⟨hs, _, _⟩ := menu_ok sg hm
    have hs0 := hs.pos
    have hs1 := hs.few
    refine ⟨D, Cc, _, sg, rfl, hm, dk4, by omega, fun H5 wd ld gs hgs hw5 dk5 off5 => ?_⟩
    refine ⟨_, rfl, wd, ld, sg, gs, rfl, hw5, hgs, hs, fun H6 r fa ta fs xs hperm hfs hb6 hx6 hall6 s6 => ?_⟩
    have dk6 := dk5.same s6
    have hw6 := hw5.same s6
    have bk6 : BkWh K H6 C r sg fs fa ta := ⟨hb6, xs, hx6, hall6⟩
    refine ⟨_, rfl, D, Cc, _, 24, rfl, dk6, by omega, by decide, by decide, fun H7 way hway dk7 off7 => ?_⟩
    have hw7 := hw6.off off7 dk6
    have bk7 := bk6.off off7 dk6
    refine ⟨_, _, rfl, ?_⟩
    refine ⟨_, rfl, _, rfl, wd, _, rfl, DGet.k (k := .inr "signs") hw7.w, D, Cc, _, 4, sg, rfl, dk7, by omega, hs0, by omega, by decide, fun H8 l hl1 hl2 dk8 off8 => ?_⟩
    have hw8 := hw7.off off8 dk7
    have bk8 := bk7.off off8 dk7
    refine ⟨_, rfl, _, rfl, wd, _, rfl, DGet.k (k := .inr "signs") hw8.w, way, rfl, fun mo hmo => ?_⟩
    refine ⟨D, Cc, _, mo, sg, rfl, dk8, by omega, hs0, by omega, by omega, fun H9 row hr1 hr2 dk9 off9 => ⟨sz_le (n := 1) (by decide), fun Pg hPg _ => ?_⟩⟩
    have hw9 := hw8.off off9 dk8
    have bk9 := bk8.off off9 dk8
    have t10 := same_new (o := HO.lst [V.str (S row)]) hPg
    have zP : upd H9 Pg (.lst [V.str (S row)]) Pg = some (.lst (pagesV ([] ++ [row]))) := upd_same
    have dk10 := dk9.same t10
    have hw10 := hw9.same t10
    have bk10 := bk9.same t10
    generalize upd H9 Pg (.lst [V.str (S row)]) = H10 at zP dk10 hw10 bk10 ⊢
    have gl : WebGood sg (.str (S l)) l := ⟨rfl, hl1, by omega⟩
    have gr : WebGood sg (.str (S row)) row := ⟨rfl, hr1, by omega⟩
    refine ⟨_, rfl, _, rfl, _, rfl, Pg, _, 0, .str (S row), rfl, rfl, SqL.of zP, atI_nat (j := 0) rfl, _, rfl, _, _, rfl, rfl, (show (2 : Int) ≠ 0 by decide), rfl, ?_⟩
    try dsimp only [tNil, tCons, tC]
    refine ⟨_, fun L => L ≠ Pg, r, fa, ta, sg, fs, _, _, rfl, bk10.1, hfs, Or.inl ⟨l, row, gl, gr, (fun X hX => Ne.symm (ne_of_none zP hX)), fun H11 n Bf wv11 nN nB s11 => ?_⟩⟩
    have lc : LC sg l gs fs := ⟨hgs, hs, hm, hperm, hfs, hl1, hl2⟩
    have ls11 : LS K C CN D Cc wd ld r fa ta n Bf sg l gs fs _ 0 Pg [] row H11 := ⟨dk10.same s11, hw10.same s11, bk10.same s11, s11 _ _ zP, wv11, (new_ne' dk10 nB).2, Nat.le_refl 0, fun p hp => by
      rw [List.mem_singleton.mp hp]
      exact ⟨hr1, by omega⟩⟩
    refine ⟨_, rfl, wd, _, rfl, DGet.k (k := .inr "signs") ls11.wt.w, ?_⟩
    refine ⟨_, _, rfl, ?_⟩
    -- the odd one
    refine ⟨_, rfl, sz_le (n := 1) (by decide), fun pt hpt => ?_⟩
    have u1 := same_new (o := HO.tup [V.str "a"]) hpt
    have zt : SqT K (upd H11 pt (.tup [V.str "a"])) pt [V.str "a"] := Or.inl (Or.inl upd_same)
    generalize upd H11 pt (.tup [V.str "a"]) = G1 at u1 zt ⊢
    refine ⟨sz_le (n := 0) (by decide), fun pl hpl hnl => ?_⟩
    have npl := new_ne' (ls11.dk.same u1) hpl
    have u2 := same_new (o := HO.lst []) hpl
    have zl : upd G1 pl (.lst []) pl = some (.lst []) := upd_same
    have zt := Same.tup u2 zt
    have u02 := u1.trans u2
    generalize upd G1 pl (.lst []) = G2 at u02 zl zt ⊢
    refine fun pd hpd => ?_
    have npd := new_ne' (ls11.dk.same u02) hpd
    have u3 := same_new (o := HO.dK []) hpd
    have od : OddWe K (upd G2 pd (.dK [])) D Cc pt pl pd := ⟨Same.tup u3 zt, u3 _ _ zl, hnl, upd_same, npl, npd⟩
    have u03 := u02.trans u3
    generalize upd G2 pd (.dK []) = G3 at u03 od ⊢
    refine ⟨sz_le (n := 9) (by decide), fun ps hps _ => ?_⟩
    have nps := new_ne' (ls11.dk.same u03) hps
    have u4 := same_new (o := HO.lst (oddW pt pl pd)) hps
    have zps : upd G3 ps (.lst (oddW pt pl pd)) ps = some (.lst (oddW pt pl pd)) := upd_same
    have ls12 := (ls11.same u03).same u4
    refine ⟨D, Cc, _, .ref ps, rfl, ls12.dk, by omega, Or.inr ⟨ps, _, rfl, zps, nps.2, Nat.zero_lt_succ _, by show 9 ≤ 1000; decide, fun H12 v hv dk12 off12 => ?_⟩⟩
    have od12 : OddWe K H12 D Cc pt pl pd := by
      refine OddWe.off (H := upd G3 ps (.lst (oddW pt pl pd))) ⟨Same.tup u4 od.tt, u4 _ _ od.tl, od.nl, u4 _ _ od.td, od.ml, od.md⟩ off12 ls12.dk
    have ls13 := ls12.off off12 dk12
    obtain ⟨bad, d, dg, okd⟩ := odd_we od12 hm v hv
    clear ls12 ls11 od zps u4 u03 zl zt u02 u1 u2 u3 npl npd nps dk10 hw10 bk10 zP t10 hw9 bk9 hw8 bk8 hw7 bk7 hw6 bk6 hw5 dk3 t3
    -- what is said
    refine ⟨_, rfl, _, rfl, _, rfl, Pg, _, 0, .str (S row), rfl, rfl, SqL.of ls13.pg, atI_nat (j := 0) rfl, true, fun _ => True, r, fa, ta, sg, fs, v, _, rfl, ls13.bk.1, hfs, Or.inr (Or.inl ⟨bad, fun H14 m1 s14 hn1 hm1 => ?_⟩)⟩
    refine ⟨_, rfl, _, rfl, _, rfl, false, fun _ => True, r, fa, ta, sg, fs, v, v, rfl, (ls13.same s14).bk.1, hfs, Or.inr (Or.inl ⟨bad.same s14, fun H15 m2 s15 hn2 hm2 => ?_⟩)⟩
    have hm1 := s15 _ _ hm1
    have s35 := s14.trans s15
    refine ⟨sz_le (n := 2) (by decide), fun sd hsd hnsd => ?_⟩
    have sdn : H12 sd = none := s35.free hsd
    have t6 := same_new (o := HO.lst [V.ref m1, V.ref m2]) hsd
    have zsd : upd H15 sd (.lst [V.ref m1, V.ref m2]) sd = some (.lst [V.ref m1, V.ref m2]) := upd_same
    have hm1 := t6 _ _ hm1
    have hm2 := t6 _ _ hm2
    have s36 := s35.trans t6
    generalize upd H15 sd (.lst [V.ref m1, V.ref m2]) = H16 at zsd hm1 hm2 s36 ⊢
    refine ⟨_, rfl, Or.inl ⟨rfl, _, SqL.of zsd⟩, _, rfl, _, rfl, _, rfl, _, rfl, _, _, rfl, rfl, ?_⟩
    try dsimp only [tNil, tCons, tC]
    refine ⟨_, fun _ => True, r, fa, ta, sg, fs, .str (S l), v, rfl, (ls13.same s36).bk.1, hfs, Or.inr (Or.inr ⟨⟨l, gl⟩, bad.same s36, fun H17 m3 s17 hn3 hm3 => ?_⟩)⟩
    have zsd := s17 _ _ zsd
    have hm1 := s17 _ _ hm1
    have hm2 := s17 _ _ hm2
    have s37 := s36.trans s17
    have ml : ∀ {m : Addr} {k : Str}, H17 m = some (.lst [.str k, v, .bl true]) → m ≠ sd := fun {m k} e z => by
      subst z
      rw [zsd] at e
      cases e
    refine ⟨sd, _, _, rfl, rfl, zsd, sz_lt (by show 2 ≤ 1000000; decide), ?_⟩
    have y1 := (upd_ne (o := .lst ([V.ref m1, V.ref m2] ++ [V.ref m3])) (ml hm1)).trans hm1
    have y2 := (upd_ne (o := .lst ([V.ref m1, V.ref m2] ++ [V.ref m3])) (ml hm2)).trans hm2
    have y3 := (upd_ne (o := .lst ([V.ref m1, V.ref m2] ++ [V.ref m3])) (ml hm3)).trans hm3
    have ys : upd H17 sd (.lst ([V.ref m1, V.ref m2] ++ [V.ref m3])) sd = some (.lst [V.ref m1, V.ref m2, V.ref m3]) := upd_same
    have s38 : Same H12 (upd H17 sd (.lst ([V.ref m1, V.ref m2] ++ [V.ref m3]))) := push_same sdn s37
    generalize upd H17 sd (.lst ([V.ref m1, V.ref m2] ++ [V.ref m3])) = H18 at y1 y2 y3 ys s38 ⊢
    have row3 : ∀ {H : Hp} {m : Addr} {k : Str}, Same H12 H → m ≠ sysModules → H m = some (.lst [.str k, v, .bl true]) → Dg K H (.ref m) (.list [.str k, d, .bool true]) := fun {H m k} e1 e2 e3 => .lst e2 (SqL.of e3) (.cons (.str _) (.cons (dg.same e1) (.cons (.bl true) .nil)))
    refine ⟨_, rfl, _, saidD d, rfl, .lst hnsd (SqL.of ys) (.cons (row3 s38 hn1 y1) (.cons (row3 s38 hn2 y2) (.cons (row3 s38 hn3 y3) .nil))), okd.sh, okd.de, okd.le, ?_⟩
    refine ⟨_, rfl, sz_le (n := 3) (by decide), fun a1 ha1 hna1 => ?_⟩
    have w1 := same_new (o := HO.lst [V.str "web", v, V.bl true]) ha1
    have x1 : upd H18 a1 (.lst [V.str "web", v, V.bl true]) a1 = some (.lst [V.str "web", v, V.bl true]) := upd_same
    generalize upd H18 a1 (.lst [V.str "web", v, V.bl true]) = J1 at w1 x1 ⊢
    refine ⟨_, rfl, sz_le (n := 3) (by decide), fun a2 ha2 hna2 => ?_⟩
    have w2 := same_new (o := HO.lst [V.str "web", v, V.bl true]) ha2
    have x2 : upd J1 a2 (.lst [V.str "web", v, V.bl true]) a2 = some (.lst [V.str "web", v, V.bl true]) := upd_same
    have x1 := w2 _ _ x1
    have w2 := w1.trans w2
    generalize upd J1 a2 (.lst [V.str "web", v, V.bl true]) = J2 at w2 x1 x2 ⊢
    refine ⟨_, rfl, sz_le (n := 3) (by decide), fun a3 ha3 hna3 => ?_⟩
    have w3 := same_new (o := HO.lst [V.str "row", v, V.bl true]) ha3
    have x3 : upd J2 a3 (.lst [V.str "row", v, V.bl true]) a3 = some (.lst [V.str "row", v, V.bl true]) := upd_same
    have x1 := w3 _ _ x1
    have x2 := w3 _ _ x2
    have w3 := w2.trans w3
    generalize upd J2 a3 (.lst [V.str "row", v, V.bl true]) = J3 at w3 x1 x2 x3 ⊢
    refine ⟨sz_le (n := 3) (by decide), fun a4 ha4 hna4 => ?_⟩
    have w4 := same_new (o := HO.lst [V.ref a1, V.ref a2, V.ref a3]) ha4
    have x4 : upd J3 a4 (.lst [V.ref a1, V.ref a2, V.ref a3]) a4 = some (.lst [V.ref a1, V.ref a2, V.ref a3]) := upd_same
    have x1 := w4 _ _ x1
    have x2 := w4 _ _ x2
    have x3 := w4 _ _ x3
    have s3J := s38.trans (w3.trans w4)
    generalize upd J3 a4 (.lst [V.ref a1, V.ref a2, V.ref a3]) = J4 at x1 x2 x3 x4 s3J ⊢
    refine ⟨_, saidD d, rfl, .lst hna4 (SqL.of x4) (.cons (row3 s3J hna1 x1) (.cons (row3 s3J hna2 x2) (.cons (row3 s3J hna3 x3) .nil))), okd.sh, okd.de, okd.le, ?_⟩
    refine ⟨rfl, _, rfl, ifF (by rw [decide_eq_true rfl]; rfl) ?_⟩
    have lsJ := ls13.same s3J
    obtain ⟨dxn, Ln, usn, hnn, _⟩ := lsJ.wv.ex
    refine ⟨_, rfl, .ref n, .ty "list", _, _, false, rfl, .ty _, .base (.ins hnn R.cls I.ca I.sp I.tk I.mo), I.nl, false, rfl, ifF rfl ?_⟩
    clear x1 x2 x3 x4 y1 y2 y3 ys hm1 hm2 hm3 zsd hnn s3J w1 w2 w3 w4 s38 s37 s36 s35 s14 s15 s17 t6 dg okd bad od12 row3 ml
    -- the turns
    refine ⟨D, Cc, _, way, rfl, rfl, lsJ.dk, by omega, fun H19 NN hNN dk19 off19 => ?_⟩
    refine ⟨(NN : Nat), rfl, by omega, by omega, ?_⟩
    rw [Int.toNat_natCast]
    have ls19 := lsJ.off off19 dk19
    refine for_it (walk_rng (n := NN)) (fun i σ H' => ∃ (T : Nat) (P : Addr) (olds : List (List Nat)) (rw' : List Nat) (o11 o12 o13 o14 o15 o16 o17 : Option V), T ≤ 20000 + 7000 * i ∧ LS K C CN D Cc wd ld r fa ta n Bf sg l gs fs T i P olds rw' H' ∧
      σ = [some (.ref a), some (.ref D), some (.ref wd), some (.ref r), some (.int (way : Nat)), some (.str (S l)), some (.ref P), some (.ref n), some (.str (S sg)), some v, some (.ref sd), o11, o12, o13, o14, o15, o16, o17])
      ⟨_, Pg, [], row, _, _, _, _, _, _, _, by omega, ls19, rfl⟩ (fun _ _ _ _ _ => trivial) ?_ ?_
    · rintro i x σ G G' hi ⟨T, P, olds, rw', o11, o12, o13, o14, o15, o16, o17, hT, ls, rfl⟩ ⟨rfl, rfl⟩
      have hi60 : i < 60 := by omega
      have pg := ls.pg
      rw [pgs] at pg
      refine ⟨_, rfl, _, rfl, P, _, -1, _, rfl, rfl, SqL.of pg, atI_last _ _, ?_⟩
      refine ⟨a, D, Cc, wd, ld, r, fa, ta, n, Bf, P, sg, l, rw', gs, fs, T, i, way, i, olds, _, _, _, _, _, _, _, rfl, lc, ls, by omega, by omega, fun G2 P2 olds2 row2 p13 p14 p15 p16 p17 ls2 => ?_⟩
      have pg2 := ls2.pg
      rw [pgs] at pg2
      refine ⟨_, rfl, _, rfl, _, rfl, _, rfl, _, rfl, _, rfl, _, rfl, P2, _, -1, _, rfl, rfl, SqL.of pg2, atI_last _ _, ?_⟩
      refine ⟨_, D, Cc, _, wd, ld, r, fa, ta, n, Bf, sg, l, row2, gs, fs, olds2, rfl, ls2.dk, by omega, ls2.wt, hgs, hs, hperm, hfs, ls2.bk, ls2.wv, ls2.hB, hl1, ls2.rowOk.1, by omega, by have := ls2.rowOk.2; omega, fun G3 dk3 off3 => ⟨true, rfl, ifF rfl ?_⟩⟩
      exact ⟨_, P2, olds2, row2, _, _, _, _, _, _, _, by omega, ls2.off off3 dk3, rfl⟩
    · rintro σ G ⟨T, P, olds, rw', o11, o12, o13, o14, o15, o16, o17, hT, ls, rfl⟩
      have hrow := ls.rowOk
      have hln := ls.ln
      have pg := ls.pg
      rw [pgs] at pg
      refine ⟨_, rfl, _, rfl, _, rfl, _, rfl, P, _, -1, _, rfl, rfl, SqL.of pg, atI_last _ _, _, _, rfl, len_S (by omega), ?_⟩
      refine ⟨_, D, Cc, T, r, fa, ta, n, Bf, sg, l, rw', fs, olds, rfl, ls.dk, by omega, hm, hfs, ls.bk.1, ls.wv, ls.hB, by omega, by omega, by omega, fun G1 dk1 off1 => ⟨true, rfl, ifF rfl ?_⟩⟩
      have ls1 := ls.off off1 dk1
      have pg1 := ls1.pg
      rw [pgs] at pg1
      refine ⟨_, rfl, _, rfl, _, rfl, _, rfl, _, rfl, _, rfl, _, rfl, P, _, -1, _, rfl, rfl, SqL.of pg1, atI_last _ _, ?_⟩
      refine ⟨_, D, Cc, _, wd, ld, r, fa, ta, n, Bf, sg, l, rw', gs, fs, olds, rfl, ls1.dk, by omega, ls1.wt, hgs, hs, hperm, hfs, ls1.bk, ls1.wv, ls1.hB, hl1, hrow.1, by omega, by omega, fun G2 dk2 off2 => ⟨true, rfl, ifF rfl ?_⟩⟩
      have ls2 := ls1.off off2 dk2
      have pg2 := ls2.pg
      rw [pgs] at pg2
      refine ⟨_, rfl, _, rfl, _, rfl, P, _, rfl, SqL.of pg2, fun q1 hq1 => ?_⟩
      have ec : cutV (pagesV olds ++ [V.str (S rw')]) none (some (-1)) = pagesV olds := cut_last
      have t1 := same_new (o := HO.lst (cutV (pagesV olds ++ [V.str (S rw')]) none (some (-1)))) hq1
      have z1 : upd G2 q1 (.lst (cutV (pagesV olds ++ [V.str (S rw')]) none (some (-1)))) q1 = some (.lst (pagesV olds)) := upd_same.trans (by rw [ec])
      refine ⟨q1, pagesV olds, rfl, SqL.of z1, fun q2 hq2 => ?_⟩
      have t2 := same_new (o := HO.lst (pagesV olds).reverse) hq2
      have er : (pagesV olds).reverse = pagesV olds.reverse := by
        unfold pagesV
        rw [List.map_reverse]
      have z2 : upd (upd G2 q1 (.lst (cutV (pagesV olds ++ [V.str (S rw')]) none (some (-1))))) q2 (.lst (pagesV olds).reverse) q2 = some (.lst (pagesV olds.reverse)) := upd_same.trans (by rw [er])
      have ls3 := (ls2.same t1).same t2
      refine ⟨q2, rfl, ⟨_, SqL.of z2⟩, ?_⟩
      refine for_list (xs := pagesV olds.reverse) (fun i σ H' => DeckAt D Cc (T + 2 + 4) H' ∧ WAt H' wd ld sg gs ∧ BkWh K H' C r sg fs fa ta ∧ H' P = some (.lst (pagesV (olds ++ [rw']))) ∧ H' q2 = some (.lst (pagesV olds.reverse)) ∧
        ∃ (cur : List Nat) (os : List (List Nat)) (o12 : Option V), os ++ [cur] = (olds ++ [rw']).take (olds.length - i + 1) ∧ WvAt K H' CN (fun L => L ≠ P) n r Bf fs l cur os ∧
        σ = [some (.ref a), some (.ref D), some (.ref wd), some (.ref r), some (.int (way : Nat)), some (.str (S l)), some (.ref P), some (.ref n), some (.str (S sg)), some v, some (.ref sd), o11, o12, o13, o14, o15, o16, o17])
        ⟨ls3.dk, ls3.wt, ls3.bk, ls3.pg, z2, rw', olds, _, by rw [Nat.sub_zero, List.take_of_length_le (by rw [List.length_append]; exact Nat.le_refl _)], ls3.wv, rfl⟩ (fun i σ H' _ p => SqL.of p.2.2.2.2.1) ?_ ?_
      · rintro i x σ G4 hx ⟨dk4, wt4, bk4, pg4, zq4, cur, os, o12, eo, wv4, rfl⟩
        have hi : i < olds.length := by
          rcases Nat.lt_or_ge i olds.length with z | z
          · exact z
          · rw [List.getElem?_eq_none (by unfold pagesV; rw [List.length_map, List.length_reverse]; exact z)] at hx
            cases hx
        have hlen := congrArg List.length eo
        rw [List.length_append, List.length_take, List.length_append] at hlen
        have hos : os.length = olds.length - i := by
          have h1 : os.length + 1 = min (olds.length - i + 1) (olds.length + 1) := hlen
          omega
        obtain ⟨os', o, rfl⟩ : ∃ a b, os = a ++ [b] := by
          rcases List.eq_nil_or_concat os with rfl | ⟨a, b, rfl⟩
          · have h0 : 0 = olds.length - i := hos
            omega
          · exact ⟨a, b, List.concat_eq_append⟩
        rw [List.length_append] at hos
        have hos' : os'.length = olds.length - 1 - i := by
          have h1 : os'.length + 1 = olds.length - i := hos
          omega
        have hne : olds.reverse ≠ [] := fun z => by
          have := congrArg List.length z
          rw [List.length_reverse] at this
          have h0 : olds.length = 0 := this
          omega
        have exo : x = .str (S o) := by
          have g1 : (os' ++ [o] ++ [cur])[os'.length]? = some o := by
            rw [List.append_assoc, List.getElem?_append_right (Nat.le_refl _), Nat.sub_self]
            rfl
          rw [eo, List.getElem?_take, if_pos (by omega), List.getElem?_append_left (by omega), hos'] at g1
          unfold pagesV at hx
          rw [List.getElem?_map, List.getElem?_reverse hi, g1] at hx
          exact (Option.some.inj hx).symm
        subst exo
        refine ⟨_, rfl, _, n, r, Bf, fs, l, cur, os' ++ [o], rfl, wv4, Or.inr ⟨os', o, rfl, fun G5 wv5 off5 => ?_⟩⟩
        obtain ⟨dx, L, us, h1, _⟩ := id wv5.ex
        refine ⟨rfl, _, rfl, ifF (by rw [decide_eq_true rfl]; rfl) ?_⟩
        refine ⟨_, rfl, n, dx, _, rfl, h1, _, n, r, Bf, fs, l, o, os', rfl, wv5, _, rfl, rfl, _, rfl, ifF (by rw [decide_eq_true rfl]; rfl) ?_⟩
        obtain ⟨b1, b2⟩ := pages_B pg4 app_ne wv4
        obtain ⟨b3, b4⟩ := pages_B zq4 hne wv4
        refine ⟨dk4.note wv4 off5 ls3.hB, wt4.note wv4 off5, bk4.note wv4 off5, off5 P _ b1 b2 pg4, off5 q2 _ b3 b4 zq4, o, os', _, ?_, wv5, rfl⟩
        have e2 : os' ++ [o] = (os' ++ [o] ++ [cur]).take (olds.length - i) := by
          rw [List.take_left' (by rw [List.length_append]; exact hos)]
        rw [e2, eo, List.take_take]
        congr 1
        omega
      · rintro σ G4 ⟨dk4, wt4, bk4, pg4, zq4, cur, os, o12, eo, wv4, rfl⟩
        have elen : (pagesV olds.reverse).length = olds.length := by
          unfold pagesV
          rw [List.length_map, List.length_reverse]
        rw [elen, Nat.sub_self] at eo
        have hos : os = [] := by
          have hlen := congrArg List.length eo
          rw [List.length_append, List.length_take, List.length_append] at hlen
          have h1 : os.length + 1 = min (0 + 1) (olds.length + 1) := hlen
          exact List.eq_nil_of_length_eq_zero (by omega)
        subst hos
        have g0 : (olds ++ [rw'])[0]? = some cur := by
          have g1 : ([] ++ [cur] : List (List Nat))[0]? = some cur := rfl
          rw [eo, List.getElem?_take, if_pos (by omega)] at g1
          exact g1
        have gP : (pagesV (olds ++ [rw']))[0]? = some (.str (S cur)) := by
          unfold pagesV
          rw [List.getElem?_map, g0]
          rfl
        obtain ⟨c1, c2⟩ := ls.ok cur (List.mem_of_getElem? g0)
        refine ⟨_, rfl, _, n, r, Bf, fs, l, cur, [], rfl, wv4, Or.inl ⟨rfl, ?_⟩⟩
        refine ⟨true, true, rfl, rfl, _, rfl, ifT (decide_eq_true rfl) ?_⟩
        refine ⟨_, rfl, _, rfl, _, rfl, _, rfl, _, rfl, _, rfl, P, _, 0, _, rfl, rfl, SqL.of pg4, atI_nat (j := 0) gP, ?_⟩
        exact ⟨_, D, Cc, _, wd, ld, r, fa, ta, n, Bf, sg, l, cur, gs, fs, [], rfl, dk4, by omega, wt4, hgs, hs, hperm, hfs, bk4, wv4, ls3.hB, hl1, c1, by omega, by omega, fun G5 _ _ => q G5⟩
end
end Lw

namespace Mq
open PySem PySem.Spec PyProof.Rows L2
/-! ### error classes over a class of one's own, told by their objects -/
def ClsAt (K : PySem.W.Frag) (CM C : Addr) : Prop := ∃ nm q N bs sn sub ab col dd m0 m1 m2 m3 m5, K.lookup C = some (excClassObj nm q C N bs [.ref CM, .type "Exception", .type "BaseException", .type "object"] true sn sub ab col dd m0 m1 m2 m3 m5 "Exception.__new__")
section
variable {K : PySem.W.Frag} {CM C : Addr}
theorem ClsAt.isC (h : ClsAt K CM C) : (PySem.W.clsIn K C).isSome = true := by
  obtain ⟨_, _, _, _, _, _, _, _, _, _, _, _, _, _, h⟩ := h
  simp [PySem.W.clsIn, h, excClassObj]
theorem ClsAt.ty (h : ClsAt K CM C) : PySem.W.typeIn K (.ref C) = some (.type "type") := by
  obtain ⟨_, _, _, _, _, _, _, _, _, _, _, _, _, _, h⟩ := h
  simp [PySem.W.typeIn, h, excClassObj]
theorem ClsAt.has (h : ClsAt K CM C) : PySem.W.hasDictIn K C = true := by
  obtain ⟨_, _, _, _, _, _, _, _, _, _, _, _, _, _, h⟩ := h
  simp [PySem.W.hasDictIn, PySem.W.clsIn, h, excClassObj]
theorem ClsAt.mro (h : ClsAt K CM C) (b : Value) : PySem.W.mroIn K C b = some ((Value.ref C :: Value.ref CM :: exTail).contains b) := by
  obtain ⟨_, _, _, _, _, _, _, _, _, _, _, _, _, _, h⟩ := h
  simp [PySem.W.mroIn, PySem.W.clsIn, h, excClassObj, exTail]
theorem ClsAt.init (h : ClsAt K CM C) : PySem.W.excInitIn K C exTail "Exception.__new__" = true := by
  obtain ⟨_, _, _, _, _, _, _, _, _, _, _, _, _, _, h⟩ := h
  unfold PySem.W.excInitIn
  rw [h]
  simp [excClassObj, PySem.W.excTail, exTail]
theorem ClsAt.over (h : ClsAt K CM C) : PySem.W.excOver K C exTail = true := by
  obtain ⟨_, _, _, _, _, _, _, _, _, _, _, _, _, _, h⟩ := h
  unfold PySem.W.excOver PySem.W.clsIn
  rw [h]
  simp [excClassObj, PySem.W.excTail, exTail]
theorem ClsAt.keep (h : ClsAt K CM C) : PySem.W.keepIn K (.ref C) = true := by
  have ht := h.ty
  obtain ⟨_, _, _, _, _, _, _, _, _, _, _, _, _, _, h⟩ := h
  unfold PySem.W.keepIn
  dsimp only
  rw [h]
  dsimp only
  unfold PySem.W.specialIn
  rw [ht]
  show (fastLookup "type" "__call__" == some (some (Value.builtin "type.__call__"))) = true
  decide +kernel
theorem ClsAt.sub (h : ClsAt K CM C) (b : Value) : PySem.W.subIn K (.ref C) b = some ((Value.ref C :: Value.ref CM :: exTail).contains b) := h.mro b
theorem ref_eq (a b : Addr) : (Value.ref a == Value.ref b) = decide (a = b) := by
  by_cases h : a = b
  · subst h; simp
  · simp [h]
theorem ClsAt.kit {D : Addr} (h : ClsAt K CM C) (hD : ClsAt K CM D) (ne : D ≠ CM) : PySem.W.kitOne K (.ref C) (.ref D) = some (decide (C = D)) := by
  unfold PySem.W.kitOne
  by_cases e : C = D
  · subst e; simp
  · simp [e, PySem.W.kitCls, hD.isC, hD.ty, h.sub, exTail, Ne.symm e, ne]
theorem ClsAt.mill (h : ClsAt K CM C) (h1 : PySem.W.isClsIn K CM = true) (h2 : PySem.W.typeIn K (.ref CM) = some (.type "type")) : PySem.W.kitOne K (.ref C) (.ref CM) = some true := by
  have h1 : (PySem.W.clsIn K CM).isSome = true := h1
  unfold PySem.W.kitOne
  by_cases e : C = CM
  · subst e; simp
  · simp [e, PySem.W.kitCls, h1, h2, h.sub, exTail]
theorem ClsAt.typ (h : ClsAt K CM C) {n : String} (hm : PySem.W.kitMeta n = true) : PySem.W.kitOne K (.ref C) (.type n) = some (exTail.contains (.type n)) := by
  unfold PySem.W.kitOne
  simp [PySem.W.kitCls, hm, h.sub]
/-- what the written part says of such a class -/
structure ClsF (K : PySem.W.Frag) (CM C : Addr) : Prop where
  at_ : ClsAt K CM C
  ga : PySem.W.findIn K (.ref C) "__getattribute__" = some (some (.builtin "BaseException.__getattribute__"))
  gg : PySem.W.findIn K (.ref C) "__getattr__" = some none
  ca : PySem.W.findIn K (.ref C) "__class__" = some (some (.builtin "object.__class__"))
theorem ClsF.base (h : ClsF K CM C) : PySem.W.subIn K (.ref C) (.type "BaseException") = some true := by
  rw [h.at_.sub]
  simp [exTail]
theorem ClsF.xf (h : ClsF K CM C) : XfC K C := ⟨h.ga, h.gg, h.base, h.at_.has⟩
theorem ClsF.held (h : ClsF K CM C) (sp : PySem.W.specialIn K (.builtin "object.__class__") "__get__" = some (some (.builtin "getset_descriptor.__get__"))) (tk : PySem.W.takesIn K (.builtin "object.__class__") = some true) : HeldC K C :=
  ⟨h.at_.isC, h.ga, h.gg, h.base, h.ca, sp, tk, by rw [h.at_.mro]; simp [exTail]⟩
theorem exm_own (h : ClsF K CM C) : PySem.W.exmOne K (.ref C) (.ref C) = some true := by
  simp [PySem.W.exmOne, PySem.W.kitCls, h.at_.isC, h.at_.ty, h.at_.sub, exTail]
end
/-! ### the head's facts by a Hook of our own -/
def exB (fs : List (PySem.W.Frag → Bool)) (K : PySem.W.Frag) : Bool := fs.all fun f => f K
def obsM (n : Nat) (fn : List He.FnD) (fs : List (PySem.W.Frag → Bool)) (g : Addr → Option Obj) : He.Al × Bool :=
  (He.obsG n [] fn g, exB fs (He.frG g (He.asG g n)))
def hookM (n : Nat) (fn : List He.FnD) (fs : List (PySem.W.Frag → Bool)) : PySem.W.Hook where
  α := He.Al × Bool
  obs := fun s => obsM n fn fs s.heap.get?
  val := fun _ => (He.valE fn, true)
  says := fun _ h => ∃ K : PySem.W.Frag, K.In h ∧ He.SaysE [] fn K ∧ exB fs K = true
  of := fun w s e => ⟨He.frG s.heap.get? (He.asG s.heap.get? n), He.frG_in, congrArg Prod.fst e, congrArg Prod.snd e⟩
  keeps := fun w h h' ⟨K, a, b, c⟩ k => ⟨K, a.keeps k, b, c⟩
abbrev AlT := He.Al × Bool
theorem obsM_eq {n : Nat} {fn : List He.FnD} {fs : List (PySem.W.Frag → Bool)} {g : Addr → Option Obj} {s : Shared} (h : ∀ a, g a = s.heap.get? a) : obsM n fn fs g = (hookM n fn fs).obs s := by
  have e : g = s.heap.get? := funext h
  rw [e]
  rfl
theorem exAt {fs : List (PySem.W.Frag → Bool)} {K : PySem.W.Frag} (h : exB fs K = true) (i : Nat) {f : PySem.W.Frag → Bool} (e : fs[i]? = some f) : f K = true := List.all_eq_true.mp h f (List.mem_of_getElem? e)
def fFind (x n : Str) (v : Option Value) : PySem.W.Frag → Bool := fun K => He.eqO (PySem.W.findIn K (.ref (He.ga K x)) n) (some v)
def fInit (x : Str) : PySem.W.Frag → Bool := fun K => He.eqO (PySem.W.findIn K (.ref (He.ga K x)) "__init__") (some (some (.ref (He.ma K (He.ga K x) "__init__"))))
def fGlo (x : Str) : PySem.W.Frag → Bool := fun K => He.eqO (PySem.W.nsIn K mainGlobals x) (some (some (.ref (He.ga K x))))
def fFree (x : Str) : PySem.W.Frag → Bool := fun K => He.eqO (PySem.W.nsIn K mainGlobals x) (some none)
def fExc (x : Str) : PySem.W.Frag → Bool := fun K => PySem.W.excIn K (He.ga K x) exTail "Exception.__new__"
def clsB (K : PySem.W.Frag) (CM C : Addr) : Bool :=
  match K.lookup C with
  | some ⟨.type T, _, .cls cd, sl⟩ => decide (T = "type") && cd.hasDict && !cd.hasDel &&
      (match cd.mro with
       | [.ref a, .ref b, .type t1, .type t2, .type t3] => decide (a = C) && decide (b = CM) && decide (t1 = "Exception") && decide (t2 = "BaseException") && decide (t3 = "object")
       | _ => false) &&
      (match sl.toList with
       | [_, _, _, _, some (.builtin n), _] => decide (n = "Exception.__new__")
       | _ => false)
  | _ => false
def fCls (x : Str) : PySem.W.Frag → Bool := fun K => clsB K (He.ga K "MillError") (He.ga K x)
def fnB (K : PySem.W.Frag) (f : Addr) : Bool :=
  match K.lookup f with
  | some ⟨.type T, _, .func fd, _⟩ => decide (T = "function") && (match fd.kwdefaults with | .none => true | _ => false)
  | _ => false
def fFn (x : Str) : PySem.W.Frag → Bool := fun K => fnB K (He.ma K (He.ga K x) "__init__")
theorem clsB_ok {K : PySem.W.Frag} {CM C : Addr} (h : clsB K CM C = true) : ClsAt K CM C := by
  unfold clsB at h
  split at h
  · rename_i T dd cd sl hl
    obtain ⟨nm, bs, mro, N, qn, hd, sn, sub, ab, col, hdel⟩ := cd
    simp only [Bool.and_eq_true] at h
    obtain ⟨⟨⟨⟨h1, h2⟩, h3⟩, h4⟩, h5⟩ := h
    split at h4
    · simp only [Bool.and_eq_true, decide_eq_true_eq] at h4
      obtain ⟨⟨⟨⟨a1, a2⟩, a3⟩, a4⟩, a5⟩ := h4
      split at h5
      · rename_i m0 m1 m2 m3 n m5 hs
        have hs' := congrArg List.toArray hs
        rw [Array.toArray_toList] at hs'
        have e1 := of_decide_eq_true h1
        have e5 := of_decide_eq_true h5
        simp only [Bool.not_eq_true'] at h3
        subst e1 a1 a2 a3 a4 a5 e5 hs' h3
        have h2' : hd = true := h2
        subst h2'
        exact ⟨_, _, _, _, _, _, _, _, _, _, _, _, _, _, hl⟩
      · cases h5
    · cases h4
  · cases h
theorem fnB_ok {K : PySem.W.Frag} {f : Addr} {oc kV dV doc pm cd ct : Value} {od an : Option Addr} {osl : Array (Option Value)} {nm q : Str} {a : Arguments} {b : List Stmt} {s : Scope}
    (h : fnB K f = true) (l : K.lookup f = some ⟨oc, od, .func (PySem.W.fnOf nm q a b s dV kV doc pm an cd ct), osl⟩) : oc = .type "function" ∧ kV = .none := by
  unfold fnB at h
  rw [l] at h
  split at h
  · rename_i hh
    cases hh
    simp only [Bool.and_eq_true] at h
    obtain ⟨h1, h2⟩ := h
    refine ⟨by rw [of_decide_eq_true h1], ?_⟩
    split at h2
    · rfl
    · cases h2
  · cases h
theorem keep_fn {K : PySem.W.Frag} {f : Addr} {oc : Value} {od : Option Addr} {g : FuncData} {osl : Array (Option Value)} (l : K.lookup f = some ⟨oc, od, .func g, osl⟩) : PySem.W.keepIn K (.ref f) = true := by
  unfold PySem.W.keepIn
  dsimp only
  rw [l]
theorem walk_ofGE {l : PySem.W.OpenLaw} {n k : Nat} {q : Program} {loose : List Str}
    {XP : (Str → Option Value) → Heap → Prop} {YP : World → Heap → Prop} {d : DefRec} {CX : CXT} {x : Str}
    (hn : l.most = some n) (hn2 : n ≤ sizeLine) (hdf : d.params.defaults = []) (hr : Room k callerA)
    (F : ∀ (w : World) (mg : Str → Option Value) (fa : Addr) (h : Heap), YP w h → h.Ns mainGlobals mg → mg d.name = some (.ref fa) →
      ∃ (K : PySem.W.Frag) (fd : FuncData) (sp : Sp), K.In h ∧ (∀ (s : Shared) (u : Value), BindsTo s fd ⟨[u], []⟩ [(x, u)]) ∧
        (∀ (H : Hp) (a : Addr) (ns : List Int), ns.length ≤ n → Only H → SqL K H a (ns.map V.int) → sp [.ref a] H (fun v _ => v = .bl true) fun _ _ _ => False) ∧
        ∀ base : Heap, K.In base → base.Ns mainGlobals mg → FnG l.prog w K mg base CX k fa fd [x] sp)
    (hCX : ∀ (H : Hp) (s : Shared) (e : Value) (s' : Shared), CX [] H s (fun _ _ _ => False) e s' → False) :
    PySem.W.WalkO q loose XP YP l.row.toRowW d [] (fun f vs => PySem.call f vs) := by
  refine Att.attach_call hn hdf ?_
  intro w s₀ s₁ mg mb fa o pm cd doc a vs ns G Y ho hd hcd hmg hobj hints hlen hg
  obtain ⟨K, fd, sp, KX, hb, hsp, hF⟩ := F w mg fa _ Y G.T.g hmg
  exact law_callG KX G.T.g G.T.b G.T.builtins G.T.nolimit hg hobj hints (Nat.le_trans hlen hn2) hr hF hb
    (fun H hO hS => hsp H a ns hlen hO hS) (fun H e s' => hCX H s₁ e s')
theorem glo_of {K : PySem.W.Frag} {x : Str} (h : fGlo x K = true) : PySem.W.nsIn K mainGlobals x = some (some (.ref (He.ga K x))) := He.eqO_ok h
theorem free_of {K : PySem.W.Frag} {x : Str} (h : fFree x K = true) : PySem.W.nsIn K mainGlobals x = some none := He.eqO_ok h
theorem find_of {K : PySem.W.Frag} {x n : Str} {v : Option Value} (h : fFind x n v K = true) : PySem.W.findIn K (.ref (He.ga K x)) n = some v := He.eqO_ok h
theorem init_of {K : PySem.W.Frag} {x : Str} (h : fInit x K = true) : PySem.W.findIn K (.ref (He.ga K x)) "__init__" = some (some (.ref (He.ma K (He.ga K x) "__init__"))) := He.eqO_ok h
theorem cls_of {K : PySem.W.Frag} {x : Str} (h : fCls x K = true) : ClsAt K (He.ga K "MillError") (He.ga K x) := clsB_ok h
theorem exc_of {K : PySem.W.Frag} {x : Str} (h : fExc x K = true) : PySem.W.excIn K (He.ga K x) exTail "Exception.__new__" = true := h
/-! ### further facts -/
def fMeth (x n : Str) : PySem.W.Frag → Bool := fun K => He.eqO (PySem.W.findIn K (.ref (He.ga K x)) n) (some (some (.ref (He.ma K (He.ga K x) n)))) && PySem.W.isFn K (.ref (He.ma K (He.ga K x) n))
theorem meth_of {K : PySem.W.Frag} {x n : Str} (h : fMeth x n K = true) : PySem.W.findIn K (.ref (He.ga K x)) n = some (some (.ref (He.ma K (He.ga K x) n))) ∧ PySem.W.isFn K (.ref (He.ma K (He.ga K x) n)) = true := by
  obtain ⟨a, b⟩ := Bool.and_eq_true_iff.mp h
  exact ⟨He.eqO_ok a, b⟩
/-- a class of one's own, its objects made and read plainly -/
def fOwn (x : Str) : PySem.W.Frag → Bool := fun K => PySem.W.plainGet K (He.ga K x) Str.empty && (PySem.W.hasDictIn K (He.ga K x) && (PySem.W.plainOver K (He.ga K x) && (PySem.W.makesIn K (He.ga K x) && PySem.W.keepIn K (.ref (He.ga K x)))))
theorem own_of {K : PySem.W.Frag} {x : Str} (h : fOwn x K = true) : PySem.W.plainGet K (He.ga K x) Str.empty = true ∧ PySem.W.hasDictIn K (He.ga K x) = true ∧ PySem.W.plainOver K (He.ga K x) = true ∧ PySem.W.makesIn K (He.ga K x) = true ∧ PySem.W.keepIn K (.ref (He.ga K x)) = true := by
  obtain ⟨a, h⟩ := Bool.and_eq_true_iff.mp h
  obtain ⟨b, h⟩ := Bool.and_eq_true_iff.mp h
  obtain ⟨c, h⟩ := Bool.and_eq_true_iff.mp h
  obtain ⟨d, e⟩ := Bool.and_eq_true_iff.mp h
  exact ⟨a, b, c, d, e⟩
def fTxt (x v : Str) : PySem.W.Frag → Bool := fun K => match PySem.W.nsIn K mainGlobals x with
  | some (some (.str y _)) => decide (y = v)
  | _ => false
theorem txt_of {K : PySem.W.Frag} {x v : Str} (h : fTxt x v K = true) : ∃ t, PySem.W.nsIn K mainGlobals x = some (some (.str v t)) := by
  unfold fTxt at h
  split at h
  · rename_i y t e
    have := of_decide_eq_true h
    subst this
    exact ⟨t, e⟩
  · cases h
def fExm (x y : Str) (b : Bool) : PySem.W.Frag → Bool := fun K => decide (PySem.W.exmOne K (.ref (He.ga K x)) (.ref (He.ga K y)) = some b)
theorem exm_of {K : PySem.W.Frag} {x y : Str} {b : Bool} (h : fExm x y b K = true) : PySem.W.exmOne K (.ref (He.ga K x)) (.ref (He.ga K y)) = some b := of_decide_eq_true h
def fKit (x y : Str) (b : Bool) : PySem.W.Frag → Bool := fun K => decide (PySem.W.kitOne K (.ref (He.ga K x)) (.ref (He.ga K y)) = some b)
theorem kit_of {K : PySem.W.Frag} {x y : Str} {b : Bool} (h : fKit x y b K = true) : PySem.W.kitOne K (.ref (He.ga K x)) (.ref (He.ga K y)) = some b := of_decide_eq_true h
def fMro (x : Str) : PySem.W.Frag → Bool := fun K => decide (PySem.W.mroIn K (He.ga K x) (.type "object") = some true)
theorem mro_of {K : PySem.W.Frag} {x : Str} (h : fMro x K = true) : PySem.W.mroIn K (He.ga K x) (.type "object") = some true := of_decide_eq_true h
def fSp : PySem.W.Frag → Bool := fun K => He.eqO (PySem.W.specialIn K (.builtin "object.__class__") "__get__") (some (some (.builtin "getset_descriptor.__get__")))
theorem sp_of {K : PySem.W.Frag} (h : fSp K = true) : PySem.W.specialIn K (.builtin "object.__class__") "__get__" = some (some (.builtin "getset_descriptor.__get__")) := He.eqO_ok h
def fTk : PySem.W.Frag → Bool := fun K => decide (PySem.W.takesIn K (.builtin "object.__class__") = some true)
theorem tk_of {K : PySem.W.Frag} (h : fTk K = true) : PySem.W.takesIn K (.builtin "object.__class__") = some true := of_decide_eq_true h
def fMill : PySem.W.Frag → Bool := fun K => PySem.W.isClsIn K (He.ga K "MillError") && decide (PySem.W.typeIn K (.ref (He.ga K "MillError")) = some (.type "type"))
theorem mill_of {K : PySem.W.Frag} (h : fMill K = true) : PySem.W.isClsIn K (He.ga K "MillError") = true ∧ PySem.W.typeIn K (.ref (He.ga K "MillError")) = some (.type "type") := by
  obtain ⟨a, b⟩ := Bool.and_eq_true_iff.mp h
  exact ⟨a, of_decide_eq_true b⟩
end Mq

namespace Mq
open PySem PySem.Spec PyProof.Rows L2
/-! ### properties among the head's facts; whole numbers and kinds at the top -/
/-- where the getter of the property m of the class x stands -/
def pgA (K : PySem.W.Frag) (x m : Str) : Addr :=
  match PySem.W.recIn K (He.ma K (He.ga K x) m) "property" with
  | some (.ref g :: _) => g
  | _ => 0
def fnRd (K : PySem.W.Frag) (f : Addr) : He.FnV :=
  match K.lookup f with
  | some ⟨_, _, .func fd, _⟩ => some (fd.name, fd.qualname, fd.params, fd.body, fd.scope, fd.globals, fd.closure, fd.defaults, fd.builtins)
  | _ => none
def prObs (K : PySem.W.Frag) (p : Str × Option Str) : He.FnV :=
  match p.2 with
  | some m => fnRd K (pgA K p.1 m)
  | none => none
theorem fnRd_ok {K : PySem.W.Frag} {f : Addr} {nm q : Str} {a : Arguments} {b : List Stmt} {s : Scope} (h : fnRd K f = some (nm, q, a, FuncBody.stmts b, s, mainGlobals, [], Value.none, builtinsNs)) :
    ∃ (oc : Value) (od : Option Addr) (osl : Array (Option Value)) (kV doc pm : Value) (an : Option Addr) (cdv ct : Value), K.lookup f = some ⟨oc, od, .func (PySem.W.fnOf nm q a b s .none kV doc pm an cdv ct), osl⟩ := by
  unfold fnRd at h
  split at h
  · rename_i oc od fd osl e
    obtain ⟨n1, n2, n3, n4, n5, n6, n7, n8, n9, n10, n11, n12, n13, n14, n15⟩ := fd
    simp only [Option.some.injEq, Prod.mk.injEq] at h
    obtain ⟨rfl, rfl, rfl, rfl, rfl, rfl, rfl, rfl, rfl⟩ := h
    exact ⟨oc, od, osl, _, _, _, _, _, _, e⟩
  · cases h
theorem prop_def {K : PySem.W.Frag} {pr : List He.FnD} (h : pr.map (fun d => prObs K d.at_) = pr.map He.FnD.val) (i : Nat) {x m nm q : Str} {a : Arguments} {b : List Stmt} {s : Scope} (e : pr[i]? = some ⟨(x, some m), nm, q, a, b, s⟩) :
    ∃ (oc : Value) (od : Option Addr) (osl : Array (Option Value)) (kV doc pm : Value) (an : Option Addr) (cdv ct : Value), K.lookup (pgA K x m) = some ⟨oc, od, .func (PySem.W.fnOf nm q a b s .none kV doc pm an cdv ct), osl⟩ := by
  have h1 := congrArg (fun l => l[i]?) h
  simp only [List.getElem?_map, e, Option.map_some, Option.some.injEq] at h1
  exact fnRd_ok h1
def recB (K : PySem.W.Frag) (p : Addr) : Bool :=
  match PySem.W.recIn K p "property" with
  | some (.ref _ :: _) => true
  | _ => false
def fProp (x m : Str) : PySem.W.Frag → Bool := fun K => He.eqO (PySem.W.findIn K (.ref (He.ga K x)) m) (some (some (.ref (He.ma K (He.ga K x) m)))) &&
  (He.eqO (PySem.W.specialIn K (.ref (He.ma K (He.ga K x) m)) "__get__") (some (some (.builtin "property.__get__"))) && (decide (PySem.W.takesIn K (.ref (He.ma K (He.ga K x) m)) = some true) && recB K (He.ma K (He.ga K x) m)))
theorem prop_of {K : PySem.W.Frag} {x m : Str} (h : fProp x m K = true) : PropOf K (He.ga K x) m (He.ma K (He.ga K x) m) (pgA K x m) := by
  obtain ⟨a, h⟩ := Bool.and_eq_true_iff.mp h
  obtain ⟨b, h⟩ := Bool.and_eq_true_iff.mp h
  obtain ⟨c, d⟩ := Bool.and_eq_true_iff.mp h
  refine ⟨He.eqO_ok a, He.eqO_ok b, of_decide_eq_true c, ?_⟩
  unfold recB at d
  unfold pgA
  split at d
  · rename_i g rest e
    rw [e]
    exact ⟨rest, rfl⟩
  · cases d
def fPrc (x m q : Str) : PySem.W.Frag → Bool := fun K =>
  match K.lookup (pgA K x m) with
  | some ⟨_, _, .func fd, _⟩ => PySem.W.codeIn K fd.code q
  | _ => false
theorem prc_of {K : PySem.W.Frag} {x m q : Str} {oc : Value} {od : Option Addr} {fd : FuncData} {osl : Array (Option Value)} (h : fPrc x m q K = true) (e : K.lookup (pgA K x m) = some ⟨oc, od, .func fd, osl⟩) : PySem.W.codeIn K fd.code q = true := by
  unfold fPrc at h
  rw [e] at h
  exact h
def fInt (x : Str) (v : Int) : PySem.W.Frag → Bool := fun K => match PySem.W.nsIn K mainGlobals x with
  | some (some (.int y _)) => decide (y = v)
  | _ => false
theorem int_of {K : PySem.W.Frag} {x : Str} {v : Int} (h : fInt x v K = true) : ∃ t, PySem.W.nsIn K mainGlobals x = some (some (.int v t)) := by
  unfold fInt at h
  split at h
  · rename_i y t e
    have := of_decide_eq_true h
    subst this
    exact ⟨t, e⟩
  · cases h
def fKitT (x : Str) (T : String) (b : Bool) : PySem.W.Frag → Bool := fun K => decide (PySem.W.kitOne K (.ref (He.ga K x)) (.type T) = some b)
theorem kitT_of {K : PySem.W.Frag} {x : Str} {T : String} {b : Bool} (h : fKitT x T b K = true) : PySem.W.kitOne K (.ref (He.ga K x)) (.type T) = some b := of_decide_eq_true h
abbrev AlP := (He.Al × Bool) × List He.FnV
def obsP (n : Nat) (fn pr : List He.FnD) (fs : List (PySem.W.Frag → Bool)) (g : Addr → Option Obj) : AlP :=
  (obsM n fn fs g, pr.map fun d => prObs (He.frG g (He.asG g n)) d.at_)
def hookP (n : Nat) (fn pr : List He.FnD) (fs : List (PySem.W.Frag → Bool)) : PySem.W.Hook where
  α := (He.Al × Bool) × List He.FnV
  obs := fun s => obsP n fn pr fs s.heap.get?
  val := fun _ => ((He.valE fn, true), pr.map He.FnD.val)
  says := fun _ h => ∃ K : PySem.W.Frag, K.In h ∧ He.SaysE [] fn K ∧ exB fs K = true ∧ pr.map (fun d => prObs K d.at_) = pr.map He.FnD.val
  of := fun w s e => ⟨He.frG s.heap.get? (He.asG s.heap.get? n), He.frG_in, congrArg (fun z : AlP => z.1.1) e, congrArg (fun z : AlP => z.1.2) e, congrArg Prod.snd e⟩
  keeps := fun w h h' ⟨K, a, b, c⟩ k => ⟨K, a.keeps k, b, c⟩
theorem obsP_eq {n : Nat} {fn pr : List He.FnD} {fs : List (PySem.W.Frag → Bool)} {g : Addr → Option Obj} {s : Shared} (h : ∀ a, g a = s.heap.get? a) : obsP n fn pr fs g = (hookP n fn pr fs).obs s := by
  have e : g = s.heap.get? := funext h
  rw [e]
  rfl
end Mq

namespace Lw
open PySem PySem.Spec PyProof.Rows L2 Mq
open SX (S)
theorem all_mk {P : Program} {w : World} {K : PySem.W.Frag} {h : Heap} {mg : Str → Option Value} {fa CM : Addr} (X : K.In h) (G : h.Ns mainGlobals mg) (hfa : mg "law" = some (.ref fa))
    (aM : PySem.W.nsIn K mainGlobals "MillError" = some (some (.ref CM)))
    (mill : PySem.W.isClsIn K CM = true ∧ PySem.W.typeIn K (.ref CM) = some (.type "type"))
    (sp : PySem.W.specialIn K (.builtin "object.__class__") "__get__" = some (some (.builtin "getset_descriptor.__get__")))
    (tk : PySem.W.takesIn K (.builtin "object.__class__") = some true)
    {CB : Addr}
    (aB : PySem.W.nsIn K mainGlobals "Book" = some (some (.ref CB)))
    (owB : PySem.W.plainGet K CB Str.empty = true ∧ PySem.W.hasDictIn K CB = true ∧ PySem.W.plainOver K CB = true ∧ PySem.W.makesIn K CB = true ∧ PySem.W.keepIn K (.ref CB) = true)
    (saB : PySem.W.findIn K (.ref CB) "__setattr__" = some (some (.builtin "object.__setattr__")))
    (caB : PySem.W.findIn K (.ref CB) "__class__" = some (some (.builtin "object.__class__")))
    (moB : PySem.W.mroIn K CB (.type "object") = some true)
    (kiB : PySem.W.kitOne K (.ref CB) (.ref CB) = some true)
    (nB_letters : PySem.W.findIn K (.ref CB) "letters" = some none)
    (nB_folds : PySem.W.findIn K (.ref CB) "folds" = some none)
    (nB_table : PySem.W.findIn K (.ref CB) "table" = some none)
    {finit : Addr} {odinit aninit : Option Addr} {slinit : Array (Option Value)} {ocinit kVinit dcinit pminit cdinit ctinit : Value}
    (minit : PySem.W.findIn K (.ref CB) "__init__" = some (some (.ref finit)) ∧ PySem.W.isFn K (.ref finit) = true)
    (linit : K.lookup finit = some ⟨ocinit, odinit, .func (PySem.W.fnOf "__init__" "Book.__init__" (defArgs s_Book___init__) (defBody s_Book___init__) (defScope s_Book___init__) .none kVinit dcinit pminit aninit cdinit ctinit), slinit⟩)
    (cinit : PySem.W.codeIn K cdinit "Book.__init__" = true)
    {fleft : Addr} {odleft anleft : Option Addr} {slleft : Array (Option Value)} {ocleft kVleft dcleft pmleft cdleft ctleft : Value}
    (mleft : PySem.W.findIn K (.ref CB) "left_of" = some (some (.ref fleft)) ∧ PySem.W.isFn K (.ref fleft) = true)
    (lleft : K.lookup fleft = some ⟨ocleft, odleft, .func (PySem.W.fnOf "left_of" "Book.left_of" (defArgs s_Book_left_of) (defBody s_Book_left_of) (defScope s_Book_left_of) .none kVleft dcleft pmleft anleft cdleft ctleft), slleft⟩)
    (cleft : PySem.W.codeIn K cdleft "Book.left_of" = true)
    {fbeq : Addr} {odbeq anbeq : Option Addr} {slbeq : Array (Option Value)} {ocbeq kVbeq dcbeq pmbeq cdbeq ctbeq : Value}
    (mbeq : PySem.W.findIn K (.ref CB) "__eq__" = some (some (.ref fbeq)) ∧ PySem.W.isFn K (.ref fbeq) = true)
    (lbeq : K.lookup fbeq = some ⟨ocbeq, odbeq, .func (PySem.W.fnOf "__eq__" "Book.__eq__" (defArgs s_Book___eq__) (defBody s_Book___eq__) (defScope s_Book___eq__) .none kVbeq dcbeq pmbeq anbeq cdbeq ctbeq), slbeq⟩)
    (cbeq : PySem.W.codeIn K cdbeq "Book.__eq__" = true)
    {CN : Addr}
    (aN : PySem.W.nsIn K mainGlobals "Weaving" = some (some (.ref CN)))
    (owN : PySem.W.plainGet K CN Str.empty = true ∧ PySem.W.hasDictIn K CN = true ∧ PySem.W.plainOver K CN = true ∧ PySem.W.makesIn K CN = true ∧ PySem.W.keepIn K (.ref CN) = true)
    (saN : PySem.W.findIn K (.ref CN) "__setattr__" = some (some (.builtin "object.__setattr__")))
    (caN : PySem.W.findIn K (.ref CN) "__class__" = some (some (.builtin "object.__class__")))
    (moN : PySem.W.mroIn K CN (.type "object") = some true)
    (kiN : PySem.W.kitOne K (.ref CN) (.ref CN) = some true)
    (nN_book : PySem.W.findIn K (.ref CN) "book" = some none)
    (nN_web : PySem.W.findIn K (.ref CN) "web" = some none)
    (nN_row : PySem.W.findIn K (.ref CN) "row" = some none)
    (nN_webs : PySem.W.findIn K (.ref CN) "webs" = some none)
    (nN_before : PySem.W.findIn K (.ref CN) "before" = some none)
    {fwini : Addr} {odwini anwini : Option Addr} {slwini : Array (Option Value)} {ocwini kVwini dcwini pmwini cdwini ctwini : Value}
    (mwini : PySem.W.findIn K (.ref CN) "__init__" = some (some (.ref fwini)) ∧ PySem.W.isFn K (.ref fwini) = true)
    (lwini : K.lookup fwini = some ⟨ocwini, odwini, .func (PySem.W.fnOf "__init__" "Weaving.__init__" (defArgs s_Weaving___init__) (defBody s_Weaving___init__) (defScope s_Weaving___init__) .none kVwini dcwini pmwini anwini cdwini ctwini), slwini⟩)
    (cwini : PySem.W.codeIn K cdwini "Weaving.__init__" = true)
    {fwlen : Addr} {odwlen anwlen : Option Addr} {slwlen : Array (Option Value)} {ocwlen kVwlen dcwlen pmwlen cdwlen ctwlen : Value}
    (mwlen : PySem.W.findIn K (.ref CN) "__len__" = some (some (.ref fwlen)) ∧ PySem.W.isFn K (.ref fwlen) = true)
    (lwlen : K.lookup fwlen = some ⟨ocwlen, odwlen, .func (PySem.W.fnOf "__len__" "Weaving.__len__" (defArgs s_Weaving___len__) (defBody s_Weaving___len__) (defScope s_Weaving___len__) .none kVwlen dcwlen pmwlen anwlen cdwlen ctwlen), slwlen⟩)
    (cwlen : PySem.W.codeIn K cdwlen "Weaving.__len__" = true)
    {fwat : Addr} {odwat anwat : Option Addr} {slwat : Array (Option Value)} {ocwat kVwat dcwat pmwat cdwat ctwat : Value}
    (mwat : PySem.W.findIn K (.ref CN) "web_at" = some (some (.ref fwat)) ∧ PySem.W.isFn K (.ref fwat) = true)
    (lwat : K.lookup fwat = some ⟨ocwat, odwat, .func (PySem.W.fnOf "web_at" "Weaving.web_at" (defArgs s_Weaving_web_at) (defBody s_Weaving_web_at) (defScope s_Weaving_web_at) .none kVwat dcwat pmwat anwat cdwat ctwat), slwat⟩)
    (cwat : PySem.W.codeIn K cdwat "Weaving.web_at" = true)
    {fwpl : Addr} {odwpl anwpl : Option Addr} {slwpl : Array (Option Value)} {ocwpl kVwpl dcwpl pmwpl cdwpl ctwpl : Value}
    (mwpl : PySem.W.findIn K (.ref CN) "check_place" = some (some (.ref fwpl)) ∧ PySem.W.isFn K (.ref fwpl) = true)
    (lwpl : K.lookup fwpl = some ⟨ocwpl, odwpl, .func (PySem.W.fnOf "check_place" "Weaving.check_place" (defArgs s_Weaving_check_place) (defBody s_Weaving_check_place) (defScope s_Weaving_check_place) .none kVwpl dcwpl pmwpl anwpl cdwpl ctwpl), slwpl⟩)
    (cwpl : PySem.W.codeIn K cdwpl "Weaving.check_place" = true)
    {fwch : Addr} {odwch anwch : Option Addr} {slwch : Array (Option Value)} {ocwch kVwch dcwch pmwch cdwch ctwch : Value}
    (mwch : PySem.W.findIn K (.ref CN) "change" = some (some (.ref fwch)) ∧ PySem.W.isFn K (.ref fwch) = true)
    (lwch : K.lookup fwch = some ⟨ocwch, odwch, .func (PySem.W.fnOf "change" "Weaving.change" (defArgs s_Weaving_change) (defBody s_Weaving_change) (defScope s_Weaving_change) .none kVwch dcwch pmwch anwch cdwch ctwch), slwch⟩)
    (cwch : PySem.W.codeIn K cdwch "Weaving.change" = true)
    {fwun : Addr} {odwun anwun : Option Addr} {slwun : Array (Option Value)} {ocwun kVwun dcwun pmwun cdwun ctwun : Value}
    (mwun : PySem.W.findIn K (.ref CN) "undo" = some (some (.ref fwun)) ∧ PySem.W.isFn K (.ref fwun) = true)
    (lwun : K.lookup fwun = some ⟨ocwun, odwun, .func (PySem.W.fnOf "undo" "Weaving.undo" (defArgs s_Weaving_undo) (defBody s_Weaving_undo) (defScope s_Weaving_undo) .none kVwun dcwun pmwun anwun cdwun ctwun), slwun⟩)
    (cwun : PySem.W.codeIn K cdwun "Weaving.undo" = true)
    {CW FW : Addr}
    (aW : PySem.W.nsIn K mainGlobals "BadWeb" = some (some (.ref CW)))
    (xW : ClsAt K CM CW)
    (gaW : PySem.W.findIn K (.ref CW) "__getattribute__" = some (some (.builtin "BaseException.__getattribute__")))
    (ggW : PySem.W.findIn K (.ref CW) "__getattr__" = some none)
    (caW : PySem.W.findIn K (.ref CW) "__class__" = some (some (.builtin "object.__class__")))
    (wsW : PySem.W.findIn K (.ref CW) "__setattr__" = some (some (.builtin "object.__setattr__")))
    (ntW : PySem.W.findIn K (.ref CW) "thing" = some none)
    (wiW : PySem.W.findIn K (.ref CW) "__init__" = some (some (.ref FW)))
    {odEW anEW : Option Addr} {slEW : Array (Option Value)} {dcEW pmEW cdEW ctEW : Value}
    (lEW : K.lookup FW = some ⟨.type "function", odEW, .func (PySem.W.fnOf "__init__" "BadWeb.__init__" (MqE_thing.iA ⟨14, 17, 14, 21⟩ ⟨14, 23, 14, 28⟩) (MqE_thing.iB ⟨15, 8, 15, 12⟩ ⟨15, 8, 15, 18⟩ ⟨15, 21, 15, 26⟩ ⟨15, 8, 15, 26⟩) MqE_thing.iS .none .none dcEW pmEW anEW cdEW ctEW), slEW⟩)
    (cEW : PySem.W.codeIn K cdEW "BadWeb.__init__" = true)
    {CV FV : Addr}
    (aV : PySem.W.nsIn K mainGlobals "BadRow" = some (some (.ref CV)))
    (xV : ClsAt K CM CV)
    (gaV : PySem.W.findIn K (.ref CV) "__getattribute__" = some (some (.builtin "BaseException.__getattribute__")))
    (ggV : PySem.W.findIn K (.ref CV) "__getattr__" = some none)
    (caV : PySem.W.findIn K (.ref CV) "__class__" = some (some (.builtin "object.__class__")))
    (wsV : PySem.W.findIn K (.ref CV) "__setattr__" = some (some (.builtin "object.__setattr__")))
    (ntV : PySem.W.findIn K (.ref CV) "thing" = some none)
    (wiV : PySem.W.findIn K (.ref CV) "__init__" = some (some (.ref FV)))
    {odEV anEV : Option Addr} {slEV : Array (Option Value)} {dcEV pmEV cdEV ctEV : Value}
    (lEV : K.lookup FV = some ⟨.type "function", odEV, .func (PySem.W.fnOf "__init__" "BadRow.__init__" (MqE_thing.iA ⟨20, 17, 20, 21⟩ ⟨20, 23, 20, 28⟩) (MqE_thing.iB ⟨21, 8, 21, 12⟩ ⟨21, 8, 21, 18⟩ ⟨21, 21, 21, 26⟩ ⟨21, 8, 21, 26⟩) MqE_thing.iS .none .none dcEV pmEV anEV cdEV ctEV), slEV⟩)
    (cEV : PySem.W.codeIn K cdEV "BadRow.__init__" = true)
    {CZ FZ : Addr}
    (aZ : PySem.W.nsIn K mainGlobals "BadPlace" = some (some (.ref CZ)))
    (xZ : ClsAt K CM CZ)
    (gaZ : PySem.W.findIn K (.ref CZ) "__getattribute__" = some (some (.builtin "BaseException.__getattribute__")))
    (ggZ : PySem.W.findIn K (.ref CZ) "__getattr__" = some none)
    (caZ : PySem.W.findIn K (.ref CZ) "__class__" = some (some (.builtin "object.__class__")))
    (wsZ : PySem.W.findIn K (.ref CZ) "__setattr__" = some (some (.builtin "object.__setattr__")))
    (ntZ : PySem.W.findIn K (.ref CZ) "place" = some none)
    (wiZ : PySem.W.findIn K (.ref CZ) "__init__" = some (some (.ref FZ)))
    {odEZ anEZ : Option Addr} {slEZ : Array (Option Value)} {dcEZ pmEZ cdEZ ctEZ : Value}
    (lEZ : K.lookup FZ = some ⟨.type "function", odEZ, .func (PySem.W.fnOf "__init__" "BadPlace.__init__" (MqE_place.iA ⟨24, 17, 24, 21⟩ ⟨24, 23, 24, 28⟩) (MqE_place.iB ⟨25, 8, 25, 12⟩ ⟨25, 8, 25, 18⟩ ⟨25, 21, 25, 26⟩ ⟨25, 8, 25, 26⟩) MqE_place.iS .none .none dcEZ pmEZ anEZ cdEZ ctEZ), slEZ⟩)
    (cEZ : PySem.W.codeIn K cdEZ "BadPlace.__init__" = true)
    {CU : Addr}
    (aU : PySem.W.nsIn K mainGlobals "NothingToUndo" = some (some (.ref CU)))
    (xU : ClsAt K CM CU)
    (gaU : PySem.W.findIn K (.ref CU) "__getattribute__" = some (some (.builtin "BaseException.__getattribute__")))
    (ggU : PySem.W.findIn K (.ref CU) "__getattr__" = some none)
    (caU : PySem.W.findIn K (.ref CU) "__class__" = some (some (.builtin "object.__class__")))
    (exU : PySem.W.excIn K CU exTail "Exception.__new__" = true)
    {pq1 fq1 : Addr} {odq1 anq1 : Option Addr} {slq1 : Array (Option Value)} {ocq1 kVq1 dcq1 pmq1 cdq1 ctq1 : Value}
    (prq1 : PropOf K CN "row_now" pq1 fq1)
    (lq1 : K.lookup fq1 = some ⟨ocq1, odq1, .func (PySem.W.fnOf "row_now" "Weaving.row_now" (defArgs s_Weaving_row_now) (defBody s_Weaving_row_now) (defScope s_Weaving_row_now) .none kVq1 dcq1 pmq1 anq1 cdq1 ctq1), slq1⟩)
    (cq1 : PySem.W.codeIn K cdq1 "Weaving.row_now" = true)
    {pq2 fq2 : Addr} {odq2 anq2 : Option Addr} {slq2 : Array (Option Value)} {ocq2 kVq2 dcq2 pmq2 cdq2 ctq2 : Value}
    (prq2 : PropOf K CN "web_now" pq2 fq2)
    (lq2 : K.lookup fq2 = some ⟨ocq2, odq2, .func (PySem.W.fnOf "web_now" "Weaving.web_now" (defArgs s_Weaving_web_now) (defBody s_Weaving_web_now) (defScope s_Weaving_web_now) .none kVq2 dcq2 pmq2 anq2 cdq2 ctq2), slq2⟩)
    (cq2 : PySem.W.codeIn K cdq2 "Weaving.web_now" = true)
    (i_MOST_LETTERS : ∃ t, PySem.W.nsIn K mainGlobals "MOST_LETTERS" = some (some (.int 200 t)))
    (ktN_list : PySem.W.kitOne K (.ref CN) (.type "list") = some false)
    (noVW : PySem.W.exmOne K (.ref CV) (.ref CW) = some false)
    (noVZ : PySem.W.exmOne K (.ref CV) (.ref CZ) = some false)
    {f0 : Addr} {od0 an0 : Option Addr} {sl0 : Array (Option Value)} {oc0 kV0 dc0 pm0 cd0 ct0 : Value}
    (a0 : PySem.W.nsIn K mainGlobals "is_letters" = some (some (.ref f0)))
    (l0 : K.lookup f0 = some ⟨oc0, od0, .func (PySem.W.fnOf "is_letters" "is_letters" (defArgs s_is_letters) (defBody s_is_letters) (defScope s_is_letters) .none kV0 dc0 pm0 an0 cd0 ct0), sl0⟩)
    (c0 : PySem.W.codeIn K cd0 "is_letters" = true)
    {f1 : Addr} {od1 an1 : Option Addr} {sl1 : Array (Option Value)} {oc1 kV1 dc1 pm1 cd1 ct1 : Value}
    (a1 : PySem.W.nsIn K mainGlobals "is_letter" = some (some (.ref f1)))
    (l1 : K.lookup f1 = some ⟨oc1, od1, .func (PySem.W.fnOf "is_letter" "is_letter" (defArgs s_is_letter) (defBody s_is_letter) (defScope s_is_letter) .none kV1 dc1 pm1 an1 cd1 ct1), sl1⟩)
    (c1 : PySem.W.codeIn K cd1 "is_letter" = true)
    {f2 : Addr} {od2 an2 : Option Addr} {sl2 : Array (Option Value)} {oc2 kV2 dc2 pm2 cd2 ct2 : Value}
    (a2 : PySem.W.nsIn K mainGlobals "is_word" = some (some (.ref f2)))
    (l2 : K.lookup f2 = some ⟨oc2, od2, .func (PySem.W.fnOf "is_word" "is_word" (defArgs s_is_word) (defBody s_is_word) (defScope s_is_word) .none kV2 dc2 pm2 an2 cd2 ct2), sl2⟩)
    (c2 : PySem.W.codeIn K cd2 "is_word" = true)
    {f3 : Addr} {od3 an3 : Option Addr} {sl3 : Array (Option Value)} {oc3 kV3 dc3 pm3 cd3 ct3 : Value}
    (a3 : PySem.W.nsIn K mainGlobals "is_number" = some (some (.ref f3)))
    (l3 : K.lookup f3 = some ⟨oc3, od3, .func (PySem.W.fnOf "is_number" "is_number" (defArgs s_is_number) (defBody s_is_number) (defScope s_is_number) .none kV3 dc3 pm3 an3 cd3 ct3), sl3⟩)
    (c3 : PySem.W.codeIn K cd3 "is_number" = true)
    {f4 : Addr} {od4 an4 : Option Addr} {sl4 : Array (Option Value)} {oc4 kV4 dc4 pm4 cd4 ct4 : Value}
    (a4 : PySem.W.nsIn K mainGlobals "is_below" = some (some (.ref f4)))
    (l4 : K.lookup f4 = some ⟨oc4, od4, .func (PySem.W.fnOf "is_below" "is_below" (defArgs s_is_below) (defBody s_is_below) (defScope s_is_below) .none kV4 dc4 pm4 an4 cd4 ct4), sl4⟩)
    (c4 : PySem.W.codeIn K cd4 "is_below" = true)
    {f5 : Addr} {od5 an5 : Option Addr} {sl5 : Array (Option Value)} {oc5 kV5 dc5 pm5 cd5 ct5 : Value}
    (a5 : PySem.W.nsIn K mainGlobals "is_ascending" = some (some (.ref f5)))
    (l5 : K.lookup f5 = some ⟨oc5, od5, .func (PySem.W.fnOf "is_ascending" "is_ascending" (defArgs s_is_ascending) (defBody s_is_ascending) (defScope s_is_ascending) .none kV5 dc5 pm5 an5 cd5 ct5), sl5⟩)
    (c5 : PySem.W.codeIn K cd5 "is_ascending" = true)
    {f6 : Addr} {od6 an6 : Option Addr} {sl6 : Array (Option Value)} {oc6 kV6 dc6 pm6 cd6 ct6 : Value}
    (a6 : PySem.W.nsIn K mainGlobals "is_fold" = some (some (.ref f6)))
    (l6 : K.lookup f6 = some ⟨oc6, od6, .func (PySem.W.fnOf "is_fold" "is_fold" (defArgs s_is_fold) (defBody s_is_fold) (defScope s_is_fold) .none kV6 dc6 pm6 an6 cd6 ct6), sl6⟩)
    (c6 : PySem.W.codeIn K cd6 "is_fold" = true)
    {f7 : Addr} {od7 an7 : Option Addr} {sl7 : Array (Option Value)} {oc7 kV7 dc7 pm7 cd7 ct7 : Value}
    (a7 : PySem.W.nsIn K mainGlobals "is_web" = some (some (.ref f7)))
    (l7 : K.lookup f7 = some ⟨oc7, od7, .func (PySem.W.fnOf "is_web" "is_web" (defArgs s_is_web) (defBody s_is_web) (defScope s_is_web) .none kV7 dc7 pm7 an7 cd7 ct7), sl7⟩)
    (c7 : PySem.W.codeIn K cd7 "is_web" = true)
    {f8 : Addr} {od8 an8 : Option Addr} {sl8 : Array (Option Value)} {oc8 kV8 dc8 pm8 cd8 ct8 : Value}
    (a8 : PySem.W.nsIn K mainGlobals "check_web" = some (some (.ref f8)))
    (l8 : K.lookup f8 = some ⟨oc8, od8, .func (PySem.W.fnOf "check_web" "check_web" (defArgs s_check_web) (defBody s_check_web) (defScope s_check_web) .none kV8 dc8 pm8 an8 cd8 ct8), sl8⟩)
    (c8 : PySem.W.codeIn K cd8 "check_web" = true)
    {f9 : Addr} {od9 an9 : Option Addr} {sl9 : Array (Option Value)} {oc9 kV9 dc9 pm9 cd9 ct9 : Value}
    (a9 : PySem.W.nsIn K mainGlobals "laid_behind" = some (some (.ref f9)))
    (l9 : K.lookup f9 = some ⟨oc9, od9, .func (PySem.W.fnOf "laid_behind" "laid_behind" (defArgs s_laid_behind) (defBody s_laid_behind) (defScope s_laid_behind) .none kV9 dc9 pm9 an9 cd9 ct9), sl9⟩)
    (c9 : PySem.W.codeIn K cd9 "laid_behind" = true)
    {f10 : Addr} {od10 an10 : Option Addr} {sl10 : Array (Option Value)} {oc10 kV10 dc10 pm10 cd10 ct10 : Value}
    (a10 : PySem.W.nsIn K mainGlobals "check_rows" = some (some (.ref f10)))
    (l10 : K.lookup f10 = some ⟨oc10, od10, .func (PySem.W.fnOf "check_rows" "check_rows" (defArgs s_check_rows) (defBody s_check_rows) (defScope s_check_rows) .none kV10 dc10 pm10 an10 cd10 ct10), sl10⟩)
    (c10 : PySem.W.codeIn K cd10 "check_rows" = true)
    {f11 : Addr} {od11 an11 : Option Addr} {sl11 : Array (Option Value)} {oc11 kV11 dc11 pm11 cd11 ct11 : Value}
    (a11 : PySem.W.nsIn K mainGlobals "check_woven" = some (some (.ref f11)))
    (l11 : K.lookup f11 = some ⟨oc11, od11, .func (PySem.W.fnOf "check_woven" "check_woven" (defArgs s_check_woven) (defBody s_check_woven) (defScope s_check_woven) .none kV11 dc11 pm11 an11 cd11 ct11), sl11⟩)
    (c11 : PySem.W.codeIn K cd11 "check_woven" = true)
    {f12 : Addr} {od12 an12 : Option Addr} {sl12 : Array (Option Value)} {oc12 kV12 dc12 pm12 cd12 ct12 : Value}
    (a12 : PySem.W.nsIn K mainGlobals "webs_behind" = some (some (.ref f12)))
    (l12 : K.lookup f12 = some ⟨oc12, od12, .func (PySem.W.fnOf "webs_behind" "webs_behind" (defArgs s_webs_behind) (defBody s_webs_behind) (defScope s_webs_behind) .none kV12 dc12 pm12 an12 cd12 ct12), sl12⟩)
    (c12 : PySem.W.codeIn K cd12 "webs_behind" = true)
    {f13 : Addr} {od13 an13 : Option Addr} {sl13 : Array (Option Value)} {oc13 kV13 dc13 pm13 cd13 ct13 : Value}
    (a13 : PySem.W.nsIn K mainGlobals "webs_along" = some (some (.ref f13)))
    (l13 : K.lookup f13 = some ⟨oc13, od13, .func (PySem.W.fnOf "webs_along" "webs_along" (defArgs s_webs_along) (defBody s_webs_along) (defScope s_webs_along) .none kV13 dc13 pm13 an13 cd13 ct13), sl13⟩)
    (c13 : PySem.W.codeIn K cd13 "webs_along" = true)
    {f14 : Addr} {od14 an14 : Option Addr} {sl14 : Array (Option Value)} {oc14 kV14 dc14 pm14 cd14 ct14 : Value}
    (a14 : PySem.W.nsIn K mainGlobals "_law_deck" = some (some (.ref f14)))
    (l14 : K.lookup f14 = some ⟨oc14, od14, .func (PySem.W.fnOf "_law_deck" "_law_deck" (defArgs s__law_deck) (defBody s__law_deck) (defScope s__law_deck) .none kV14 dc14 pm14 an14 cd14 ct14), sl14⟩)
    (c14 : PySem.W.codeIn K cd14 "_law_deck" = true)
    {f15 : Addr} {od15 an15 : Option Addr} {sl15 : Array (Option Value)} {oc15 kV15 dc15 pm15 cd15 ct15 : Value}
    (a15 : PySem.W.nsIn K mainGlobals "_law_draw" = some (some (.ref f15)))
    (l15 : K.lookup f15 = some ⟨oc15, od15, .func (PySem.W.fnOf "_law_draw" "_law_draw" (defArgs s__law_draw) (defBody s__law_draw) (defScope s__law_draw) .none kV15 dc15 pm15 an15 cd15 ct15), sl15⟩)
    (c15 : PySem.W.codeIn K cd15 "_law_draw" = true)
    {f16 : Addr} {od16 an16 : Option Addr} {sl16 : Array (Option Value)} {oc16 kV16 dc16 pm16 cd16 ct16 : Value}
    (a16 : PySem.W.nsIn K mainGlobals "_law_pick" = some (some (.ref f16)))
    (l16 : K.lookup f16 = some ⟨oc16, od16, .func (PySem.W.fnOf "_law_pick" "_law_pick" (defArgs s__law_pick) (defBody s__law_pick) (defScope s__law_pick) .none kV16 dc16 pm16 an16 cd16 ct16), sl16⟩)
    (c16 : PySem.W.codeIn K cd16 "_law_pick" = true)
    {f17 : Addr} {od17 an17 : Option Addr} {sl17 : Array (Option Value)} {oc17 kV17 dc17 pm17 cd17 ct17 : Value}
    (a17 : PySem.W.nsIn K mainGlobals "_law_book" = some (some (.ref f17)))
    (l17 : K.lookup f17 = some ⟨oc17, od17, .func (PySem.W.fnOf "_law_book" "_law_book" (defArgs s__law_book) (defBody s__law_book) (defScope s__law_book) .none kV17 dc17 pm17 an17 cd17 ct17), sl17⟩)
    (c17 : PySem.W.codeIn K cd17 "_law_book" = true)
    {f18 : Addr} {od18 an18 : Option Addr} {sl18 : Array (Option Value)} {oc18 kV18 dc18 pm18 cd18 ct18 : Value}
    (a18 : PySem.W.nsIn K mainGlobals "_law_code" = some (some (.ref f18)))
    (l18 : K.lookup f18 = some ⟨oc18, od18, .func (PySem.W.fnOf "_law_code" "_law_code" (defArgs s__law_code) (defBody s__law_code) (defScope s__law_code) .none kV18 dc18 pm18 an18 cd18 ct18), sl18⟩)
    (c18 : PySem.W.codeIn K cd18 "_law_code" = true)
    {f19 : Addr} {od19 an19 : Option Addr} {sl19 : Array (Option Value)} {oc19 kV19 dc19 pm19 cd19 ct19 : Value}
    (a19 : PySem.W.nsIn K mainGlobals "_law_laid" = some (some (.ref f19)))
    (l19 : K.lookup f19 = some ⟨oc19, od19, .func (PySem.W.fnOf "_law_laid" "_law_laid" (defArgs s__law_laid) (defBody s__law_laid) (defScope s__law_laid) .none kV19 dc19 pm19 an19 cd19 ct19), sl19⟩)
    (c19 : PySem.W.codeIn K cd19 "_law_laid" = true)
    {f20 : Addr} {od20 an20 : Option Addr} {sl20 : Array (Option Value)} {oc20 kV20 dc20 pm20 cd20 ct20 : Value}
    (a20 : PySem.W.nsIn K mainGlobals "_law_lays" = some (some (.ref f20)))
    (l20 : K.lookup f20 = some ⟨oc20, od20, .func (PySem.W.fnOf "_law_lays" "_law_lays" (defArgs s__law_lays) (defBody s__law_lays) (defScope s__law_lays) .none kV20 dc20 pm20 an20 cd20 ct20), sl20⟩)
    (c20 : PySem.W.codeIn K cd20 "_law_lays" = true)
    {f21 : Addr} {od21 an21 : Option Addr} {sl21 : Array (Option Value)} {oc21 kV21 dc21 pm21 cd21 ct21 : Value}
    (a21 : PySem.W.nsIn K mainGlobals "_law_along" = some (some (.ref f21)))
    (l21 : K.lookup f21 = some ⟨oc21, od21, .func (PySem.W.fnOf "_law_along" "_law_along" (defArgs s__law_along) (defBody s__law_along) (defScope s__law_along) .none kV21 dc21 pm21 an21 cd21 ct21), sl21⟩)
    (c21 : PySem.W.codeIn K cd21 "_law_along" = true)
    {f22 : Addr} {od22 an22 : Option Addr} {sl22 : Array (Option Value)} {oc22 kV22 dc22 pm22 cd22 ct22 : Value}
    (a22 : PySem.W.nsIn K mainGlobals "_law_made" = some (some (.ref f22)))
    (l22 : K.lookup f22 = some ⟨oc22, od22, .func (PySem.W.fnOf "_law_made" "_law_made" (defArgs s__law_made) (defBody s__law_made) (defScope s__law_made) .none kV22 dc22 pm22 an22 cd22 ct22), sl22⟩)
    (c22 : PySem.W.codeIn K cd22 "_law_made" = true)
    {f23 : Addr} {od23 an23 : Option Addr} {sl23 : Array (Option Value)} {oc23 kV23 dc23 pm23 cd23 ct23 : Value}
    (a23 : PySem.W.nsIn K mainGlobals "_law_spot" = some (some (.ref f23)))
    (l23 : K.lookup f23 = some ⟨oc23, od23, .func (PySem.W.fnOf "_law_spot" "_law_spot" (defArgs s__law_spot) (defBody s__law_spot) (defScope s__law_spot) .none kV23 dc23 pm23 an23 cd23 ct23), sl23⟩)
    (c23 : PySem.W.codeIn K cd23 "_law_spot" = true)
    {f24 : Addr} {od24 an24 : Option Addr} {sl24 : Array (Option Value)} {oc24 kV24 dc24 pm24 cd24 ct24 : Value}
    (a24 : PySem.W.nsIn K mainGlobals "_law_changed" = some (some (.ref f24)))
    (l24 : K.lookup f24 = some ⟨oc24, od24, .func (PySem.W.fnOf "_law_changed" "_law_changed" (defArgs s__law_changed) (defBody s__law_changed) (defScope s__law_changed) .none kV24 dc24 pm24 an24 cd24 ct24), sl24⟩)
    (c24 : PySem.W.codeIn K cd24 "_law_changed" = true)
    {f25 : Addr} {od25 an25 : Option Addr} {sl25 : Array (Option Value)} {oc25 kV25 dc25 pm25 cd25 ct25 : Value}
    (a25 : PySem.W.nsIn K mainGlobals "_law_undone" = some (some (.ref f25)))
    (l25 : K.lookup f25 = some ⟨oc25, od25, .func (PySem.W.fnOf "_law_undone" "_law_undone" (defArgs s__law_undone) (defBody s__law_undone) (defScope s__law_undone) .none kV25 dc25 pm25 an25 cd25 ct25), sl25⟩)
    (c25 : PySem.W.codeIn K cd25 "_law_undone" = true)
    {f26 : Addr} {od26 an26 : Option Addr} {sl26 : Array (Option Value)} {oc26 kV26 dc26 pm26 cd26 ct26 : Value}
    (a26 : PySem.W.nsIn K mainGlobals "_law_stands" = some (some (.ref f26)))
    (l26 : K.lookup f26 = some ⟨oc26, od26, .func (PySem.W.fnOf "_law_stands" "_law_stands" (defArgs s__law_stands) (defBody s__law_stands) (defScope s__law_stands) .none kV26 dc26 pm26 an26 cd26 ct26), sl26⟩)
    (c26 : PySem.W.codeIn K cd26 "_law_stands" = true)
    {f27 : Addr} {od27 an27 : Option Addr} {sl27 : Array (Option Value)} {oc27 kV27 dc27 pm27 cd27 ct27 : Value}
    (a27 : PySem.W.nsIn K mainGlobals "_law_due" = some (some (.ref f27)))
    (l27 : K.lookup f27 = some ⟨oc27, od27, .func (PySem.W.fnOf "_law_due" "_law_due" (defArgs s__law_due) (defBody s__law_due) (defScope s__law_due) .none kV27 dc27 pm27 an27 cd27 ct27), sl27⟩)
    (c27 : PySem.W.codeIn K cd27 "_law_due" = true)
    {f28 : Addr} {od28 an28 : Option Addr} {sl28 : Array (Option Value)} {oc28 kV28 dc28 pm28 cd28 ct28 : Value}
    (a28 : PySem.W.nsIn K mainGlobals "_law_refused" = some (some (.ref f28)))
    (l28 : K.lookup f28 = some ⟨oc28, od28, .func (PySem.W.fnOf "_law_refused" "_law_refused" (defArgs s__law_refused) (defBody s__law_refused) (defScope s__law_refused) .none kV28 dc28 pm28 an28 cd28 ct28), sl28⟩)
    (c28 : PySem.W.codeIn K cd28 "_law_refused" = true)
    {f29 : Addr} {od29 an29 : Option Addr} {sl29 : Array (Option Value)} {oc29 kV29 dc29 pm29 cd29 ct29 : Value}
    (a29 : PySem.W.nsIn K mainGlobals "law" = some (some (.ref f29)))
    (l29 : K.lookup f29 = some ⟨oc29, od29, .func (PySem.W.fnOf "law" "law" (defArgs s_law) (defBody s_law) (defScope s_law) .none kV29 dc29 pm29 an29 cd29 ct29), sl29⟩)
    (c29 : PySem.W.codeIn K cd29 "law" = true)
    (b_len : PySem.W.nsIn K mainGlobals "len" = some none)
    (b_range : PySem.W.nsIn K mainGlobals "range" = some none)
    (b_isinstance : PySem.W.nsIn K mainGlobals "isinstance" = some none)
    (b_all : PySem.W.nsIn K mainGlobals "all" = some none)
    (b_any : PySem.W.nsIn K mainGlobals "any" = some none)
    (b_int : PySem.W.nsIn K mainGlobals "int" = some none)
    (b_str : PySem.W.nsIn K mainGlobals "str" = some none)
    (b_bool : PySem.W.nsIn K mainGlobals "bool" = some none)
    (b_tuple : PySem.W.nsIn K mainGlobals "tuple" = some none)
    (b_list : PySem.W.nsIn K mainGlobals "list" = some none)
    (b_repr : PySem.W.nsIn K mainGlobals "repr" = some none)
    (b_enumerate : PySem.W.nsIn K mainGlobals "enumerate" = some none)
    (b_sorted : PySem.W.nsIn K mainGlobals "sorted" = some none)
    (b_min : PySem.W.nsIn K mainGlobals "min" = some none)
    (t_ALPHABET : ∃ t, PySem.W.nsIn K mainGlobals "ALPHABET" = some (some (.str "abcdefghijklmnopqrstuvwxyz" t))) :
    ∃ fd : FuncData, (∀ (s : Shared) (u : Value), BindsTo s fd ⟨[u], []⟩ [("_law_script", u)]) ∧ ∀ base : Heap, K.In base → base.Ns mainGlobals mg → FnG P w K mg base CX0 8 fa fd ["_law_script"] (spLaw K) := by
  have e := hfa.symm.trans (PySem.W.mg_of X G a29)
  cases e
  have B : Blt mg := ⟨PySem.W.mg_none_of X G b_len, PySem.W.mg_none_of X G b_range, PySem.W.mg_none_of X G b_isinstance, PySem.W.mg_none_of X G b_all, PySem.W.mg_none_of X G b_any, PySem.W.mg_none_of X G b_int, PySem.W.mg_none_of X G b_str, PySem.W.mg_none_of X G b_bool, PySem.W.mg_none_of X G b_tuple, PySem.W.mg_none_of X G b_list, PySem.W.mg_none_of X G b_repr, PySem.W.mg_none_of X G b_enumerate⟩
  have n_sorted : mg "sorted" = none := PySem.W.mg_none_of X G b_sorted
  have n_min : mg "min" = none := PySem.W.mg_none_of X G b_min
  have U0 := fun_mk (st := s_is_letters) l0 c0 (keep_fn l0)
  have g0 := PySem.W.mg_of X G a0
  have b0 := U0.binds (ps := ["thing"]) fun _ _ _ _ _ _ us hl => match us, hl with | [_], _ => rfl
  have U1 := fun_mk (st := s_is_letter) l1 c1 (keep_fn l1)
  have g1 := PySem.W.mg_of X G a1
  have b1 := U1.binds (ps := ["letters", "thing"]) fun _ _ _ _ _ _ us hl => match us, hl with | [_, _], _ => rfl
  have U2 := fun_mk (st := s_is_word) l2 c2 (keep_fn l2)
  have g2 := PySem.W.mg_of X G a2
  have b2 := U2.binds (ps := ["letters", "thing"]) fun _ _ _ _ _ _ us hl => match us, hl with | [_, _], _ => rfl
  have U3 := fun_mk (st := s_is_number) l3 c3 (keep_fn l3)
  have g3 := PySem.W.mg_of X G a3
  have b3 := U3.binds (ps := ["thing"]) fun _ _ _ _ _ _ us hl => match us, hl with | [_], _ => rfl
  have U4 := fun_mk (st := s_is_below) l4 c4 (keep_fn l4)
  have g4 := PySem.W.mg_of X G a4
  have b4 := U4.binds (ps := ["thing", "many"]) fun _ _ _ _ _ _ us hl => match us, hl with | [_, _], _ => rfl
  have U5 := fun_mk (st := s_is_ascending) l5 c5 (keep_fn l5)
  have g5 := PySem.W.mg_of X G a5
  have b5 := U5.binds (ps := ["parts"]) fun _ _ _ _ _ _ us hl => match us, hl with | [_], _ => rfl
  have U6 := fun_mk (st := s_is_fold) l6 c6 (keep_fn l6)
  have g6 := PySem.W.mg_of X G a6
  have b6 := U6.binds (ps := ["letters", "thing"]) fun _ _ _ _ _ _ us hl => match us, hl with | [_, _], _ => rfl
  have U7 := fun_mk (st := s_is_web) l7 c7 (keep_fn l7)
  have g7 := PySem.W.mg_of X G a7
  have b7 := U7.binds (ps := ["letters", "thing"]) fun _ _ _ _ _ _ us hl => match us, hl with | [_, _], _ => rfl
  have U8 := fun_mk (st := s_check_web) l8 c8 (keep_fn l8)
  have g8 := PySem.W.mg_of X G a8
  have b8 := U8.binds (ps := ["letters", "thing"]) fun _ _ _ _ _ _ us hl => match us, hl with | [_, _], _ => rfl
  have U9 := fun_mk (st := s_laid_behind) l9 c9 (keep_fn l9)
  have g9 := PySem.W.mg_of X G a9
  have b9 := U9.binds (ps := ["book", "web", "letter"]) fun _ _ _ _ _ _ us hl => match us, hl with | [_, _, _], _ => rfl
  have U10 := fun_mk (st := s_check_rows) l10 c10 (keep_fn l10)
  have g10 := PySem.W.mg_of X G a10
  have U11 := fun_mk (st := s_check_woven) l11 c11 (keep_fn l11)
  have g11 := PySem.W.mg_of X G a11
  have b11 := U11.binds (ps := ["book", "web", "row"]) fun _ _ _ _ _ _ us hl => match us, hl with | [_, _, _], _ => rfl
  have U12 := fun_mk (st := s_webs_behind) l12 c12 (keep_fn l12)
  have g12 := PySem.W.mg_of X G a12
  have b12 := U12.binds (ps := ["book", "web", "row"]) fun _ _ _ _ _ _ us hl => match us, hl with | [_, _, _], _ => rfl
  have U13 := fun_mk (st := s_webs_along) l13 c13 (keep_fn l13)
  have g13 := PySem.W.mg_of X G a13
  have b13 := U13.binds (ps := ["book", "web", "row"]) fun _ _ _ _ _ _ us hl => match us, hl with | [_, _, _], _ => rfl
  have U14 := fun_mk (st := s__law_deck) l14 c14 (keep_fn l14)
  have g14 := PySem.W.mg_of X G a14
  have b14 := U14.binds (ps := ["_law_script"]) fun _ _ _ _ _ _ us hl => match us, hl with | [_], _ => rfl
  have U15 := fun_mk (st := s__law_draw) l15 c15 (keep_fn l15)
  have g15 := PySem.W.mg_of X G a15
  have b15 := U15.binds (ps := ["_law_deck_here", "_law_many"]) fun _ _ _ _ _ _ us hl => match us, hl with | [_, _], _ => rfl
  have U16 := fun_mk (st := s__law_pick) l16 c16 (keep_fn l16)
  have g16 := PySem.W.mg_of X G a16
  have b16 := U16.binds (ps := ["_law_deck_here", "_law_some"]) fun _ _ _ _ _ _ us hl => match us, hl with | [_, _], _ => rfl
  have U17 := fun_mk (st := s__law_book) l17 c17 (keep_fn l17)
  have g17 := PySem.W.mg_of X G a17
  have b17 := U17.binds (ps := ["_law_deck_here", "_law_signs"]) fun _ _ _ _ _ _ us hl => match us, hl with | [_, _], _ => rfl
  have U18 := fun_mk (st := s__law_code) l18 c18 (keep_fn l18)
  have g18 := PySem.W.mg_of X G a18
  have b18 := U18.binds (ps := ["_law_f"]) fun _ _ _ _ _ _ us hl => match us, hl with | [_], _ => rfl
  have U19 := fun_mk (st := s__law_laid) l19 c19 (keep_fn l19)
  have g19 := PySem.W.mg_of X G a19
  have b19 := U19.binds (ps := ["_law_f", "_law_cloth", "_law_y"]) fun _ _ _ _ _ _ us hl => match us, hl with | [_, _, _], _ => rfl
  have U20 := fun_mk (st := s__law_lays) l20 c20 (keep_fn l20)
  have g20 := PySem.W.mg_of X G a20
  have b20 := U20.binds (ps := ["_law_deck_here", "_law_signs", "_law_most"]) fun _ _ _ _ _ _ us hl => match us, hl with | [_, _, _], _ => rfl
  have U21 := fun_mk (st := s__law_along) l21 c21 (keep_fn l21)
  have g21 := PySem.W.mg_of X G a21
  have b21 := U21.binds (ps := ["_law_f", "_law_cloth", "_law_lays_here"]) fun _ _ _ _ _ _ us hl => match us, hl with | [_, _, _], _ => rfl
  have U22 := fun_mk (st := s__law_made) l22 c22 (keep_fn l22)
  have g22 := PySem.W.mg_of X G a22
  have b22 := U22.binds (ps := ["_law_code_here", "_law_cloth", "_law_lays_here", "_law_is_named"]) fun _ _ _ _ _ _ us hl => match us, hl with | [_, _, _, _], _ => rfl
  have U23 := fun_mk (st := s__law_spot) l23 c23 (keep_fn l23)
  have g23 := PySem.W.mg_of X G a23
  have b23 := U23.binds (ps := ["_law_note", "_law_place_now", "_law_is_named"]) fun _ _ _ _ _ _ us hl => match us, hl with | [_, _, _], _ => rfl
  have U24 := fun_mk (st := s__law_changed) l24 c24 (keep_fn l24)
  have g24 := PySem.W.mg_of X G a24
  have b24 := U24.binds (ps := ["_law_note", "_law_near", "_law_far", "_law_fresh", "_law_is_named"]) fun _ _ _ _ _ _ us hl => match us, hl with | [_, _, _, _, _], _ => rfl
  have U25 := fun_mk (st := s__law_undone) l25 c25 (keep_fn l25)
  have g25 := PySem.W.mg_of X G a25
  have b25 := U25.binds (ps := ["_law_note"]) fun _ _ _ _ _ _ us hl => match us, hl with | [_], _ => rfl
  have U26 := fun_mk (st := s__law_stands) l26 c26 (keep_fn l26)
  have g26 := PySem.W.mg_of X G a26
  have b26 := U26.binds (ps := ["_law_deck_here", "_law_f", "_law_code_here", "_law_note", "_law_cloth", "_law_lays_here"]) fun _ _ _ _ _ _ us hl => match us, hl with | [_, _, _, _, _, _], _ => rfl
  have U27 := fun_mk (st := s__law_due) l27 c27 (keep_fn l27)
  have g27 := PySem.W.mg_of X G a27
  have b27 := U27.binds (ps := ["_law_f", "_law_cloth", "_law_lays_here", "_law_near", "_law_far", "_law_fresh"]) fun _ _ _ _ _ _ us hl => match us, hl with | [_, _, _, _, _, _], _ => rfl
  have U28 := fun_mk (st := s__law_refused) l28 c28 (keep_fn l28)
  have g28 := PySem.W.mg_of X G a28
  have b28 := U28.binds (ps := ["_law_deck_here", "_law_note", "_law_size"]) fun _ _ _ _ _ _ us hl => match us, hl with | [_, _, _], _ => rfl
  have U29 := fun_mk (st := s_law) l29 c29 (keep_fn l29)
  have g29 := PySem.W.mg_of X G a29
  have b29 := U29.binds (ps := ["_law_script"]) fun _ _ _ _ _ _ us hl => match us, hl with | [_], _ => rfl
  have gCB := PySem.W.mg_of X G aB
  have Uinit := fun_mk (st := s_Book___init__) linit cinit (keep_fn linit)
  have binit := Uinit.binds (ps := ["self", "letters", "folds"]) fun _ _ _ _ _ _ us hl => match us, hl with | [_, _, _], _ => rfl
  have Minit : Meth K CB "__init__" finit := ⟨minit.1, minit.2, keep_fn linit⟩
  have Uleft := fun_mk (st := s_Book_left_of) lleft cleft (keep_fn lleft)
  have bleft := Uleft.binds (ps := ["self", "last", "laid"]) fun _ _ _ _ _ _ us hl => match us, hl with | [_, _, _], _ => rfl
  have Mleft : Meth K CB "left_of" fleft := ⟨mleft.1, mleft.2, keep_fn lleft⟩
  have Ubeq := fun_mk (st := s_Book___eq__) lbeq cbeq (keep_fn lbeq)
  have bbeq := Ubeq.binds (ps := ["self", "other"]) fun _ _ _ _ _ _ us hl => match us, hl with | [_, _], _ => rfl
  have Mbeq : Meth K CB "__eq__" fbeq := ⟨mbeq.1, mbeq.2, keep_fn lbeq⟩
  have gCN := PySem.W.mg_of X G aN
  have Uwini := fun_mk (st := s_Weaving___init__) lwini cwini (keep_fn lwini)
  have bwini := Uwini.binds (ps := ["self", "book", "web", "row"]) fun _ _ _ _ _ _ us hl => match us, hl with | [_, _, _, _], _ => rfl
  have Mwini : Meth K CN "__init__" fwini := ⟨mwini.1, mwini.2, keep_fn lwini⟩
  have Uwlen := fun_mk (st := s_Weaving___len__) lwlen cwlen (keep_fn lwlen)
  have bwlen := Uwlen.binds (ps := ["self"]) fun _ _ _ _ _ _ us hl => match us, hl with | [_], _ => rfl
  have Mwlen : Meth K CN "__len__" fwlen := ⟨mwlen.1, mwlen.2, keep_fn lwlen⟩
  have Uwat := fun_mk (st := s_Weaving_web_at) lwat cwat (keep_fn lwat)
  have bwat := Uwat.binds (ps := ["self", "place"]) fun _ _ _ _ _ _ us hl => match us, hl with | [_, _], _ => rfl
  have Mwat : Meth K CN "web_at" fwat := ⟨mwat.1, mwat.2, keep_fn lwat⟩
  have Uwpl := fun_mk (st := s_Weaving_check_place) lwpl cwpl (keep_fn lwpl)
  have bwpl := Uwpl.binds (ps := ["self", "thing", "least"]) fun _ _ _ _ _ _ us hl => match us, hl with | [_, _, _], _ => rfl
  have Mwpl : Meth K CN "check_place" fwpl := ⟨mwpl.1, mwpl.2, keep_fn lwpl⟩
  have Uwch := fun_mk (st := s_Weaving_change) lwch cwch (keep_fn lwch)
  have bwch := Uwch.binds (ps := ["self", "start", "end", "letters"]) fun _ _ _ _ _ _ us hl => match us, hl with | [_, _, _, _], _ => rfl
  have Mwch : Meth K CN "change" fwch := ⟨mwch.1, mwch.2, keep_fn lwch⟩
  have Uwun := fun_mk (st := s_Weaving_undo) lwun cwun (keep_fn lwun)
  have bwun := Uwun.binds (ps := ["self"]) fun _ _ _ _ _ _ us hl => match us, hl with | [_], _ => rfl
  have Mwun : Meth K CN "undo" fwun := ⟨mwun.1, mwun.2, keep_fn lwun⟩
  have gCW := PySem.W.mg_of X G aW
  have YW : ClsF K CM CW := ⟨xW, gaW, ggW, caW⟩
  have TW : MqE_thing.Txt K mg "BadWeb" "BadWeb.__init__" CW FW := ⟨gCW, YW.at_.keep, YW.at_.init, YW.at_.over, YW.at_.has, NoAttr.taker ntW, wsW, wiW, (by simp [PySem.W.typeIn, lEW]), YW.base, YW.at_.ty, _, _, _, _, _, _, _, _, _, _, _, _, _, _, lEW, cEW⟩
  have gCV := PySem.W.mg_of X G aV
  have YV : ClsF K CM CV := ⟨xV, gaV, ggV, caV⟩
  have TV : MqE_thing.Txt K mg "BadRow" "BadRow.__init__" CV FV := ⟨gCV, YV.at_.keep, YV.at_.init, YV.at_.over, YV.at_.has, NoAttr.taker ntV, wsV, wiV, (by simp [PySem.W.typeIn, lEV]), YV.base, YV.at_.ty, _, _, _, _, _, _, _, _, _, _, _, _, _, _, lEV, cEV⟩
  have gCZ := PySem.W.mg_of X G aZ
  have YZ : ClsF K CM CZ := ⟨xZ, gaZ, ggZ, caZ⟩
  have TZ : MqE_place.Txt K mg "BadPlace" "BadPlace.__init__" CZ FZ := ⟨gCZ, YZ.at_.keep, YZ.at_.init, YZ.at_.over, YZ.at_.has, NoAttr.taker ntZ, wsZ, wiZ, (by simp [PySem.W.typeIn, lEZ]), YZ.base, YZ.at_.ty, _, _, _, _, _, _, _, _, _, _, _, _, _, _, lEZ, cEZ⟩
  have gCU := PySem.W.mg_of X G aU
  have YU : ClsF K CM CU := ⟨xU, gaU, ggU, caU⟩
  have Uq1 := fun_mk (st := s_Weaving_row_now) lq1 cq1 (keep_fn lq1)
  have bq1 := Uq1.binds (ps := ["self"]) fun _ _ _ _ _ _ us hl => match us, hl with | [_], _ => rfl
  have Uq2 := fun_mk (st := s_Weaving_web_now) lq2 cq2 (keep_fn lq2)
  have bq2 := Uq2.binds (ps := ["self"]) fun _ _ _ _ _ _ us hl => match us, hl with | [_], _ => rfl
  refine ⟨PySem.W.fnOf "law" "law" (defArgs s_law) (defBody s_law) (defScope s_law) .none kV29 dc29 pm29 an29 cd29 ct29, fun s u => .of_eq rfl, fun base _ _ => ?_⟩
  have R : BkC K CB := ⟨⟨owB.1, owB.2.1, owB.2.2.1, saB⟩, nB_letters, nB_folds, nB_table⟩
  have MK : Mk K CB finit := ⟨owB.2.2.2.1, minit.1, minit.2, owB.2.2.2.2⟩
  have IB : BkIs K CB := ⟨caB, sp, tk, moB, kiB⟩
  have WC : WvC K CN := ⟨⟨owN.1, owN.2.1, owN.2.2.1, saN⟩, nN_book, nN_web, nN_row, nN_webs, nN_before⟩
  have MKN : Mk K CN fwini := ⟨owN.2.2.2.1, mwini.1, mwini.2, owN.2.2.2.2⟩
  have NI : NtIs K CN := ⟨caN, sp, tk, moN, ktN_list⟩
  have EW : ErrT K mg "BadWeb" "BadWeb.__init__" CW CM FW := ⟨TW, YW.xf, ntW, YW.held sp tk, PySem.W.mg_of X G aM, YW.at_.mill mill.1 mill.2, exm_own YW⟩
  have EV : ErrT K mg "BadRow" "BadRow.__init__" CV CM FV := ⟨TV, YV.xf, ntV, YV.held sp tk, PySem.W.mg_of X G aM, YV.at_.mill mill.1 mill.2, exm_own YV⟩
  have EZ : ErrTP K mg "BadPlace" "BadPlace.__init__" CZ CM FZ := ⟨TZ, YZ.xf, ntZ, YZ.held sp tk, PySem.W.mg_of X G aM, YZ.at_.mill mill.1 mill.2, exm_own YZ⟩
  have BT : BareT K mg "NothingToUndo" CU := ⟨exU, gCU, YU.at_.keep, YU.base, YU.at_.ty⟩
  obtain ⟨tA, aA⟩ := t_ALPHABET
  obtain ⟨tM, aMo⟩ := i_MOST_LETTERS
  have kI : KBn K _ ["self", "book", "web", "row"] 1 ["row", "web", "book"] revA revA := kbn_m3 Uwini fun _ _ _ _ _ _ _ _ _ _ => rfl
  have kA : KBn K _ ["self", "place"] 1 ["place"] revA revA := kbn_m1 Uwat fun _ _ _ _ _ _ _ _ => rfl
  have kC : KBn K _ ["self", "start", "end", "letters"] 1 ["letters", "end", "start"] revA revA := kbn_m3 Uwch fun _ _ _ _ _ _ _ _ _ _ => rfl
  have Glets : FnOk P w K mg base CX0 2 f0 _ ["thing"] (spLetters K) := ok_is_letters U0 B U5 g5 b5 ⟨tA, PySem.W.mg_of X G aA⟩
  have Gword : FnOk P w K mg base CX0 1 f2 _ ["letters", "thing"] (spWord K) := ok_is_word U2 B
  have Gfold : FnOk P w K mg base CX0 2 f6 _ ["letters", "thing"] (spFold K) := ok_is_fold U6 B U1 g1 b1
  have Gweb : FnOk P w K mg base CX0 2 f7 _ ["letters", "thing"] (spWord K) := ok_is_web U7 B U2 g2 b2
  have Gche : FnOk P w K mg base (L2.CX P w) 3 f8 _ ["letters", "thing"] (spCheck K CW) := ok_check_web U8 B U7 g7 b7 Gweb TW
  have Gini : FnOk P w K mg base CX0 3 finit _ ["self", "letters", "folds"] (spBook K CB) := ok_book Uinit B R U0 g0 b0 Glets U6 g6 b6 Gfold
  have Gbeh : FnOk P w K mg base CX0 2 f9 _ ["book", "web", "letter"] (spBehind CB) := ok_behind U9 R Uleft Mleft bleft
  have Grow : FnR P w K mg base (L2.CX P w) 3 f10 (spRows K CB CV) := ok_check_rows U10 B R U2 g2 b2 Gword TV
  have Gwov : FnOk P w K mg base (L2.CX P w) 4 f11 _ ["book", "web", "row"] (spWoven K CB CW CV) := ok_check_woven U11 R U8 g8 b8 Gche U10 g10 Grow
  have Gwbe : FnOk P w K mg base CX0 3 f12 _ ["book", "web", "row"] (spWebs CB) := ok_webs_behind U12 U9 g9 b9 Gbeh
  have Gwal : FnOk P w K mg base (L2.CX P w) 5 f13 _ ["book", "web", "row"] (spAns K CB CW CV 0) := ok_webs_along U13 B U11 g11 b11 Gwov U12 g12 b12 Gwbe
  have Gnum : FnOk P w K mg base CX0 1 f3 _ ["thing"] (spNum K) := ok_is_number U3 B
  have Gbel : FnOk P w K mg base CX0 2 f4 _ ["thing", "many"] (spBelow K) := ok_is_below U4 U3 g3 b3 Gnum
  have Gbeq : FnOk P w K mg base CX0 1 fbeq _ ["self", "other"] (spSame K CB) := ok_same Ubeq B R IB gCB
  have Gwle : FnOk P w K mg base CX0 1 fwlen _ ["self"] (spLenW K CN) := ok_lenW Uwlen B WC
  have Grn : FnOk P w K mg base CX0 1 fq1 _ ["self"] (spNow K CN) := ok_rowNow Uq1 WC
  have Gwn : FnOk P w K mg base CX0 1 fq2 _ ["self"] (spWebNow K CN) := ok_webNow Uq2 WC
  have Gpl : FnOk P w K mg base (L2.CX P w) 3 fwpl _ ["self", "thing", "least"] (spPlace K CN CZ) := ok_place Uwpl B WC U4 g4 b4 Gbel TZ
  have Gat : FnOk P w K mg base (L2.CX P w) 4 fwat _ ["self", "place"] (spWebAt K CN CZ) := ok_webAt Uwat WC Mwpl bwpl Gpl
  have Gwin : FnOk P w K mg base (L2.CX P w) 5 fwini _ ["self", "book", "web", "row"] (spInitW K CB CN CW CV) := ok_initW Uwini WC U11 g11 b11 Gwov U12 g12 b12 Gwbe
  have Gund : FnOk P w K mg base (L2.CX P w) 1 fwun _ ["self"] (spUndo K CN CU) := ok_undo Uwun WC BT
  have Gchg : FnOk P w K mg base (L2.CX P w) 4 fwch _ ["self", "start", "end", "letters"] (spChange K CB CN CZ CV) := ok_change Uwch B WC R Mwpl bwpl Gpl U2 g2 b2 Gword U12 g12 b12 Gwbe U9 g9 b9 Gbeh ⟨tM, PySem.W.mg_of X G aMo⟩ TV
  have Gdec : FnOk P w K mg base CX0 1 f14 _ ["_law_script"] (spDeck K) := ok_deck U14 B
  have Gdra : FnOk P w K mg base CX0 1 f15 _ ["_law_deck_here", "_law_many"] spDraw := ok_draw U15 B
  have Gpic : FnOk P w K mg base CX0 2 f16 _ ["_law_deck_here", "_law_some"] spPick := ok_pick U16 B U15 g15 b15
  have Gboo : FnOk P w K mg base CX0 3 f17 _ ["_law_deck_here", "_law_signs"] spBookL := ok_law_book U17 U15 g15 b15 Gdra U16 g16 b16 Gpic
  have Gcod : FnOk P w K mg base CX0 5 f18 _ ["_law_f"] (spCode K CB) := ok_code U18 B n_sorted gCB MK binit Gini
  have Glay : FnOk P w K mg base CX0 3 f20 _ ["_law_deck_here", "_law_signs", "_law_most"] spLays := ok_lays U20 B U15 g15 b15 Gdra U16 g16 b16 Gpic
  have Gldl : FnOk P w K mg base CX0 1 f19 _ ["_law_f", "_law_cloth", "_law_y"] spLaidL := ok_laidL U19
  have Galo : FnOk P w K mg base CX0 2 f21 _ ["_law_f", "_law_cloth", "_law_lays_here"] spAlongL := ok_alongL U21 U19 g19 b19 Gldl
  have Gdue : FnOk P w K mg base CX0 3 f27 _ ["_law_f", "_law_cloth", "_law_lays_here", "_law_near", "_law_far", "_law_fresh"] spDue := ok_due U27 B U21 g21 b21 Galo
  have Gmad : FnG P w K mg base CX0 7 f22 _ ["_law_code_here", "_law_cloth", "_law_lays_here", "_law_is_named"] (spMadeW K CB CN) := ok_made U22 B EW EV noVW MKN gCN bwini kI Gwin
  have Gspo : FnG P w K mg base CX0 5 f23 _ ["_law_note", "_law_place_now", "_law_is_named"] (spSpot K CN) := ok_spot U23 B WC EZ Mwat bwat kA Gat
  have Gcha : FnG P w K mg base CX0 5 f24 _ ["_law_note", "_law_near", "_law_far", "_law_fresh", "_law_is_named"] (spChanged K CB CN) := ok_changed U24 WC EZ EV noVZ Mwch bwch kC Gchg
  have Gudn : FnG P w K mg base CX0 2 f25 _ ["_law_note"] (spUndone K CN) := ok_undone U25 WC BT (exm_own YU) Mwun bwun Gund
  have Gsta : FnG P w K mg base CX0 6 f26 _ ["_law_deck_here", "_law_f", "_law_code_here", "_law_note", "_law_cloth", "_law_lays_here"] (spStands K CB CN) := ok_stands U26 B WC U21 g21 b21 Galo U15 g15 b15 Gdra U16 g16 b16 Gpic U13 g13 b13 Gwal U23 g23 b23 Gspo prq1 bq1 Grn prq2 bq2 Gwn Mwlen bwlen Gwle Mbeq bbeq Gbeq
  have Gref : FnG P w K mg base CX0 6 f28 _ ["_law_deck_here", "_law_note", "_law_size"] (spRefused K CB CN) := ok_refused U28 B U15 g15 b15 Gdra U16 g16 b16 Gpic U24 g24 b24 Gcha
  exact ok_law U29 B n_min WC NI U14 g14 b14 Gdec U15 g15 b15 Gdra U16 g16 b16 Gpic U17 g17 b17 Gboo U18 g18 b18 Gcod U20 g20 b20 Glay U22 g22 b22 Gmad U25 g25 b25 Gudn U27 g27 b27 Gdue U24 g24 b24 Gcha U26 g26 b26 Gsta U28 g28 b28 Gref prq1 bq1 Grn
end Lw

namespace Lw
open PySem PySem.Spec PyProof.Rows L2 Mq
open SX (S)
def fnL : List He.FnD := [⟨("Book", some "__init__"), "__init__", "Book.__init__", defArgs s_Book___init__, defBody s_Book___init__, defScope s_Book___init__⟩,
  ⟨("Book", some "left_of"), "left_of", "Book.left_of", defArgs s_Book_left_of, defBody s_Book_left_of, defScope s_Book_left_of⟩,
  ⟨("Book", some "__eq__"), "__eq__", "Book.__eq__", defArgs s_Book___eq__, defBody s_Book___eq__, defScope s_Book___eq__⟩,
  ⟨("Weaving", some "__init__"), "__init__", "Weaving.__init__", defArgs s_Weaving___init__, defBody s_Weaving___init__, defScope s_Weaving___init__⟩,
  ⟨("Weaving", some "__len__"), "__len__", "Weaving.__len__", defArgs s_Weaving___len__, defBody s_Weaving___len__, defScope s_Weaving___len__⟩,
  ⟨("Weaving", some "web_at"), "web_at", "Weaving.web_at", defArgs s_Weaving_web_at, defBody s_Weaving_web_at, defScope s_Weaving_web_at⟩,
  ⟨("Weaving", some "check_place"), "check_place", "Weaving.check_place", defArgs s_Weaving_check_place, defBody s_Weaving_check_place, defScope s_Weaving_check_place⟩,
  ⟨("Weaving", some "change"), "change", "Weaving.change", defArgs s_Weaving_change, defBody s_Weaving_change, defScope s_Weaving_change⟩,
  ⟨("Weaving", some "undo"), "undo", "Weaving.undo", defArgs s_Weaving_undo, defBody s_Weaving_undo, defScope s_Weaving_undo⟩,
  ⟨("BadWeb", some "__init__"), "__init__", "BadWeb.__init__", MqE_thing.iA ⟨14, 17, 14, 21⟩ ⟨14, 23, 14, 28⟩, MqE_thing.iB ⟨15, 8, 15, 12⟩ ⟨15, 8, 15, 18⟩ ⟨15, 21, 15, 26⟩ ⟨15, 8, 15, 26⟩, MqE_thing.iS⟩,
  ⟨("BadRow", some "__init__"), "__init__", "BadRow.__init__", MqE_thing.iA ⟨20, 17, 20, 21⟩ ⟨20, 23, 20, 28⟩, MqE_thing.iB ⟨21, 8, 21, 12⟩ ⟨21, 8, 21, 18⟩ ⟨21, 21, 21, 26⟩ ⟨21, 8, 21, 26⟩, MqE_thing.iS⟩,
  ⟨("BadPlace", some "__init__"), "__init__", "BadPlace.__init__", MqE_place.iA ⟨24, 17, 24, 21⟩ ⟨24, 23, 24, 28⟩, MqE_place.iB ⟨25, 8, 25, 12⟩ ⟨25, 8, 25, 18⟩ ⟨25, 21, 25, 26⟩ ⟨25, 8, 25, 26⟩, MqE_place.iS⟩,
  ⟨("is_letters", none), "is_letters", "is_letters", defArgs s_is_letters, defBody s_is_letters, defScope s_is_letters⟩,
  ⟨("is_letter", none), "is_letter", "is_letter", defArgs s_is_letter, defBody s_is_letter, defScope s_is_letter⟩,
  ⟨("is_word", none), "is_word", "is_word", defArgs s_is_word, defBody s_is_word, defScope s_is_word⟩,
  ⟨("is_number", none), "is_number", "is_number", defArgs s_is_number, defBody s_is_number, defScope s_is_number⟩,
  ⟨("is_below", none), "is_below", "is_below", defArgs s_is_below, defBody s_is_below, defScope s_is_below⟩,
  ⟨("is_ascending", none), "is_ascending", "is_ascending", defArgs s_is_ascending, defBody s_is_ascending, defScope s_is_ascending⟩,
  ⟨("is_fold", none), "is_fold", "is_fold", defArgs s_is_fold, defBody s_is_fold, defScope s_is_fold⟩,
  ⟨("is_web", none), "is_web", "is_web", defArgs s_is_web, defBody s_is_web, defScope s_is_web⟩,
  ⟨("check_web", none), "check_web", "check_web", defArgs s_check_web, defBody s_check_web, defScope s_check_web⟩,
  ⟨("laid_behind", none), "laid_behind", "laid_behind", defArgs s_laid_behind, defBody s_laid_behind, defScope s_laid_behind⟩,
  ⟨("check_rows", none), "check_rows", "check_rows", defArgs s_check_rows, defBody s_check_rows, defScope s_check_rows⟩,
  ⟨("check_woven", none), "check_woven", "check_woven", defArgs s_check_woven, defBody s_check_woven, defScope s_check_woven⟩,
  ⟨("webs_behind", none), "webs_behind", "webs_behind", defArgs s_webs_behind, defBody s_webs_behind, defScope s_webs_behind⟩,
  ⟨("webs_along", none), "webs_along", "webs_along", defArgs s_webs_along, defBody s_webs_along, defScope s_webs_along⟩,
  ⟨("_law_deck", none), "_law_deck", "_law_deck", defArgs s__law_deck, defBody s__law_deck, defScope s__law_deck⟩,
  ⟨("_law_draw", none), "_law_draw", "_law_draw", defArgs s__law_draw, defBody s__law_draw, defScope s__law_draw⟩,
  ⟨("_law_pick", none), "_law_pick", "_law_pick", defArgs s__law_pick, defBody s__law_pick, defScope s__law_pick⟩,
  ⟨("_law_book", none), "_law_book", "_law_book", defArgs s__law_book, defBody s__law_book, defScope s__law_book⟩,
  ⟨("_law_code", none), "_law_code", "_law_code", defArgs s__law_code, defBody s__law_code, defScope s__law_code⟩,
  ⟨("_law_laid", none), "_law_laid", "_law_laid", defArgs s__law_laid, defBody s__law_laid, defScope s__law_laid⟩,
  ⟨("_law_lays", none), "_law_lays", "_law_lays", defArgs s__law_lays, defBody s__law_lays, defScope s__law_lays⟩,
  ⟨("_law_along", none), "_law_along", "_law_along", defArgs s__law_along, defBody s__law_along, defScope s__law_along⟩,
  ⟨("_law_made", none), "_law_made", "_law_made", defArgs s__law_made, defBody s__law_made, defScope s__law_made⟩,
  ⟨("_law_spot", none), "_law_spot", "_law_spot", defArgs s__law_spot, defBody s__law_spot, defScope s__law_spot⟩,
  ⟨("_law_changed", none), "_law_changed", "_law_changed", defArgs s__law_changed, defBody s__law_changed, defScope s__law_changed⟩,
  ⟨("_law_undone", none), "_law_undone", "_law_undone", defArgs s__law_undone, defBody s__law_undone, defScope s__law_undone⟩,
  ⟨("_law_stands", none), "_law_stands", "_law_stands", defArgs s__law_stands, defBody s__law_stands, defScope s__law_stands⟩,
  ⟨("_law_due", none), "_law_due", "_law_due", defArgs s__law_due, defBody s__law_due, defScope s__law_due⟩,
  ⟨("_law_refused", none), "_law_refused", "_law_refused", defArgs s__law_refused, defBody s__law_refused, defScope s__law_refused⟩,
  ⟨("law", none), "law", "law", defArgs s_law, defBody s_law, defScope s_law⟩]
def fs0 : List (PySem.W.Frag → Bool) := [fGlo "MillError",
  fMill,
  fSp,
  fTk,
  fGlo "Book",
  fOwn "Book",
  fFind "Book" "__setattr__" (some (.builtin "object.__setattr__")),
  fFind "Book" "__class__" (some (.builtin "object.__class__")),
  fMro "Book",
  fKit "Book" "Book" true,
  fFind "Book" "letters" none,
  fFind "Book" "folds" none,
  fFind "Book" "table" none,
  fMeth "Book" "__init__",
  fMeth "Book" "left_of",
  fMeth "Book" "__eq__",
  fGlo "Weaving",
  fOwn "Weaving",
  fFind "Weaving" "__setattr__" (some (.builtin "object.__setattr__")),
  fFind "Weaving" "__class__" (some (.builtin "object.__class__")),
  fMro "Weaving",
  fKit "Weaving" "Weaving" true,
  fFind "Weaving" "book" none,
  fFind "Weaving" "web" none,
  fFind "Weaving" "row" none,
  fFind "Weaving" "webs" none,
  fFind "Weaving" "before" none,
  fMeth "Weaving" "__init__",
  fMeth "Weaving" "__len__",
  fMeth "Weaving" "web_at"]
def fs1 : List (PySem.W.Frag → Bool) := [fMeth "Weaving" "check_place",
  fMeth "Weaving" "change",
  fMeth "Weaving" "undo",
  fGlo "BadWeb",
  fCls "BadWeb",
  fFind "BadWeb" "__getattribute__" (some (.builtin "BaseException.__getattribute__")),
  fFind "BadWeb" "__getattr__" none,
  fFind "BadWeb" "__class__" (some (.builtin "object.__class__")),
  fFind "BadWeb" "__setattr__" (some (.builtin "object.__setattr__")),
  fFind "BadWeb" "thing" none,
  fInit "BadWeb",
  fFn "BadWeb",
  fGlo "BadRow",
  fCls "BadRow",
  fFind "BadRow" "__getattribute__" (some (.builtin "BaseException.__getattribute__")),
  fFind "BadRow" "__getattr__" none,
  fFind "BadRow" "__class__" (some (.builtin "object.__class__")),
  fFind "BadRow" "__setattr__" (some (.builtin "object.__setattr__")),
  fFind "BadRow" "thing" none,
  fInit "BadRow",
  fFn "BadRow",
  fGlo "BadPlace",
  fCls "BadPlace",
  fFind "BadPlace" "__getattribute__" (some (.builtin "BaseException.__getattribute__")),
  fFind "BadPlace" "__getattr__" none,
  fFind "BadPlace" "__class__" (some (.builtin "object.__class__")),
  fFind "BadPlace" "__setattr__" (some (.builtin "object.__setattr__")),
  fFind "BadPlace" "place" none,
  fInit "BadPlace",
  fFn "BadPlace"]
def fs2 : List (PySem.W.Frag → Bool) := [fGlo "NothingToUndo",
  fCls "NothingToUndo",
  fFind "NothingToUndo" "__getattribute__" (some (.builtin "BaseException.__getattribute__")),
  fFind "NothingToUndo" "__getattr__" none,
  fFind "NothingToUndo" "__class__" (some (.builtin "object.__class__")),
  fExc "NothingToUndo",
  fProp "Weaving" "row_now",
  fPrc "Weaving" "row_now" "Weaving.row_now",
  fProp "Weaving" "web_now",
  fPrc "Weaving" "web_now" "Weaving.web_now",
  fInt "MOST_LETTERS" 200,
  fKitT "Weaving" "list" false,
  fExm "BadRow" "BadWeb" false,
  fExm "BadRow" "BadPlace" false,
  fGlo "is_letters",
  fGlo "is_letter",
  fGlo "is_word",
  fGlo "is_number",
  fGlo "is_below",
  fGlo "is_ascending",
  fGlo "is_fold",
  fGlo "is_web",
  fGlo "check_web",
  fGlo "laid_behind",
  fGlo "check_rows",
  fGlo "check_woven",
  fGlo "webs_behind",
  fGlo "webs_along",
  fGlo "_law_deck",
  fGlo "_law_draw"]
def fs3 : List (PySem.W.Frag → Bool) := [fGlo "_law_pick",
  fGlo "_law_book",
  fGlo "_law_code",
  fGlo "_law_laid",
  fGlo "_law_lays",
  fGlo "_law_along",
  fGlo "_law_made",
  fGlo "_law_spot",
  fGlo "_law_changed",
  fGlo "_law_undone",
  fGlo "_law_stands",
  fGlo "_law_due",
  fGlo "_law_refused",
  fGlo "law",
  fFree "len",
  fFree "range",
  fFree "isinstance",
  fFree "all",
  fFree "any",
  fFree "int",
  fFree "str",
  fFree "bool",
  fFree "tuple",
  fFree "list",
  fFree "repr",
  fFree "enumerate",
  fFree "sorted",
  fFree "min",
  fTxt "ALPHABET" "abcdefghijklmnopqrstuvwxyz"]
def fsL : List (PySem.W.Frag → Bool) := fs0 ++ fs1 ++ fs2 ++ fs3
def prL : List He.FnD := [⟨("Weaving", some "row_now"), "row_now", "Weaving.row_now", defArgs s_Weaving_row_now, defBody s_Weaving_row_now, defScope s_Weaving_row_now⟩,
  ⟨("Weaving", some "web_now"), "web_now", "Weaving.web_now", defArgs s_Weaving_web_now, defBody s_Weaving_web_now, defScope s_Weaving_web_now⟩]
theorem facts {P : Program} {w : World} {K : PySem.W.Frag} {h : Heap} {mg : Str → Option Value} {fa : Addr} (X : K.In h) (G : h.Ns mainGlobals mg) (hfa : mg ("law" : Str) = some (.ref fa)) (c : He.SaysE [] fnL K) (hx : exB fsL K = true) (hp : prL.map (fun d => prObs K d.at_) = prL.map He.FnD.val) :
    ∃ fd : FuncData, (∀ (s : Shared) (u : Value), BindsTo s fd ⟨[u], []⟩ [("_law_script", u)]) ∧ ∀ base : Heap, K.In base → base.Ns mainGlobals mg → FnG P w K mg base CX0 8 fa fd ["_law_script"] (spLaw K) := by
  obtain ⟨_, _, _, _, _, _, _, _, _, linit, cinit⟩ := c.def_ 0 rfl
  obtain ⟨_, _, _, _, _, _, _, _, _, lleft, cleft⟩ := c.def_ 1 rfl
  obtain ⟨_, _, _, _, _, _, _, _, _, lbeq, cbeq⟩ := c.def_ 2 rfl
  obtain ⟨_, _, _, _, _, _, _, _, _, lwini, cwini⟩ := c.def_ 3 rfl
  obtain ⟨_, _, _, _, _, _, _, _, _, lwlen, cwlen⟩ := c.def_ 4 rfl
  obtain ⟨_, _, _, _, _, _, _, _, _, lwat, cwat⟩ := c.def_ 5 rfl
  obtain ⟨_, _, _, _, _, _, _, _, _, lwpl, cwpl⟩ := c.def_ 6 rfl
  obtain ⟨_, _, _, _, _, _, _, _, _, lwch, cwch⟩ := c.def_ 7 rfl
  obtain ⟨_, _, _, _, _, _, _, _, _, lwun, cwun⟩ := c.def_ 8 rfl
  obtain ⟨_, _, _, _, _, _, _, _, _, lEW, cEW⟩ := c.def_ 9 rfl
  obtain ⟨rfl, rfl⟩ := fnB_ok (exAt hx 41 (f := fFn "BadWeb") rfl) lEW
  obtain ⟨_, _, _, _, _, _, _, _, _, lEV, cEV⟩ := c.def_ 10 rfl
  obtain ⟨rfl, rfl⟩ := fnB_ok (exAt hx 50 (f := fFn "BadRow") rfl) lEV
  obtain ⟨_, _, _, _, _, _, _, _, _, lEZ, cEZ⟩ := c.def_ 11 rfl
  obtain ⟨rfl, rfl⟩ := fnB_ok (exAt hx 59 (f := fFn "BadPlace") rfl) lEZ
  obtain ⟨_, _, _, _, _, _, _, _, _, l0, c0⟩ := c.def_ 12 rfl
  obtain ⟨_, _, _, _, _, _, _, _, _, l1, c1⟩ := c.def_ 13 rfl
  obtain ⟨_, _, _, _, _, _, _, _, _, l2, c2⟩ := c.def_ 14 rfl
  obtain ⟨_, _, _, _, _, _, _, _, _, l3, c3⟩ := c.def_ 15 rfl
  obtain ⟨_, _, _, _, _, _, _, _, _, l4, c4⟩ := c.def_ 16 rfl
  obtain ⟨_, _, _, _, _, _, _, _, _, l5, c5⟩ := c.def_ 17 rfl
  obtain ⟨_, _, _, _, _, _, _, _, _, l6, c6⟩ := c.def_ 18 rfl
  obtain ⟨_, _, _, _, _, _, _, _, _, l7, c7⟩ := c.def_ 19 rfl
  obtain ⟨_, _, _, _, _, _, _, _, _, l8, c8⟩ := c.def_ 20 rfl
  obtain ⟨_, _, _, _, _, _, _, _, _, l9, c9⟩ := c.def_ 21 rfl
  obtain ⟨_, _, _, _, _, _, _, _, _, l10, c10⟩ := c.def_ 22 rfl
  obtain ⟨_, _, _, _, _, _, _, _, _, l11, c11⟩ := c.def_ 23 rfl
  obtain ⟨_, _, _, _, _, _, _, _, _, l12, c12⟩ := c.def_ 24 rfl
  obtain ⟨_, _, _, _, _, _, _, _, _, l13, c13⟩ := c.def_ 25 rfl
  obtain ⟨_, _, _, _, _, _, _, _, _, l14, c14⟩ := c.def_ 26 rfl
  obtain ⟨_, _, _, _, _, _, _, _, _, l15, c15⟩ := c.def_ 27 rfl
  obtain ⟨_, _, _, _, _, _, _, _, _, l16, c16⟩ := c.def_ 28 rfl
  obtain ⟨_, _, _, _, _, _, _, _, _, l17, c17⟩ := c.def_ 29 rfl
  obtain ⟨_, _, _, _, _, _, _, _, _, l18, c18⟩ := c.def_ 30 rfl
  obtain ⟨_, _, _, _, _, _, _, _, _, l19, c19⟩ := c.def_ 31 rfl
  obtain ⟨_, _, _, _, _, _, _, _, _, l20, c20⟩ := c.def_ 32 rfl
  obtain ⟨_, _, _, _, _, _, _, _, _, l21, c21⟩ := c.def_ 33 rfl
  obtain ⟨_, _, _, _, _, _, _, _, _, l22, c22⟩ := c.def_ 34 rfl
  obtain ⟨_, _, _, _, _, _, _, _, _, l23, c23⟩ := c.def_ 35 rfl
  obtain ⟨_, _, _, _, _, _, _, _, _, l24, c24⟩ := c.def_ 36 rfl
  obtain ⟨_, _, _, _, _, _, _, _, _, l25, c25⟩ := c.def_ 37 rfl
  obtain ⟨_, _, _, _, _, _, _, _, _, l26, c26⟩ := c.def_ 38 rfl
  obtain ⟨_, _, _, _, _, _, _, _, _, l27, c27⟩ := c.def_ 39 rfl
  obtain ⟨_, _, _, _, _, _, _, _, _, l28, c28⟩ := c.def_ 40 rfl
  obtain ⟨_, _, _, _, _, _, _, _, _, l29, c29⟩ := c.def_ 41 rfl
  obtain ⟨_, _, _, _, _, _, _, _, _, lq1⟩ := prop_def hp 0 rfl
  have cq1 := prc_of (exAt hx 67 (f := fPrc "Weaving" "row_now" "Weaving.row_now") rfl) lq1
  obtain ⟨_, _, _, _, _, _, _, _, _, lq2⟩ := prop_def hp 1 rfl
  have cq2 := prc_of (exAt hx 69 (f := fPrc "Weaving" "web_now" "Weaving.web_now") rfl) lq2
  exact all_mk X G hfa (glo_of (exAt hx 0 (f := fGlo "MillError") rfl)) (mill_of (exAt hx 1 (f := fMill) rfl)) (sp_of (exAt hx 2 (f := fSp) rfl)) (tk_of (exAt hx 3 (f := fTk) rfl)) (glo_of (exAt hx 4 (f := fGlo "Book") rfl)) (own_of (exAt hx 5 (f := fOwn "Book") rfl)) (find_of (exAt hx 6 (f := fFind "Book" "__setattr__" (some (.builtin "object.__setattr__"))) rfl)) (find_of (exAt hx 7 (f := fFind "Book" "__class__" (some (.builtin "object.__class__"))) rfl)) (mro_of (exAt hx 8 (f := fMro "Book") rfl)) (kit_of (exAt hx 9 (f := fKit "Book" "Book" true) rfl)) (find_of (exAt hx 10 (f := fFind "Book" "letters" none) rfl)) (find_of (exAt hx 11 (f := fFind "Book" "folds" none) rfl)) (find_of (exAt hx 12 (f := fFind "Book" "table" none) rfl)) (meth_of (exAt hx 13 (f := fMeth "Book" "__init__") rfl)) linit cinit (meth_of (exAt hx 14 (f := fMeth "Book" "left_of") rfl)) lleft cleft (meth_of (exAt hx 15 (f := fMeth "Book" "__eq__") rfl)) lbeq cbeq (glo_of (exAt hx 16 (f := fGlo "Weaving") rfl)) (own_of (exAt hx 17 (f := fOwn "Weaving") rfl)) (find_of (exAt hx 18 (f := fFind "Weaving" "__setattr__" (some (.builtin "object.__setattr__"))) rfl)) (find_of (exAt hx 19 (f := fFind "Weaving" "__class__" (some (.builtin "object.__class__"))) rfl)) (mro_of (exAt hx 20 (f := fMro "Weaving") rfl)) (kit_of (exAt hx 21 (f := fKit "Weaving" "Weaving" true) rfl)) (find_of (exAt hx 22 (f := fFind "Weaving" "book" none) rfl)) (find_of (exAt hx 23 (f := fFind "Weaving" "web" none) rfl)) (find_of (exAt hx 24 (f := fFind "Weaving" "row" none) rfl)) (find_of (exAt hx 25 (f := fFind "Weaving" "webs" none) rfl)) (find_of (exAt hx 26 (f := fFind "Weaving" "before" none) rfl)) (meth_of (exAt hx 27 (f := fMeth "Weaving" "__init__") rfl)) lwini cwini (meth_of (exAt hx 28 (f := fMeth "Weaving" "__len__") rfl)) lwlen cwlen (meth_of (exAt hx 29 (f := fMeth "Weaving" "web_at") rfl)) lwat cwat (meth_of (exAt hx 30 (f := fMeth "Weaving" "check_place") rfl)) lwpl cwpl (meth_of (exAt hx 31 (f := fMeth "Weaving" "change") rfl)) lwch cwch (meth_of (exAt hx 32 (f := fMeth "Weaving" "undo") rfl)) lwun cwun (glo_of (exAt hx 33 (f := fGlo "BadWeb") rfl)) (cls_of (exAt hx 34 (f := fCls "BadWeb") rfl)) (find_of (exAt hx 35 (f := fFind "BadWeb" "__getattribute__" (some (.builtin "BaseException.__getattribute__"))) rfl)) (find_of (exAt hx 36 (f := fFind "BadWeb" "__getattr__" none) rfl)) (find_of (exAt hx 37 (f := fFind "BadWeb" "__class__" (some (.builtin "object.__class__"))) rfl)) (find_of (exAt hx 38 (f := fFind "BadWeb" "__setattr__" (some (.builtin "object.__setattr__"))) rfl)) (find_of (exAt hx 39 (f := fFind "BadWeb" "thing" none) rfl)) (init_of (exAt hx 40 (f := fInit "BadWeb") rfl)) lEW cEW (glo_of (exAt hx 42 (f := fGlo "BadRow") rfl)) (cls_of (exAt hx 43 (f := fCls "BadRow") rfl)) (find_of (exAt hx 44 (f := fFind "BadRow" "__getattribute__" (some (.builtin "BaseException.__getattribute__"))) rfl)) (find_of (exAt hx 45 (f := fFind "BadRow" "__getattr__" none) rfl)) (find_of (exAt hx 46 (f := fFind "BadRow" "__class__" (some (.builtin "object.__class__"))) rfl)) (find_of (exAt hx 47 (f := fFind "BadRow" "__setattr__" (some (.builtin "object.__setattr__"))) rfl)) (find_of (exAt hx 48 (f := fFind "BadRow" "thing" none) rfl)) (init_of (exAt hx 49 (f := fInit "BadRow") rfl)) lEV cEV (glo_of (exAt hx 51 (f := fGlo "BadPlace") rfl)) (cls_of (exAt hx 52 (f := fCls "BadPlace") rfl)) (find_of (exAt hx 53 (f := fFind "BadPlace" "__getattribute__" (some (.builtin "BaseException.__getattribute__"))) rfl)) (find_of (exAt hx 54 (f := fFind "BadPlace" "__getattr__" none) rfl)) (find_of (exAt hx 55 (f := fFind "BadPlace" "__class__" (some (.builtin "object.__class__"))) rfl)) (find_of (exAt hx 56 (f := fFind "BadPlace" "__setattr__" (some (.builtin "object.__setattr__"))) rfl)) (find_of (exAt hx 57 (f := fFind "BadPlace" "place" none) rfl)) (init_of (exAt hx 58 (f := fInit "BadPlace") rfl)) lEZ cEZ (glo_of (exAt hx 60 (f := fGlo "NothingToUndo") rfl)) (cls_of (exAt hx 61 (f := fCls "NothingToUndo") rfl)) (find_of (exAt hx 62 (f := fFind "NothingToUndo" "__getattribute__" (some (.builtin "BaseException.__getattribute__"))) rfl)) (find_of (exAt hx 63 (f := fFind "NothingToUndo" "__getattr__" none) rfl)) (find_of (exAt hx 64 (f := fFind "NothingToUndo" "__class__" (some (.builtin "object.__class__"))) rfl)) (exc_of (exAt hx 65 (f := fExc "NothingToUndo") rfl)) (prop_of (exAt hx 66 (f := fProp "Weaving" "row_now") rfl)) lq1 cq1 (prop_of (exAt hx 68 (f := fProp "Weaving" "web_now") rfl)) lq2 cq2 (int_of (exAt hx 70 (f := fInt "MOST_LETTERS" 200) rfl)) (kitT_of (exAt hx 71 (f := fKitT "Weaving" "list" false) rfl)) (exm_of (exAt hx 72 (f := fExm "BadRow" "BadWeb" false) rfl)) (exm_of (exAt hx 73 (f := fExm "BadRow" "BadPlace" false) rfl)) (glo_of (exAt hx 74 (f := fGlo "is_letters") rfl)) l0 c0 (glo_of (exAt hx 75 (f := fGlo "is_letter") rfl)) l1 c1 (glo_of (exAt hx 76 (f := fGlo "is_word") rfl)) l2 c2 (glo_of (exAt hx 77 (f := fGlo "is_number") rfl)) l3 c3 (glo_of (exAt hx 78 (f := fGlo "is_below") rfl)) l4 c4 (glo_of (exAt hx 79 (f := fGlo "is_ascending") rfl)) l5 c5 (glo_of (exAt hx 80 (f := fGlo "is_fold") rfl)) l6 c6 (glo_of (exAt hx 81 (f := fGlo "is_web") rfl)) l7 c7 (glo_of (exAt hx 82 (f := fGlo "check_web") rfl)) l8 c8 (glo_of (exAt hx 83 (f := fGlo "laid_behind") rfl)) l9 c9 (glo_of (exAt hx 84 (f := fGlo "check_rows") rfl)) l10 c10 (glo_of (exAt hx 85 (f := fGlo "check_woven") rfl)) l11 c11 (glo_of (exAt hx 86 (f := fGlo "webs_behind") rfl)) l12 c12 (glo_of (exAt hx 87 (f := fGlo "webs_along") rfl)) l13 c13 (glo_of (exAt hx 88 (f := fGlo "_law_deck") rfl)) l14 c14 (glo_of (exAt hx 89 (f := fGlo "_law_draw") rfl)) l15 c15 (glo_of (exAt hx 90 (f := fGlo "_law_pick") rfl)) l16 c16 (glo_of (exAt hx 91 (f := fGlo "_law_book") rfl)) l17 c17 (glo_of (exAt hx 92 (f := fGlo "_law_code") rfl)) l18 c18 (glo_of (exAt hx 93 (f := fGlo "_law_laid") rfl)) l19 c19 (glo_of (exAt hx 94 (f := fGlo "_law_lays") rfl)) l20 c20 (glo_of (exAt hx 95 (f := fGlo "_law_along") rfl)) l21 c21 (glo_of (exAt hx 96 (f := fGlo "_law_made") rfl)) l22 c22 (glo_of (exAt hx 97 (f := fGlo "_law_spot") rfl)) l23 c23 (glo_of (exAt hx 98 (f := fGlo "_law_changed") rfl)) l24 c24 (glo_of (exAt hx 99 (f := fGlo "_law_undone") rfl)) l25 c25 (glo_of (exAt hx 100 (f := fGlo "_law_stands") rfl)) l26 c26 (glo_of (exAt hx 101 (f := fGlo "_law_due") rfl)) l27 c27 (glo_of (exAt hx 102 (f := fGlo "_law_refused") rfl)) l28 c28 (glo_of (exAt hx 103 (f := fGlo "law") rfl)) l29 c29 (free_of (exAt hx 104 (f := fFree "len") rfl)) (free_of (exAt hx 105 (f := fFree "range") rfl)) (free_of (exAt hx 106 (f := fFree "isinstance") rfl)) (free_of (exAt hx 107 (f := fFree "all") rfl)) (free_of (exAt hx 108 (f := fFree "any") rfl)) (free_of (exAt hx 109 (f := fFree "int") rfl)) (free_of (exAt hx 110 (f := fFree "str") rfl)) (free_of (exAt hx 111 (f := fFree "bool") rfl)) (free_of (exAt hx 112 (f := fFree "tuple") rfl)) (free_of (exAt hx 113 (f := fFree "list") rfl)) (free_of (exAt hx 114 (f := fFree "repr") rfl)) (free_of (exAt hx 115 (f := fFree "enumerate") rfl)) (free_of (exAt hx 116 (f := fFree "sorted") rfl)) (free_of (exAt hx 117 (f := fFree "min") rfl)) (txt_of (exAt hx 118 (f := fTxt "ALPHABET" "abcdefghijklmnopqrstuvwxyz") rfl))
end Lw

namespace Lw
open PySem PySem.W PySem.Calls PyProof.Rows Mq
abbrev RR : OpenRow := OpenLaw.row PySem.Challenge.rw_millhands_k66_weavings
def nm0 : List PySem.Str := ["MillError", "BadBook", "BadText", "BadWeb", "NothingToUndo", "BadRow", "BadPlace", "is_letters", "is_letter", "is_word", "is_number", "is_below", "is_ascending", "text_parts", "Book", "is_fold", "fold_read", "is_web", "check_web", "laid_behind", "check_rows", "check_woven", "webs_behind", "webs_along", "Weaving", "_law_deck", "_law_draw", "_law_pick", "_law_book", "_law_code"]
def nm1 : List PySem.Str := ["_law_laid", "_law_lays", "_law_along", "_law_made", "_law_spot", "_law_changed", "_law_undone", "_law_stands", "_law_due", "_law_refused", "ALPHABET", "MOST_LETTERS"]
abbrev nmL : List PySem.Str := nm0 ++ nm1
abbrev hk : Hook := hookP 5 fnL prL fsL
def ob (s : SharedT) : AlP := obsP 5 fnL prL fsL (HandSHeadRun.getT s)
theorem ob_eq (s : SharedT) : ob s = hk.obs s.abs := obsP_eq (HandSHeadRun.getT_eq s)
theorem run (w : World) : HandSHeadRun.RunEq RR (view RR.prog [48]) hk ob 9600 nmL w := by
  intro os
  kernel_rfl
end Lw

open PySem PySem.W PySem.Calls PyProof.Rows
theorem PySem.Challenge.cw_millhands_k66_weavings_holds : PySem.Challenge.rw_millhands_k66_weavings.Holds := by
  w_on; o_law
  refine HandSHeadRun.head_any (r := OpenLaw.row PySem.Challenge.rw_millhands_k66_weavings) (q := view (OpenLaw.row PySem.Challenge.rw_millhands_k66_weavings).prog [48]) (H := Lw.hk) (ob := Lw.ob) (M := 9600) (loose := Lw.nmL) (d := HandSHeadRun.topDef (OpenLaw.row PySem.Challenge.rw_millhands_k66_weavings).prog 48) (kwd := []) Lw.ob_eq
    (by kernel_rfl) (fun s => by kernel_rfl) Lw.run (by kernel_rfl) (by kernel_rfl) (by kernel_rfl) (by rfl) (by first | assumption | decide +kernel) (by decide +kernel) ⟨rfl, rfl, rfl, rfl, rfl, by decide +kernel⟩ ?hw ?hc
  case hw => w_witness2
  case hc =>
    refine Mq.walk_ofGE (l := PySem.Challenge.rw_millhands_k66_weavings) (n := 63) (k := 8) (x := "_law_script") (CX := L2.CX0) rfl (by decide) (by kernel_rfl) ⟨rfl, by decide, by decide⟩ ?F (fun _ _ _ _ z => z)
    intro w mg fa h Y G hmg0
    obtain ⟨K, KX, c, hx, hpr⟩ := Y
    have hmg : mg ("law" : PySem.Str) = some (.ref fa) := by
      have e : (HandSHeadRun.topDef (OpenLaw.row PySem.Challenge.rw_millhands_k66_weavings).prog 48).name = ("law" : PySem.Str) := by kernel_rfl
      rw [← e]
      exact hmg0
    obtain ⟨fd, hb, hF⟩ := Lw.facts (P := (PySem.Challenge.rw_millhands_k66_weavings).prog) (w := w) KX G hmg c hx hpr
    exact ⟨K, fd, Lw.spLaw K, KX, hb, fun H a ns hl _ hS => ⟨a, ns, rfl, hS, hl, fun _ => rfl⟩, hF⟩

