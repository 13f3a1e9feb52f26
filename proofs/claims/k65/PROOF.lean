import PyProof.Rows.All
import Wide.All
import OpenK.AllK
import Wide.FinOn
import PyProof.EqAt
import PyProof.EqKinds
import PyProof.TupleCall
import PyProof.ReprReads
import KE.KExcInit
import HandS.ForMost
import HandS.ForExc
import HandS.ExcField
import HandS.Flow
import HandS.Style
import PyProof.ReprRoads
import HandS.ExcIs
import KE.KExcIs
import HandS.Defaults
import HandS.Walk
import HandS.IsInst
import HandS.Codes
import HandS.StrMore
import KE.GoesMore
import HandS.CallLocal
import HandS.More
import PyProof.StrOps2
import PySem.Challenge.RW_millhands_k65_where_letters_come_from
import HandS.Replace
import KE.KSortTupG
import KE.KDictSum
import HandS.Iter
import HandS.Dict
import HandS.Conv
import HandS.TupLe
import HandS.Star
import HandS.MakeKwOnly
import HandS.ExcValue
import HandS.TryMany
import HandS.Text
import HandS.HeadEnd
import HandS.Head0
import HandS.Head1
import HandS.Head2
import HandS.HeadHook1
import HandS.HeadHook2
set_option Elab.async false
set_option linter.all false
set_option maxRecDepth 100000
set_option maxHeartbeats 0
namespace Mq
open PySem PySem.Spec PyProof.Rows L2

/-! ### defs that are entered where no repr is under way -/
def Still (A : Around) : Prop := A.guards = some []

structure FnG (P : Program) (w : World) (K : PySem.W.Frag) (mg : Str → Option Value)
    (base : Heap) (CX : CXT) (k : Nat) (f : Addr) (fd : FuncData) (ps : List Str) (sp : Sp) : Prop where
  many : ∀ vs H Q E, sp vs H Q E → vs.length = ps.length
  go : ∀ (A : Around) (outer : List Env) (s : Shared) (H : Hp) (args : Args)
    (us : List Value) (vs : List V) (Q : VK) (E : XK), Still A → Room k A →
    Env0 P w K mg base A outer s H → BindsTo s fd args (ps.zip us) → Vals vs us → sp vs H Q E →
    codeAny (model P w) A (.call (.ref f) args) (CR CX outer P w H s Q E) s

theorem FnG.of {P : Program} {w : World} {K : PySem.W.Frag} {mg : Str → Option Value}
    {base : Heap} {CX : CXT} {k : Nat} {f : Addr} {fd : FuncData} {ps : List Str} {sp : Sp}
    (F : FnOk P w K mg base CX k f fd ps sp) : FnG P w K mg base CX k f fd ps sp :=
  ⟨F.len, fun A outer s H args us vs Q E _ => F.run A outer s H args us vs Q E⟩

section
variable {P : Program} {w : World} {K : PySem.W.Frag} {mg : Str → Option Value} {base : Heap}

theorem Fun.okG {CX : CXT} {x qual : Str} {st : Stmt} {f : Addr} {fd : FuncData} {N ps : List Str}
    {k : Nat} {sp : Sp} (F : L2.Fun K x qual st f fd) (S : FnScope N ps (defScope st))
    (many : ∀ vs H Q E, sp vs H Q E → vs.length = ps.length)
    (body : ∀ (cdv : Value) (A : Around) (outer : List Env) (s : Shared) (H : Hp) (vs : List V) (Q : VK) (E : XK),
      Still (A.deeper (envOfC qual (defScope st) s.heap.objs.size f cdv)) →
      Room k (A.deeper (envOfC qual (defScope st) s.heap.objs.size f cdv)) → sp vs H Q E →
      ∃ t, PSs (cxOf CX P w K mg base N qual (defScope st) f cdv A outer s H E) (defBody st) t ∧
        t { nx := fun _ H' => Q .non H', rt := Q } (start N vs) H) :
    FnG P w K mg base CX (k + 1) f fd ps sp := by
  obtain ⟨oc, od, kV, doc, pm, an, cdv, ct, osl, rfl, lk, hcd⟩ := F.ex
  refine ⟨many, fun A outer s H args us vs Q E gA hr e0 hb r h => ?_⟩
  have old : ∀ b o, base.get? b = some o → s.heap.get? b = some o := fun b o e => (e0.bs b o e).1
  have KX := e0.mod.kin.keeps old
  have lim := e0.mod.nolimit.keeps old
  have hlen := many _ _ _ _ h
  have kinds : ∀ y ∈ ps.zip us, (defScope st).names.lookup y.1 = some .local ∨
      ((defScope st).names.lookup y.1 = some .cell ∧
        ((cellsFrom (s.heap.objs.size + 1) (defScope st).names []).lookup y.1).isSome = true) := by
    rintro ⟨n, v⟩ hy
    rcases S.par n (List.of_mem_zip hy).1 with q | q
    · exact Or.inl q
    · exact Or.inr ⟨q, PySem.W.cellsFrom_some _ _ _ (Or.inl q)⟩
  refine codeAny_call_function hr.depth (KX _ _ lk) rfl S.co S.gen rfl
    (PySem.W.codeRec_of KX hcd) (hb _ _ _ _ ?_)
  refine wpAny_newFunctionEnv_cells S.kind kinds (fun env he s1 x => ?_)
  subst he
  refine ⟨lim.keeps x.toInCall.keep, codeAny_func ?_⟩
  obtain ⟨t, ht, hq⟩ := body cdv A outer s H vs Q E gA (hr.deeper _) h
  have I := inv_start (CX := CX) (E := E) S hr.hd e0 hlen r x
  refine wpAny_mono (ht.run [] s1 (start N vs) H _ I hq) (fun fl s' hs => ?_) (fun e s' hs => hs)
  cases fl with
  | ret u =>
    obtain ⟨v, σ', H', J, rv, q⟩ := hs
    exact ⟨v, H', J.os, J.bare, J.base, J.hok, rv, q⟩
  | next =>
    obtain ⟨σ', H', J, q⟩ := hs
    exact ⟨V.non, H', J.os, J.bare, J.base, J.hok, rfl, q⟩
  | brk =>
    obtain ⟨_, _, _, q⟩ := hs
    exact q.elim
  | cont =>
    obtain ⟨_, _, _, q⟩ := hs
    exact q.elim
end

section
variable {X : Cx} {CX : CXT} {k : Nat} {f : Addr} {fd : FuncData} {ps : List Str} {sp : Sp}
  {E : XK} {x : Str} {p pos : Pos} {e : Expr} {es : List Expr} {t : TA}

theorem run_G {pins : List (Addr × Obj)} {σ : L2.St} {H : Hp} {s : Shared} {Q : VK} {us : List Value} {vs : List V}
    (F : FnG X.prog X.w X.K X.mg X.base CX k f fd ps sp) (gA : Still X.A) (hr : Room k X.A)
    (hb : Binds X.K fd ps []) (hx : Passes CX X E) (I : Inv X pins σ H s) (r : Vals vs us) (h : sp vs H Q E) :
    wpAny (model X.prog X.w) X.A (call (.ref f) us) (EP X pins σ Q) X.xe s := by
  have hl : us.length = ps.length := by rw [← r.length]; exact F.many _ _ _ _ h
  have b := hb s us I.kIn (by rw [List.append_nil]; exact hl)
  rw [List.append_nil] at b
  refine wpAny_call (codeAny_mono (F.go X.A X.stack s H ⟨us, []⟩ us vs Q E gA hr I.env0 b r h) (fun r s' hq => ?_))
  match r, hq with
  | .error er, hq => exact hx pins σ H s er s' I hq
  | .ok (.ret u), hq => exact I.after hq
  | .ok .next, hq => exact hq.elim
  | .ok .brk, hq => exact hq.elim
  | .ok .cont, hq => exact hq.elim

/-- f(e, ..) where no repr is under way -/
theorem pe_callG (F : FnG X.prog X.w X.K X.mg X.base CX k f fd ps sp) (gA : Still X.A) (hr : Room k X.A)
    (hg : Gl X x) (hm : X.mg x = some (.ref f)) (hk : PySem.W.keepIn X.K (.ref f) = true)
    (hb : Binds X.K fd ps []) (hx : Passes CX X E) (ha : PA X (e :: es) t)
    (hdb : (x == ("__debug__" : Str)) = false := by decide)
    (he : starEach (e :: es) X.env = (false, eval e X.env) :: starEach es X.env := by rfl)
    (hpl : (backTo pos (starEach es X.env)).any (·.1) = false := by rfl) :
    PE X (.Call (.Name x p) (e :: es) [] pos) (tCall sp [] E t) := by
  refine ⟨fun pins s σ H Q I h => wpAny_Call_Name_kw (ld_glob I hg hm ?_ hdb)⟩
  refine PySem.W.callWith_K (h₀ := X.base) I.ok.mod.kin hk (thn (ha.run pos pins s σ H _ I h) ?_) he hpl
  rintro us s1 ⟨vs, H1, I1, r, q⟩
  rw [List.append_nil] at q
  exact ⟨I1.kIn, run_G F gA hr hb hx I1 r q⟩
end

/-! ### the law's own call -/
theorem law_callG {P : Program} {w : World} {K : PySem.W.Frag} {mg mb : Str → Option Value} {CX : CXT} {k : Nat}
    {fa a : Addr} {fd : FuncData} {x : Str} {sp : Sp} {s₁ : Shared} {vs : List Value} {ns : List Int}
    (KX : K.In s₁.heap) (hns : s₁.heap.Ns mainGlobals mg) (hb : s₁.heap.Ns builtinsNs mb)
    (hbb : ∀ x : Str, x ≠ "__name__" → mb x = bootBuiltins x) (hlim : s₁.heap.NoLimit) (hg : s₁.gens = #[])
    (ha : s₁.heap.get? a = some { cls := .type "list", data := .seq vs.toArray }) (hi : IntsAre vs ns)
    (hl : ns.length ≤ sizeLine) (hr : Room k callerA)
    (F : ∀ base : Heap, K.In base → base.Ns mainGlobals mg → FnG P w K mg base CX k fa fd [x] sp)
    (hbind : ∀ (s : Shared) (u : Value), BindsTo s fd ⟨[u], []⟩ [(x, u)])
    (hsp : ∀ H : Hp, Only H → SqL K H a (ns.map V.int) → sp [.ref a] H (fun v _ => v = .bl true) fun _ _ _ => False)
    (hCX : ∀ H e s', CX [] H s₁ (fun _ _ _ => False) e s' → False) :
    codeAny (model P w) callerA (.call (.ref fa) ⟨[.ref a], []⟩)
      (fun r s' => r = .ok (.ret (.bool true)) ∧ OldK s₁.heap s'.heap ∧ s'.os = s₁.os ∧ AllBare s'.gens) s₁ := by
  have rv := vals_ints hi
  have core : ∀ H : Hp, Only H → SqL K H a (ns.map V.int) → HOk P w H s₁.heap →
      (∀ b, H b ≠ none → b = a) → (H a ≠ none → K.lookup a = none) →
      codeAny (model P w) callerA (.call (.ref fa) ⟨[.ref a], []⟩)
        (fun r s' => r = .ok (.ret (.bool true)) ∧ OldK s₁.heap s'.heap ∧ s'.os = s₁.os ∧ AllBare s'.gens) s₁ := by
    intro H hO hS hok hA hK
    have only : ∀ {b : Addr} {u : HO}, H b = some u → b = a := fun {b u} q => hA b (by rw [q]; exact fun z => by cases z)
    have noD : ∀ {b : Addr} {o : Obj} {es : Array DictEntry} {ep : Nat}, s₁.heap.get? b = some o →
        o.data = .dict es ep → H b = none := by
      intro b o es ep e d
      cases q : H b with
      | none => rfl
      | some u =>
        have e' := only q
        subst e'
        rw [ha] at e
        cases e
        cases d
    have nsK : ∀ {b : Addr} {m : Str → Option Value}, s₁.heap.Ns b m → (hidT s₁.heap H).Ns b m := by
      rintro b m ⟨o, es, ep, e, d, r⟩
      exact ⟨o, es, ep, hidT_get e (noD e d), d, r⟩
    have hKb : K.In (hidT s₁.heap H) := by
      intro b o e
      refine hidT_get (KX b o e) ?_
      cases q : H b with
      | none => rfl
      | some u =>
        have e' := only q
        subst e'
        rw [hK (by rw [q]; exact fun z => by cases z)] at e
        cases e
    obtain ⟨mc, l1, l2⟩ := hlim
    have hM : Mod K mg (hidT s₁.heap H) := ⟨hKb, nsK hns, ⟨mb, nsK hb, hbb⟩, ⟨mc, nsK l1, l2⟩⟩
    have nil : ∀ {b : Addr}, b ∉ ([] : List Addr) := fun h => by cases h
    have e0 : Env0 P w K mg (hidT s₁.heap H) callerA [] s₁ H :=
      ⟨rfl, hM, fun b o e => of_hidT e, Nat.le_of_eq (hidT_size _ _), trivial, fun b hb => (nil hb).elim, hok, .of_eq hg⟩
    refine codeAny_mono ((F _ hKb (nsK hns)).go callerA [] s₁ H ⟨[.ref a], []⟩ [.ref a] [.ref a] _ _ rfl hr e0
      (hbind s₁ (.ref a)) (.cons rfl .nil) (hsp H hO hS)) (fun r s' h => ?_)
    match r, h with
    | .error e, h => exact (hCX H e s' h).elim
    | .ok .next, h => exact h.elim
    | .ok .brk, h => exact h.elim
    | .ok .cont, h => exact h.elim
    | .ok (.ret u), h =>
      obtain ⟨v, H', os, bare, un, hok', r', q⟩ := h
      have q' : v = .bl true := q
      subst q'
      cases (show u = Value.bool true from r')
      refine ⟨rfl, OldK.of_keep (fun b o e => ?_), os, bare⟩
      rcases hO b with z | ⟨ob, xs, z⟩
      · exact un.keep b o e z nil nil
      · obtain ⟨e1, _⟩ := hok b _ z
        obtain ⟨e2, _⟩ := hok' b _ (un.frzs b ob _ z)
        rw [e] at e1
        cases e1
        exact e2
  cases hk : K.lookup a with
  | some o =>
    have e := KX a o hk
    rw [ha] at e
    cases e
    refine core (fun _ => none) (fun _ => Or.inl rfl) (Or.inr ⟨_, vs.toArray, _, hk, rfl, rfl, rfl, ?_, by simpa using rv⟩)
      (fun b u z => by cases (show (none : Option HO) = some u from z)) (fun b z => (z rfl).elim) (fun z => (z rfl).elim)
    rw [List.size_toArray, hi.length]
    exact hl
  | none =>
    let o0 : Obj := { cls := .type "list", data := .seq vs.toArray }
    refine core (fun b => if b = a then some (.frz o0 (.lst (ns.map V.int))) else none) (fun b => ?_)
      (Or.inl (Or.inr ⟨o0, if_pos rfl⟩)) (fun b u z => ?_) (fun b z => ?_) (fun _ => hk)
    · by_cases hb : b = a
      · exact Or.inr ⟨_, _, if_pos hb⟩
      · exact Or.inl (if_neg hb)
    · by_cases hb : b = a
      · cases (if_pos hb).symm.trans z
        subst hb
        exact ⟨ha, by rw [List.length_map]; exact hl, vs, _, rv, ha⟩
      · cases (if_neg hb).symm.trans z
    · by_cases hb : b = a
      · exact hb
      · exact (z (if_neg hb)).elim

theorem walk_ofG {l : PySem.W.OpenLaw} {n k : Nat} {q : Program} {loose : List Str}
    {XP : (Str → Option Value) → Heap → Prop} {YP : World → Heap → Prop} {d : DefRec}
    {K : Params → PySem.W.Frag} {CX : World → CXT} {sp : World → Sp} {x : Str}
    (hn : l.most = some n) (hn2 : n ≤ sizeLine) (hdf : d.params.defaults = []) (hr : Room k callerA)
    (hY : ∀ (w : World) (h : Heap), YP w h → (K w.params).In h)
    (F : ∀ (w : World) (mg : Str → Option Value) (fa : Addr) (h : Heap), (K w.params).In h →
      h.Ns mainGlobals mg → mg d.name = some (.ref fa) →
      ∃ fd : FuncData, (∀ (s : Shared) (u : Value), BindsTo s fd ⟨[u], []⟩ [(x, u)]) ∧
        ∀ base : Heap, (K w.params).In base → base.Ns mainGlobals mg →
          FnG l.prog w (K w.params) mg base (CX w) k fa fd [x] (sp w))
    (hsp : ∀ (w : World) (H : Hp) (a : Addr) (ns : List Int), ns.length ≤ n → Only H →
      SqL (K w.params) H a (ns.map V.int) → sp w [.ref a] H (fun v _ => v = .bl true) fun _ _ _ => False)
    (hCX : ∀ (w : World) (H : Hp) (s : Shared) (e : Value) (s' : Shared), CX w [] H s (fun _ _ _ => False) e s' → False) :
    PySem.W.WalkO q loose XP YP l.row.toRowW d [] (fun f vs => PySem.call f vs) := by
  refine Att.attach_call hn hdf ?_
  intro w s₀ s₁ mg mb fa o pm cd doc a vs ns G Y ho hd hcd hmg hobj hints hlen hg
  obtain ⟨fd, hb, hF⟩ := F w mg fa _ (hY w _ Y) G.T.g hmg
  exact law_callG (hY w _ Y) G.T.g G.T.b G.T.builtins G.T.nolimit hg hobj hints (Nat.le_trans hlen hn2) hr hF hb
    (fun H hO hS => hsp w H a ns hlen hO hS) (fun H e s' => hCX w H s₁ e s')
end Mq

namespace Mq
open PySem PySem.Spec PyProof.Rows L2

/-! ### repr of data, dicts among them -/
def keyD : Key → PyData
  | .inl i => .int i
  | .inr x => .str x
mutual
inductive Dg (K : PySem.W.Frag) (H : Hp) : V → PyData → Prop
  | non : Dg K H .non .none
  | bl (b : Bool) : Dg K H (.bl b) (.bool b)
  | int (i : Int) : Dg K H (.int i) (.int i)
  | str (x : Str) : Dg K H (.str x) (.str x)
  | lst {a : Addr} {xs : List V} {ds : List PyData} : a ≠ sysModules → SqL K H a xs → DgAll K H xs ds → Dg K H (.ref a) (.list ds)
  | tup {a : Addr} {xs : List V} {ds : List PyData} : SqT K H a xs → DgAll K H xs ds → Dg K H (.ref a) (.tuple ds)
  | dct {a : Addr} {kvs : List (Key × V)} {ds : List (PyData × PyData)} : H a = some (.dK kvs) → DgKv K H kvs ds → Dg K H (.ref a) (.dict ds)
inductive DgAll (K : PySem.W.Frag) (H : Hp) : List V → List PyData → Prop
  | nil : DgAll K H [] []
  | cons {v : V} {vs : List V} {d : PyData} {ds : List PyData} : Dg K H v d → DgAll K H vs ds → DgAll K H (v :: vs) (d :: ds)
inductive DgKv (K : PySem.W.Frag) (H : Hp) : List (Key × V) → List (PyData × PyData) → Prop
  | nil : DgKv K H [] []
  | cons {k : Key} {v : V} {vs : List (Key × V)} {d : PyData} {ds : List (PyData × PyData)} : Dg K H v d → DgKv K H vs ds → DgKv K H ((k, v) :: vs) ((keyD k, d) :: ds)
end
section
variable {X : Cx} {pins : List (Addr × Obj)} {σ : L2.St} {H : Hp} {s : Shared}
theorem reads_key {h : Heap} {k : Key} {u : Value} (e : keyIs k u = true) : Reads h u (keyD k) [] := by
  rcases keyIs_shape e with ⟨i, t, rfl, rfl⟩ | ⟨x, t, rfl, rfl⟩
  · exact Reads.int i t
  · exact Reads.str x t
mutual
theorem Dg.rd (I : Inv X pins σ H s) : ∀ {d : PyData} {v : V} {u : Value}, Dg X.K H v d → RelV v u →
    ∃ as, Reads s.heap u d as ∧ sysModules ∉ as
  | _, _, _, .non, r => by cases r; exact ⟨[], .none, fun h => by cases h⟩
  | _, _, _, .bl b, r => by cases r; exact ⟨[], .bool b, fun h => by cases h⟩
  | _, _, _, .int i, r => by obtain ⟨t, rfl⟩ := r; exact ⟨[], .int i t, fun h => by cases h⟩
  | _, _, _, .str x, r => by obtain ⟨t, rfl⟩ := r; exact ⟨[], .str x t, fun h => by cases h⟩
  | _, _, _, .lst ne hs ha, r => by
    cases r
    obtain ⟨its, rv, ⟨o, n, ho, hc, _, hd⟩, _⟩ := I.list hs
    obtain ⟨as, hr, hn⟩ := DgAll.rd I ha rv
    refine ⟨_, Reads.list ho hc hd hr, fun hm => ?_⟩
    rcases List.mem_cons.mp hm with e | e
    · exact ne e.symm
    · exact hn e
  | _, _, _, .tup hs ha, r => by
    cases r
    obtain ⟨its, rv, ⟨o, ho, hc, n, hd⟩, _⟩ := I.tuple hs
    obtain ⟨as, hr, hn⟩ := DgAll.rd I ha rv
    exact ⟨_, Reads.tuple ho hc hd hr, hn⟩
  | _, _, _, .dct (a := a) hs ha, r => by
    cases r
    obtain ⟨_, ns, us, rk, o, es, ep, ho, hx, hd, _, hp, _⟩ := I.hok a _ hs
    obtain ⟨as, bs, r1, r2, n1, n2⟩ := DgKv.rd I ha rk hp
    refine ⟨_, Reads.dict ho hx.1 hd r1 r2, fun hm => ?_⟩
    rcases List.mem_append.mp hm with hm | hm
    · rcases List.mem_cons.mp hm with e | e
      · rw [← e] at ns
        simp at ns
      · exact n1 e
    · exact n2 hm
theorem DgAll.rd (I : Inv X pins σ H s) : ∀ {ds : List PyData} {vs : List V} {us : List Value}, DgAll X.K H vs ds → Vals vs us →
    ∃ as, ReadsAll s.heap us ds as ∧ sysModules ∉ as
  | _, _, _, .nil, r => by cases r; exact ⟨[], .nil, fun h => by cases h⟩
  | _, _, _, .cons h1 h2, r => by
    cases r with
    | cons r1 r2 =>
      obtain ⟨as, q1, n1⟩ := Dg.rd I h1 r1
      obtain ⟨bs, q2, n2⟩ := DgAll.rd I h2 r2
      exact ⟨_, ReadsAll.cons q1 q2, fun hm => (List.mem_append.mp hm).elim n1 n2⟩
theorem DgKv.rd (I : Inv X pins σ H s) : ∀ {ds : List (PyData × PyData)} {vs : List (Key × V)} {us : List (Key × Value)} {es : List DictEntry}, DgKv X.K H vs ds → KV vs us →
    Pairs (mixKind X.prog X.w) es us →
    ∃ as bs, ReadsAll s.heap (es.map (·.key)) (ds.map (·.1)) as ∧ ReadsAll s.heap (es.map (·.val)) (ds.map (·.2)) bs ∧ sysModules ∉ as ∧ sysModules ∉ bs
  | _, _, _, _, .nil, r, p => by
    cases r
    cases p
    exact ⟨[], [], ReadsAll.nil, ReadsAll.nil, (fun h => by cases h), (fun h => by cases h)⟩
  | _, _, _, _, .cons h1 h2, r, p => by
    cases r with
    | cons r1 r2 =>
      cases p with
      | cons p3 p4 p2 =>
        obtain ⟨e1, e2⟩ := r1
        obtain ⟨as, q1, n1⟩ := Dg.rd I h1 e2
        obtain ⟨bs, cs, q2, q3, n2, n3⟩ := DgKv.rd I h2 r2 p2
        rw [← p4] at q1
        have p3' := p3
        rw [← e1] at p3'
        exact ⟨_, _, ReadsAll.cons (reads_key p3') q2, ReadsAll.cons q1 q3, fun hm => (List.mem_append.mp hm).elim (fun z => by cases z) n2,
          fun hm => (List.mem_append.mp hm).elim n1 n3⟩
end
/-- repr(v), v data -/
def rRep (K : PySem.W.Frag) : List V → Hp → VK → Prop := fun xs H Q => ∃ v d, xs = [v] ∧ Dg K H v d ∧ d.showable = true ∧
  d.depth ≤ 40 ∧ d.shown.length ≤ sizeLine ∧ Q (.str d.shown) H
theorem call_rep {k : Nat} (hr : Room k X.A) (gA : Still X.A) : CallR X (.builtin "repr") (rRep X.K) := by
  intro pins s σ H xs us Q I r h
  obtain ⟨v, d, rfl, hd, hs, hz, hl, q⟩ := h
  cases r with
  | cons rx rr =>
    cases rr
    have hu := hr.units
    obtain ⟨as, rd, hn⟩ := Dg.rd I hd rx
    have leaf : ∀ {d : PyData} {t : Tok}, Q (.str d.shown) H → EP X pins σ Q (.str d.shown t) { s with toks := s.toks + 1 } :=
      fun {d t} q => ⟨.str d.shown, H, I.tok _, ⟨_, rfl⟩, q⟩
    cases hd with
    | non =>
      cases rx
      exact PySem.P.repr_of_none (leaf (d := .none) q)
    | bl b =>
      cases rx
      exact PySem.P.repr_of_bool (leaf (d := .bool b) q)
    | int i =>
      obtain ⟨t, rfl⟩ := rx
      exact PySem.P.repr_of_int (by simpa [PyData.showable] using hs) (leaf (d := .int i) q)
    | str x =>
      obtain ⟨t, rfl⟩ := rx
      refine PySem.P.repr_of_str (leaf (d := .str x) q) ?_
      simpa only [PyData.shown] using hl
    | lst ne h1 h2 =>
      cases rx
      exact repr_of_reads' rd hs (fun _ => hn) gA (by omega) (fun _ _ e => e) (fun h' u tk k => ⟨.str _, H, I.kept k, ⟨_, rfl⟩, q⟩) hl
    | tup h1 h2 =>
      cases rx
      exact repr_of_reads' rd hs (fun _ => hn) gA (by omega) (fun _ _ e => e) (fun h' u tk k => ⟨.str _, H, I.kept k, ⟨_, rfl⟩, q⟩) hl
    | dct h1 h2 =>
      cases rx
      exact repr_of_reads' rd hs (fun _ => hn) gA (by omega) (fun _ _ e => e) (fun h' u tk k => ⟨.str _, H, I.kept k, ⟨_, rfl⟩, q⟩) hl
/-- no new object stands where the modules stand -/
theorem Inv.low (I : Inv X pins σ H s) : sysModules < s.heap.objs.size := by
  have h1 := I.mod.glob.lt
  have h2 := I.ok.bsz
  have h3 := I.sz
  have h4 : sysModules < mainGlobals := by decide
  exact Nat.lt_of_lt_of_le (Nat.lt_trans h4 h1) (Nat.le_trans h2 h3)
/-- a list display, told to stand elsewhere than the modules -/
def tLs (t : TA) : TE := fun σ H Q => t σ H fun xs H1 => xs.length ≤ sizeLine ∧ ∀ p, H1 p = none → p ≠ sysModules → Q (.ref p) (upd H1 p (.lst xs))
theorem pe_ls {es : List Expr} {t : TA} {pos : Pos} (h : PA X es t) : PE X (.List es pos) (tLs t) := by
  refine ⟨fun pins s σ H Q I hq => wpAny_List_spliced (thn (h.run pos pins s σ H _ I hq) ?_)⟩
  rintro us s1 ⟨xs, H1, I1, r, z, q⟩
  have hz : us.length ≤ sizeLine := by rw [← r.length]; exact z
  have nw : H1 s1.heap.objs.size = none := I1.hok.fresh (Nat.le_refl _)
  refine ⟨hz, .ref s1.heap.objs.size, upd H1 s1.heap.objs.size (.lst xs), ?_, rfl, q _ nw (Nat.ne_of_gt (Inv.low I1))⟩
  exact I1.laid (t' := s1.toks) (fun b u e => Heap.get?_push_of_some _ e) (Nat.le_refl _) ⟨z, us, 0, r, Heap.get?_push_size _ rfl⟩
end
end Mq

namespace Mq
open PySem PySem.Spec PyProof.Rows L2
open PySem.W (Frag)
open PySem.Builtin.ObjectAttr
/-! ### own errors over Exception, with one field -/
abbrev exTail : List Value := [.type "Exception", .type "BaseException", .type "object"]
section
variable {prog : Program} {w : World} {A : Around} {E : Value → Shared → Prop} {R : Result → Shared → Prop}
  {hp : Heap} {g : Array GenState} {d : Drawn} {t : Nat} {os : OsState} {K : Frag}
theorem osa_first {name : Str} {tk : Tok} {v : Value} {x C t1 : Addr} (X : K.In hp)
    (hx : hp.get? x = some (PySem.W.excObj C t1 none .none)) (ho : PySem.W.excOver K C exTail = true)
    (hh : PySem.W.hasDictIn K C = true) (ht : PySem.W.takerIn K C name = some none)
    (hq : ∀ h' tk' dx, (∀ b o, b ≠ x → hp.get? b = some o → h'.get? b = some o) → hp.objs.size ≤ dx → dx ≠ x →
      h'.get? x = some (PySem.W.excObj C t1 (some dx) .none) → h'.Ns1 dx (fun y => if y = name then some v else none) →
      R (.ok (.ret .none)) ⟨h', g, d, tk', os⟩) :
    codeAny (model prog w) A (.call (.builtin "object.__setattr__") ⟨[.ref x, .str name tk, v], []⟩) R ⟨hp, g, d, t, os⟩ := by
  refine PySem.W.osa_openX (od := none) (s := ⟨hp, g, d, t, os⟩) F.store_Exception X ⟨hx, rfl, rfl, trivial⟩ ho ht (fun b => ?_)
  obtain ⟨cd, hc, hd'⟩ := PySem.W.any_some hh
  refine wpAny_bind (wpAny_pure (wpAny_bind (PySem.W.instanceDict_exc hx (PySem.W.looks_clsIn X hc) hd' ?_)))
  show wpAny _ _ (storeInDict hp.objs.size (.str name tk) name v) _ _ _
  have hxs : x ≠ hp.objs.size := Nat.ne_of_lt (Heap.lt_size hx)
  have hx1 : (hp.push (PySem.W.dictOf [] 0)).get? x = some (PySem.W.excObj C t1 none .none) := Heap.get?_push_of_some _ hx
  refine PySem.HandSPX.store_in_new ?_ ?_
  · exact ⟨_, #[], _, (Heap.get?_update_ne _ _ _ _ hxs.symm).trans (Heap.get?_push_at rfl rfl), rfl, (fun e he => absurd he (by simp)), fun _ => rfl⟩
  · intro h' tk' hn' hs
    refine hq h' tk' hp.objs.size (fun b o hb ho => ?_) (Nat.le_refl _) hxs.symm ?_ hn'
    · exact (hs.2 b (Nat.ne_of_lt (Heap.lt_size ho))).trans ((Heap.get?_update_ne _ _ _ _ hb).trans (Heap.get?_push_of_some _ ho))
    · exact (hs.2 x hxs).trans (Heap.get?_update_self _ hx1 rfl)
end
end Mq

namespace Mq
open PySem PySem.Spec PyProof.Rows L2
/-! ### the error that a suite holds: its class, its field -/
/-- what the class at D says, so that isinstance asks its errors rightly -/
structure HeldC (K : PySem.W.Frag) (D : Addr) : Prop where
  cl : (PySem.W.clsIn K D).isSome = true
  ga : PySem.W.findIn K (.ref D) "__getattribute__" = some (some (.builtin "BaseException.__getattribute__"))
  gg : PySem.W.findIn K (.ref D) "__getattr__" = some none
  sb : PySem.W.subIn K (.ref D) (.type "BaseException") = some true
  ca : PySem.W.findIn K (.ref D) "__class__" = some (some (.builtin "object.__class__"))
  sp : PySem.W.specialIn K (.builtin "object.__class__") "__get__" = some (some (.builtin "getset_descriptor.__get__"))
  tk : PySem.W.takesIn K (.builtin "object.__class__") = some true
  mo : PySem.W.mroIn K D (.type "object") = some true
/-- isinstance(e, c), e the error at a -/
def rHeld (K : PySem.W.Frag) (D a : Addr) (d : Option Addr) : List V → Hp → VK → Prop := fun xs H Q => ∃ (dd c : Addr) (fs : List (Str × V)) (b : Bool),
  xs = [.ref a, .ref c] ∧ d = some dd ∧ H dd = some (.xd fs) ∧ PySem.W.kitOne K (.ref D) (.ref c) = some b ∧ Q (.bl b) H
theorem call_held {X : Cx} {a D : Addr} {oe : Obj} {d : Option Addr} {pn : List (Addr × Obj)} (C : HeldC X.K D) (hz : Zc (.ref D) d oe)
    (hf : ∃ vs, oe.data = .fields vs) : CallR (X.suite a ((a, oe) :: pn)) (.builtin "isinstance") (rHeld X.K D a d) := by
  intro pins s σ H xs us Q I r h
  obtain ⟨dd, c, fs, b, rfl, rfl, hd, e, q⟩ := h
  cases r with
  | cons rx rr =>
    cases rr with
    | cons rt rr =>
      cases rr
      cases rx
      cases rt
      obtain ⟨hget, _⟩ := I.pin (a, oe) (List.mem_append.mpr (Or.inl List.mem_cons_self))
      obtain ⟨vs, hv⟩ := hf
      obtain ⟨mA, ⟨od, es, ep, ho, _⟩, _⟩ := (show ObjOk X.prog X.w H s.heap dd (.xd fs) from I.hok dd _ hd)
      have J : PySem.W.InstAt s.heap a oe D (some od) := by
        refine ⟨hget, hz.1, ?_, ?_⟩
        · unfold PySem.W.notCls
          rw [hv]
        · rw [hz.2]
          exact ho
      refine PySem.W.kia_one (PySem.W.kitx_exc C.cl C.ga C.gg C.sb C.ca C.sp C.tk C.mo) I.kIn J e (fun z => by cases z) (fun tk => ?_)
      exact ⟨.bl b, H, I.kept (t' := tk) (fun _ _ z => z), rfl, q⟩
/-! ### methods that raise, called within a try -/
section
variable {X : Cx} {CX : CXT} {k : Nat} {f C : Addr} {fd : FuncData} {ps : List Str} {sp : Sp}
  {E : L2.St → XK} {m : Str} {pos apos : Pos} {e o : Expr} {es : List Expr} {kws : List Keyword} {ta : TE} {t tk : TA}
def tMethT (C : Addr) (m : Str) (sp : Sp) (E : L2.St → XK) (ta : TE) (t : TA) : TE := fun σ H Q => ta σ H fun x H1 => ∃ a dx fs,
  x = .ref a ∧ H1 a = some (.ins C dx fs) ∧ fs.lookup m = none ∧ t σ H1 fun vs H2 => sp (x :: vs) H2 Q (E σ)
theorem pe_methT {pl : Sem Bool} (he : PE X o ta) (c : Cls X.K C) (hm : Meth X.K C m f)
    (F : FnOk X.prog X.w X.K X.mg X.base CX k f fd ps sp) (hr : Room k X.A) (hb : Binds X.K fd ps [])
    (hx : ∀ σ, PassesAt CX X σ (E σ)) (ha : PA X (e :: es) t)
    (hst : starEach (e :: es) X.env = (false, eval e X.env) :: starEach es X.env := by rfl)
    (hpl : (backTo pos (starEach es X.env)).any (·.1) = false := by rfl)
    (ht : eval (.Call (.Attribute o m apos) (e :: es) [] pos) X.env = (do
      let ov ← eval o X.env
      standAt apos.atName
      let (f, first) ← holding [ov] (getMethod ov m pl)
      callWith pos f first (backTo pos (starEach (e :: es) X.env)) (backToKw pos (keywordEach [] X.env))) := by rfl) :
    PE X (.Call (.Attribute o m apos) (e :: es) [] pos) (tMethT C m sp E ta t) := by
  refine ⟨fun pins s σ H Q I h => PySem.W.methodCall_KW (pl := pl) (thn (he.run pins s σ H _ I h) ?_) ht⟩
  rintro u s1 ⟨x, H1, I1, rx, a, dx, fs, rfl, ea, l, q⟩
  cases rx
  refine getmeth_ok I1 ea c hm l ?_
  refine PySem.W.callWith_K (first := [.ref a]) (h₀ := X.base) I.ok.mod.kin hm.kp (thn (ha.run pos pins s1 σ H1 _ I1 q) ?_) hst hpl
  rintro us s2 ⟨vs, H2, I2, r, q2⟩
  exact ⟨I2.kIn, run_fnS (us := .ref a :: us) (vs := .ref a :: vs) F hr hb (hx σ) I2 (.cons rfl r) q2⟩
end
end Mq
namespace Mq
open PySem PySem.Spec PyProof.Rows L2
section
variable {X : Cx} {CX : CXT} {k : Nat} {f C : Addr} {fd : FuncData} {ps ks : List Str} {sp : Sp}
  {E : L2.St → XK} {m : Str} {pos apos : Pos} {o : Expr} {kws : List Keyword} {ta : TE} {tk : TA}
  {g : List Value → List Value → List Value} {gV : List V → List V → List V}
def tMethK (C : Addr) (m : Str) (many : Nat) (sp : Sp) (gV : List V → List V → List V) (E : L2.St → XK) (ta : TE) (tk : TA) : TE := fun σ H Q => ta σ H fun x H1 => ∃ a dx fs,
  x = .ref a ∧ H1 a = some (.ins C dx fs) ∧ fs.lookup m = none ∧ tk σ H1 fun zs H2 => zs.length = many ∧ sp (gV [x] zs) H2 Q (E σ)
/-- o.m(k = v, ..), what is raised being wished for at the slots as they stand -/
theorem pe_methK {pl : Sem Bool} (he : PE X o ta) (c : Cls X.K C) (hm : Meth X.K C m f)
    (F : FnOk X.prog X.w X.K X.mg X.base CX k f fd ps sp) (hr : Room k X.A) (hb : KBn X.K fd ps 1 ks g gV)
    (hx : ∀ σ, PassesAt CX X σ (E σ)) (hkw : PK X kws tk)
    (hall : (backToKw pos (keywordEach kws X.env)).all (·.1.isSome) = true := by rfl)
    (hks : (backToKw pos (keywordEach kws X.env)).filterMap (·.1) = ks := by rfl)
    (hpl : ((backTo pos (starEach [] X.env)).any (·.1) || (backToKw pos (keywordEach kws X.env)).any (·.1.isNone)) = false := by rfl)
    (ht : eval (.Call (.Attribute o m apos) [] kws pos) X.env = (do
      let ov ← eval o X.env
      standAt apos.atName
      let (f, first) ← holding [ov] (getMethod ov m pl)
      callWith pos f first (backTo pos (starEach [] X.env)) (backToKw pos (keywordEach kws X.env))) := by rfl) :
    PE X (.Call (.Attribute o m apos) [] kws pos) (tMethK C m ks.length sp gV E ta tk) := by
  refine ⟨fun pins s σ H Q I h => PySem.W.methodCall_KW (pl := pl) (thn (he.run pins s σ H _ I h) ?_) ht⟩
  rintro u s1 ⟨x, H1, I1, rx, a, dx, fs, rfl, ea, l, q⟩
  cases rx
  refine getmeth_ok I1 ea c hm l ?_
  refine PySem.W.callWith_KW0 (first := [.ref a]) (h₀ := X.base) I.ok.mod.kin hm.kp hall (thn (hkw.run pos pins s1 σ H1 _ I1 q) ?_) hpl
  rintro ws s2 ⟨zs, H2, I2, rz, hl, q2⟩
  refine ⟨I2.kIn, ?_⟩
  rw [hks]
  have r1 : Vals [V.ref a] [Value.ref a] := .cons rfl .nil
  have r2 := hb.rel r1 rz
  have lw : ws.length = ks.length := rz.length.symm.trans hl
  show wpAny _ _ (call (.ref f) [.ref a] (ks.zip ws)) _ _ _
  refine wpAny_call (codeAny_mono (F.run X.A X.stack s2 H2 ⟨[.ref a], ks.zip ws⟩ (g [.ref a] ws) (gV [.ref a] zs) Q (E σ) hr I2.env0
    (hb.to s2 [.ref a] ws I2.kIn rfl lw) r2 q2) (fun r s' hq => ?_))
  match r, hq with
  | .error er, hq => exact hx σ pins H2 s2 er s' I2 hq
  | .ok (.ret u), hq => exact I2.after hq
  | .ok .next, hq => exact hq.elim
  | .ok .brk, hq => exact hq.elim
  | .ok .cont, hq => exact hq.elim
end
end Mq

namespace Mq
open PySem PySem.Spec PyProof.Rows L2
open SX (S)
/-! ### what the module leaves of the built-in names -/
structure Blt (mg : Str → Option Value) : Prop where
  len : mg "len" = none
  range : mg "range" = none
  isi : mg "isinstance" = none
  all : mg "all" = none
  any : mg "any" = none
  int : mg "int" = none
  str : mg "str" = none
  bool : mg "bool" = none
  tuple : mg "tuple" = none
  list : mg "list" = none
  repr : mg "repr" = none
  enumerate : mg "enumerate" = none
/-! ### heaps that keep what was told -/
theorem same_new {H : Hp} {p : Addr} {o : HO} (h : H p = none) : Same H (upd H p o) := fun b u e => by
  rw [upd_ne (ne_of_none e h)]
  exact e
theorem Same.tup {K : PySem.W.Frag} {H H' : Hp} {a : Addr} {xs : List V} (e : Same H H') (h : SqT K H a xs) : SqT K H' a xs := by
  rcases h with (h | ⟨o, h⟩) | h
  · exact Or.inl (Or.inl (e _ _ h))
  · exact Or.inl (Or.inr ⟨o, e _ _ h⟩)
  · exact Or.inr h
mutual
theorem Dg.same {K : PySem.W.Frag} {H H' : Hp} (e : Same H H') : ∀ {v : V} {d : PyData}, Dg K H v d → Dg K H' v d
  | _, _, .non => .non
  | _, _, .bl b => .bl b
  | _, _, .int i => .int i
  | _, _, .str x => .str x
  | _, _, .lst n h a => .lst n (e.seq h) (DgAll.same e a)
  | _, _, .tup h a => .tup (Same.tup e h) (DgAll.same e a)
  | _, _, .dct h a => .dct (e _ _ h) (DgKv.same e a)
theorem DgAll.same {K : PySem.W.Frag} {H H' : Hp} (e : Same H H') : ∀ {v : List V} {d : List PyData}, DgAll K H v d → DgAll K H' v d
  | _, _, .nil => .nil
  | _, _, .cons a b => .cons (Dg.same e a) (DgAll.same e b)
theorem DgKv.same {K : PySem.W.Frag} {H H' : Hp} (e : Same H H') : ∀ {v : List (Key × V)} {d : List (PyData × PyData)}, DgKv K H v d → DgKv K H' v d
  | _, _, .nil => .nil
  | _, _, .cons a b => .cons (Dg.same e a) (DgKv.same e b)
end
mutual
theorem Dp.same {K : PySem.W.Frag} {H H' : Hp} (e : Same H H') : ∀ {v : V} {d : PyData}, Dp K H v d → Dp K H' v d
  | _, _, .non => .non
  | _, _, .bl b => .bl b
  | _, _, .int i => .int i
  | _, _, .str x => .str x
  | _, _, .lst h a => .lst (e.seq h) (DpAll.same e a)
  | _, _, .tup h a => .tup (Same.tup e h) (DpAll.same e a)
theorem DpAll.same {K : PySem.W.Frag} {H H' : Hp} (e : Same H H') : ∀ {v : List V} {d : List PyData}, DpAll K H v d → DpAll K H' v d
  | _, _, .nil => .nil
  | _, _, .cons a b => .cons (Dp.same e a) (DpAll.same e b)
end
/-! ### the kind of a value -/
def kindOf : PyData → String
  | .none => "NoneType"
  | .bool _ => "bool"
  | .int _ => "int"
  | .str _ => "str"
  | .list _ => "list"
  | .tuple _ => "tuple"
  | .dict _ => "dict"
theorem ty_list {K : PySem.W.Frag} {H : Hp} {a : Addr} {xs : List V} (h : SqL K H a xs) : TyX K H (.ref a) (.type "list") := by
  rcases h with (h | ⟨o, h⟩) | ⟨o, its, n, h, hc, _⟩
  · exact .base (.lst h)
  · exact .base (.frz h)
  · exact .kList h hc
theorem ty_tup {K : PySem.W.Frag} {H : Hp} {a : Addr} {xs : List V} (h : SqT K H a xs) : TyX K H (.ref a) (.type "tuple") := by
  rcases h with (h | ⟨o, h⟩) | ⟨o, its, n, h, hc, _⟩
  · exact .base (.tup h)
  · exact .fTuple h
  · exact .kTuple h hc
theorem Dg.ty {K : PySem.W.Frag} {H : Hp} {v : V} {d : PyData} (h : Dg K H v d) : TyX K H v (.type (kindOf d)) := by
  cases h with
  | non => exact .base .non
  | bl b => exact .base (.bl b)
  | int i => exact .base (.int i)
  | str x => exact .base (.str x)
  | lst _ h _ => exact ty_list h
  | tup h _ => exact ty_tup h
  | dct h _ => exact .base (.dK h)
theorem Dp.ty {K : PySem.W.Frag} {H : Hp} {v : V} {d : PyData} (h : Dp K H v d) : TyX K H v (.type (kindOf d)) := by
  cases h with
  | non => exact .base .non
  | bl b => exact .base (.bl b)
  | int i => exact .base (.int i)
  | str x => exact .base (.str x)
  | lst h _ => exact ty_list h
  | tup h _ => exact ty_tup h
/-- isinstance(x, T), T a built-in class -/
theorem isi_ty {K : PySem.W.Frag} {x : V} {a b : String} {r : Bool} {H : Hp} {Q : VK} (h : TyX K H x (.type a)) (e : kitB a b = some r) (q : Q (.bl r) H) :
    rIsi K [x, .ty b] H Q := ⟨x, .ty b, _, _, r, rfl, .ty b, h, kit_ty e, q⟩
theorem kit_known (a b : String) (ha : a ∈ ["NoneType", "bool", "int", "str", "list", "tuple", "dict"]) (hb : b ∈ ["str", "tuple", "list", "bool", "dict"]) :
    kitB a b = some (decide (a = b)) := by
  have h : (["NoneType", "bool", "int", "str", "list", "tuple", "dict"].all fun a => ["str", "tuple", "list", "bool", "dict"].all fun b =>
      decide (kitB a b = some (decide (a = b)))) = true := by decide +kernel
  have h1 := List.all_eq_true.mp h a ha
  have h2 := List.all_eq_true.mp h1 b hb
  exact of_decide_eq_true h2
theorem kind_in (d : PyData) : kindOf d ∈ ["NoneType", "bool", "int", "str", "list", "tuple", "dict"] := by
  cases d <;> simp [kindOf]
/-! ### comprehensions whose turns change nothing -/
theorem walk_rng {n : Nat} : Walk (Itr 0 n) n (fun _ => True) (YFn fun i => .int (i : Nat)) :=
  walk_range.mono (fun _ h => h) (fun i H x H' _ _ y => ⟨y.1, by rw [y.2]; show V.int (0 + (i : Int)) = V.int (i : Int); rw [Int.zero_add]⟩)
theorem lc_map {wi : TI} {J : It} {n : Nat} {G : Hp → Prop} {Y : Nat → Hp → V → Hp → Prop} (w : Walk J n G Y) {g : TG} {te : TE} {vs : List Nat} {σ : L2.St} {H0 : Hp} {Q : VK}
    (f : Nat → V) (hn : n ≤ 1000000) (hw : ∀ R : It → Hp → Prop, (∀ H, Same H0 H → G H → R J H) → wi σ H0 R) (hG : ∀ H H', Same H0 H → G H → Same H H' → G H')
    (hs : ∀ i x H H' (R : V → Hp → Prop), i < n → Same H0 H → Y i H x H' → (∀ H4, Same H H4 → R (f i) H4) →
      g x (wipe σ vs) H' fun σ2 H2 => wipe σ2 vs = wipe σ vs ∧ te σ2 H2 R)
    (hd : ∀ D H', H0 D = none → Same H0 H' → H' D = some (.lst ((List.range n).map f)) → Q (.ref D) H') : tLc wi g tYes te vs σ H0 Q := by
  refine hw _ (fun H sm0 hg0 D hD => ?_)
  have hD0 := sm0.free hD
  let Nx : Nat → Hp → Prop := fun i H' => Same H H' ∧ H' D = some (.lst ((List.range i).map f))
  refine ⟨fun i m H' => m = n - i ∧ i ≤ n ∧ Nx i H', ⟨n, by simp, Nat.zero_le _, same_new hD, upd_same⟩, ?_⟩
  rintro i m H' ⟨rfl, hi, sm, hl⟩
  have hg := hG H H' sm0 hg0 sm
  have sm' := sm0.trans sm
  by_cases hlt : i < n
  · refine Or.inr ⟨w.goes i H' hlt hg, Nx (i + 1), fun H'' p => ⟨n - (i + 1), by omega, rfl, hlt, p⟩, fun x H'' y => ?_⟩
    refine hs i x H' H'' _ hlt sm' (w.yields i H' x H'' hlt hg y) (fun H4 s4 => ?_)
    refine ⟨_, s4 D _ hl, ?_, fun b o e => ?_, ?_⟩
    · rw [List.length_map, List.length_range]
      exact Nat.lt_of_lt_of_le (Nat.lt_of_lt_of_le hlt hn) (by decide)
    · rw [upd_ne (ne_of_none e hD)]
      exact s4 b o (sm b o e)
    · rw [upd_same, List.range_succ, List.map_append]
      rfl
  · have e : i = n := by omega
    subst e
    exact Or.inl ⟨w.stops H' hg, hd D H' hD0 sm' hl⟩
end Mq

namespace Mq
open PySem PySem.Spec PyProof.Rows L2
/-! ### enumerate(v), v a tuple -/
theorem meets_enumT (l : Addr) (items : Array Value) :
    Meets (Builtin.«enumerate.__new__» ⟨[.type "enumerate", .ref l], []⟩) (fun _ R s => s.heap.IsTuple l items ∧
      R (.ok (.ret (.ref (s.heap.push { cls := .type "tuple_iterator", data := .fields #[.ref l, .int 0 0] }).objs.size)))
        { s with heap := (s.heap.push { cls := .type "tuple_iterator", data := .fields #[.ref l, .int 0 0] }).push { cls := .type "enumerate", data := .fields #[.none, .bool false, .ref s.heap.objs.size, rawInt 0, .none, .none] } }) :=
  .of_wp fun prog w A R s h => by
    obtain ⟨hp, g, d, tk, os⟩ := s; obtain ⟨hl, h⟩ := h
    have hsub := sub_enumerate
    have hL : Heap.IsTuple (Shared.heap ⟨hp, g, d, tk, os⟩) l items := hl
    obtain ⟨o, ho, _⟩ := id hl
    wp_walk using AutoSeq1.wpAny_loadPart' ho
    refine wpAny_stack_any fun st => wpAny_pure ?_
    split
    · rename_i c _ _ _ _ _
      cases (c == Value.type "enumerate")
      · wp_walk using AutoSeq1.wpAny_loadPart' ho, wpAny_pyIter_tuple hL
        exact ⟨_, rfl, h⟩
      · wp_walk using AutoSeq1.wpAny_loadPart' ho, wpAny_pyIter_tuple hL
        exact ⟨_, rfl, h⟩
    · wp_walk using AutoSeq1.wpAny_loadPart' ho, wpAny_pyIter_tuple hL
      exact ⟨_, rfl, h⟩
theorem call_enumT {prog : Program} {w : World} {A : Around} {E : Value → Shared → Prop} {s : Shared} {l : Addr} {items : Array Value} {Q : Value → Shared → Prop} (hL : s.heap.IsTuple l items)
    (h : ∀ h', IsEnum h' (s.heap.objs.size + 1) s.heap.objs.size 0 .none → h'.IsTupleIter s.heap.objs.size l 0 → h'.objs.size = s.heap.objs.size + 2 →
      (∀ b o, s.heap.get? b = some o → h'.get? b = some o) → Q (.ref (s.heap.objs.size + 1)) { s with heap := h' }) :
    wpAny (model prog w) A (call (.type "enumerate") [.ref l]) Q E s := by
  refine callType_new F.called_enumerate (by decide) (F.typeCall_enumerate_1 _) (F.newCall_enumerate_1 _) (fun obj => F.args_object_init_2 obj _) F.entry_enumerate_new
    (meets_enumT l items) ⟨hL, ?_⟩
  have hz : (s.heap.push { cls := .type "tuple_iterator", data := .fields #[.ref l, .int 0 0] }).objs.size = s.heap.objs.size + 1 := Heap.size_push ..
  show _ ∧ _
  rw [hz]
  have he : IsEnum ((s.heap.push { cls := .type "tuple_iterator", data := .fields #[.ref l, .int 0 0] }).push
      { cls := .type "enumerate", data := .fields #[.none, .bool false, .ref s.heap.objs.size, rawInt 0, .none, .none] }) (s.heap.objs.size + 1) s.heap.objs.size 0 .none := by
    have := Heap.get?_push_size (s.heap.push { cls := .type "tuple_iterator", data := .fields #[.ref l, .int 0 0] })
      (o := { cls := .type "enumerate", data := .fields #[.none, .bool false, .ref s.heap.objs.size, rawInt 0, .none, .none] }) rfl
    rw [hz] at this; exact this
  refine ⟨⟨_, he, rfl⟩, h _ he ⟨_, Heap.get?_push_of_some _ (Heap.get?_push_size _ rfl), rfl, rfl⟩ (by rw [Heap.size_push, hz]) fun b o x => Heap.get?_push_of_some _ (Heap.get?_push_of_some _ x)⟩
/-- the tuple at a, each item in a new pair -/
def Iee (K : PySem.W.Frag) (a : Addr) : It :=
  ⟨fun i H => ∃ (xs : List V) (x : V), SqT K H a xs ∧ xs[i]? = some x, fun i H v H' => ∃ T x, v = .ref T ∧ H T = none ∧ H' = upd H T (.tup [.int (i : Nat), x]) ∧ ∀ xs, SqT K H a xs → xs[i]? = some x, fun i H => ∃ xs : List V, SqT K H a xs ∧ xs.length ≤ i⟩
theorem turn_enumT {P : Program} {w : World} {K : PySem.W.Frag} {elts : List Expr} {kk : Nat} {tpos : Pos} (a e it : Addr) (ha : a ≠ it) (hae : a ≠ e) :
    Turn P w K (.Tuple elts kk tpos) (Iee K a) [e, it] e (fun i h => (∃ old, IsEnum h e it ((i : Nat) : Int) old) ∧ h.IsTupleIter it a i ∧ e ≠ it) where
  mem := by simp
  obj := fun i h st b hb => by
    obtain ⟨⟨old, he⟩, ⟨o, ho, hc, hd⟩, _⟩ := st
    have e' : b = e ∨ b = it := by simpa using hb
    rcases e' with z | z
    · rw [z]; exact ⟨_, he, fun v q => nomatch q⟩
    · rw [z]; exact ⟨o, ho, fun v q => by rw [hd] at q; cases q⟩
  keep := fun i h h' st k => let ⟨⟨old, he⟩, hi, hne⟩ := st; ⟨⟨old, k e (by simp) _ he⟩, hi.at fun o q => k it (by simp) o q, hne⟩
  item := by
    intro X hP hw hK hc i pins s σ H E I hf st hg
    subst hP hw hK
    obtain ⟨⟨old, he⟩, hit, hne⟩ := st
    obtain ⟨xs, x, hq, hx⟩ := hg
    obtain ⟨its, rv, p, hz⟩ := I.tuple hq
    obtain ⟨u, hu, ru⟩ := rv.get hx
    have hel : e < s.heap.objs.size := Heap.lt_size he
    have hil : it < s.heap.objs.size := by obtain ⟨_, q, _⟩ := hit; exact Heap.lt_size q
    have hp : s.heap.IsTuple a its.toArray := p
    have hu' : its.toArray[i]? = some u := by simpa using hu
    have hlt : i < its.toArray.size := by
      rw [List.size_toArray]
      rcases Nat.lt_or_ge i its.length with h | h
      · exact h
      · rw [List.getElem?_eq_none h] at hu
        cases hu
    refine wpAny_pyNext_enum_itemD (n := its.toArray.size) (Draws.tuple (show X.A.in1.handled = none from I.ok.hd hc) it a ha its.toArray) he ⟨hit, hp⟩ hlt hne (by simp only [List.mem_cons, List.not_mem_nil, or_false, not_or]; exact ⟨hne, fun z => hae z.symm⟩) fun x' h' tk hP' ho hst' hT hsz hk => ?_
    have ex : x' = u := by
      have h1 : some x' = some u := by rw [← hP', hu']
      exact Option.some.inj h1
    subst ex
    refine ⟨_, rfl, wpAny_letOwnedTupleGo_enum (s := { s with heap := h', toks := tk + 1 }) ho fun h'' he' sb => ?_⟩
    have hT2 : h''.get? s.heap.objs.size = some { cls := .type "tuple", data := .seq #[.int i tk, x'] } := (sb.2 _ (Nat.ne_of_gt hel)).trans hT
    have new : ObjOk X.prog X.w (upd H s.heap.objs.size (.tup [.int (i : Nat), x])) h'' s.heap.objs.size (.tup [.int (i : Nat), x]) :=
      ⟨by show 2 ≤ sizeLine; decide, [.int i tk, x'], .cons ⟨_, rfl⟩ (.cons ru .nil), ⟨_, hT2, rfl, _, rfl⟩⟩
    have I1 : Inv X pins σ (upd H s.heap.objs.size (.tup [.int (i : Nat), x])) { s with heap := h'', toks := tk + 1 } :=
      I.turnedNew (ch := [e, it]) (fun b ob hb q => (sb.2 b (fun z => hb (by simp [z]))).trans (hk b ob (fun z => hb (by simp [z])) (fun z => hb (by simp [z])) q)) hf (Nat.le_refl _) new
    refine ⟨.ref s.heap.objs.size, _, I1, rfl, ⟨_, x, rfl, I.hok.fresh (Nat.le_refl _), rfl, fun ys hy => by rw [I.tuple_inj hy hq]; exact hx⟩, ⟨⟨x', ?_⟩, hst'.1.at fun o q => (sb.2 it (Ne.symm hne)).trans q, hne⟩, fun b hb => ?_⟩
    · have e1 : ((i + 1 : Nat) : Int) = (i : Int) + 1 := by omega
      rw [e1]; exact he'
    · have hb' : b < s.heap.objs.size := by
        have e' : b = e ∨ b = it := by simpa using hb
        rcases e' with z | z
        · rw [z]; exact hel
        · rw [z]; exact hil
      rw [upd_ne (Nat.ne_of_lt hb')]
      exact (hf b hb).1
  done := by
    intro X hP hw hK hc i pins s σ H E I hf st hg
    subst hP hw hK
    obtain ⟨⟨old, he⟩, hit, hne⟩ := st
    obtain ⟨xs, hq, hx⟩ := hg
    obtain ⟨its, rv, p, hz⟩ := I.tuple hq
    obtain ⟨f0, f1, f2, f3, f4, f5⟩ := hf it (by simp)
    have hl := rv.length
    have hp : s.heap.IsTuple a its.toArray := p
    have D : Draws X.prog X.w X.A.in1 it [it, a] i (fun _ _ => False) (fun j h => j = i ∧ h.IsTupleIter it a i ∧ h.IsTuple a its.toArray) :=
      { live := fun _ _ st => let ⟨o, ho, _⟩ := st.2.1; ⟨o, ho⟩
        frame := fun _ _ _ st hk => ⟨st.1, st.2.1.at fun o e => hk it (by simp) o e, st.2.2.at fun o e => hk a (by simp) o e⟩
        item := fun j s Q E hi st hQ => absurd hi (by rw [st.1]; exact Nat.lt_irrefl i)
        done := fun s Q E st hE => wpAny_nextOf_tuple_end (show X.A.in1.handled = none from I.ok.hd hc) st.2.1 st.2.2 (by simp; omega) hE }
    exact wpAny_pyNext_enum_endD D he ⟨rfl, hit, hp⟩ fun h' eb => ⟨rfl, I.turned (t' := s.toks) (fun b o hb q => eb b o hb q) f0 f1 f3 f4 f5⟩
  self := fun A i s Q E st h => let ⟨⟨_, he⟩, _⟩ := st; wpAny_pyIter_enum he h
def iEnumT (K : PySem.W.Frag) (ta : TA) : TI := fun σ H R => ta σ H fun vs H1 => ∃ a xs, vs = [.ref a] ∧ SqT K H1 a xs ∧ R (Iee K a) H1
theorem pi_enumT {X : Cx} {e : Expr} {ta : TA} {p pos tpos : Pos} {elts : List Expr} {kk : Nat} (hg : Gl X "enumerate") (hm : X.mg "enumerate" = none) (ha : PA X [e] ta) (hs : starEach [e] X.env = [(false, eval e X.env)] := by rfl) :
    PI X (.Tuple elts kk tpos) (.Call (.Name "enumerate" p) [e] [] pos) (iEnumT X.K ta) := by
  refine ⟨fun pins s σ H R I h => ?_⟩
  refine Call_ (ld_blt I hg hm boot_enumerate (PyProof.Rows.callWith_type1 (thn (ha.run pos pins s σ H _ I h) fun us s1 ⟨vs, H1, I1, r1, q1⟩ => ?_) hs rfl))
  obtain ⟨a, xs, ex, hq, q⟩ := q1
  subst ex
  cases r1 with
  | cons r rr =>
    cases rr
    cases r
    obtain ⟨its, rv, p', hz⟩ := I1.tuple hq
    have hp : s1.heap.IsTuple a its.toArray := p'
    have hal : a < s1.heap.objs.size := by obtain ⟨_, q, _⟩ := hp; exact Heap.lt_size q
    refine call_enumT hp fun h' he hit hsz hk => wpAny_pyIter_enum he ?_
    have I2 : Inv X pins σ H1 { s1 with heap := h' } := I1.kept (t' := s1.toks) hk
    refine ⟨s1.heap.objs.size + 1, [s1.heap.objs.size + 1, s1.heap.objs.size], _, _, H1, rfl, I2, turn_enumT a (s1.heap.objs.size + 1) s1.heap.objs.size (Nat.ne_of_lt hal) (Nat.ne_of_lt (Nat.lt_succ_of_lt hal)), ⟨⟨.none, he⟩, hit, Nat.succ_ne_self _⟩, fun b hb => ?_, q⟩
    have e' : b = s1.heap.objs.size + 1 ∨ b = s1.heap.objs.size := by simpa using hb
    have hle : s1.heap.objs.size ≤ b := by
      rcases e' with z | z
      · rw [z]; exact Nat.le_add_right _ _
      · rw [z]; exact Nat.le_refl _
    exact I1.fpOk hle (I1.hok.fresh hle)
/-- the same, where what is walked is laid on the way -/
theorem lc_mapJ {wi : TI} {n : Nat} {Y : Nat → Hp → V → Hp → Prop} {g : TG} {te : TE} {vs : List Nat} {σ : L2.St} {H0 : Hp} {Q : VK}
    (f : Nat → V) (hn : n ≤ 1000000) (hw : ∀ R : It → Hp → Prop, (∀ (J : It) (G : Hp → Prop) (H : Hp), Walk J n G Y → (∀ H', G H → Same H H' → G H') → Same H0 H → G H → R J H) → wi σ H0 R)
    (hs : ∀ i x H H' (R : V → Hp → Prop), i < n → Same H0 H → Y i H x H' → (∀ H4, Same H H4 → R (f i) H4) →
      g x (wipe σ vs) H' fun σ2 H2 => wipe σ2 vs = wipe σ vs ∧ te σ2 H2 R)
    (hd : ∀ D H', H0 D = none → Same H0 H' → H' D = some (.lst ((List.range n).map f)) → Q (.ref D) H') : tLc wi g tYes te vs σ H0 Q := by
  refine hw _ (fun J G H w hG sm0 hg0 D hD => ?_)
  have hD0 := sm0.free hD
  let Nx : Nat → Hp → Prop := fun i H' => Same H H' ∧ H' D = some (.lst ((List.range i).map f))
  refine ⟨fun i m H' => m = n - i ∧ i ≤ n ∧ Nx i H', ⟨n, by simp, Nat.zero_le _, same_new hD, upd_same⟩, ?_⟩
  rintro i m H' ⟨rfl, hi, sm, hl⟩
  have hg := hG H' hg0 sm
  have sm' := sm0.trans sm
  by_cases hlt : i < n
  · refine Or.inr ⟨w.goes i H' hlt hg, Nx (i + 1), fun H'' p => ⟨n - (i + 1), by omega, rfl, hlt, p⟩, fun x H'' y => ?_⟩
    refine hs i x H' H'' _ hlt sm' (w.yields i H' x H'' hlt hg y) (fun H4 s4 => ?_)
    refine ⟨_, s4 D _ hl, ?_, fun b o e => ?_, ?_⟩
    · rw [List.length_map, List.length_range]
      exact Nat.lt_of_lt_of_le (Nat.lt_of_lt_of_le hlt hn) (by decide)
    · rw [upd_ne (ne_of_none e hD)]
      exact s4 b o (sm b o e)
    · rw [upd_same, List.range_succ, List.map_append]
      rfl
  · have e : i = n := by omega
    subst e
    exact Or.inl ⟨w.stops H' hg, hd D H' hD0 sm' hl⟩
end Mq

namespace Mq
open PySem PySem.Spec PyProof.Rows L2
/-- a comprehension without a test over what w walks -/
theorem lc_yes {J : It} {n : Nat} {G : Hp → Prop} {Y : Nat → Hp → V → Hp → Prop} (w : Walk J n G Y) {g : TG} {te : TE} {vs : List Nat} {σ : L2.St} {H1 : Hp} {D : Addr} {Qd : Hp → Prop} (Pv : Nat → Hp → Prop)
    (h0 : Pv 0 (upd H1 D (.lst []))) (hG : ∀ i H, i ≤ n → Pv i H → G H)
    (hs : ∀ i x H H', i < n → Pv i H → Y i H x H' → g x (wipe σ vs) H' fun σ2 H2 => wipe σ2 vs = wipe σ vs ∧ te σ2 H2 fun y H4 => ∃ acc, H4 D = some (.lst acc) ∧ acc.length < sizeLine ∧ Pv (i + 1) (upd H4 D (.lst (acc ++ [y]))))
    (hd : ∀ H, Pv n H → Qd H) :
    ∃ W : Nat → Nat → Hp → Prop, (∃ m, W 0 m (upd H1 D (.lst []))) ∧ ∀ i m H, W i m H →
      (J.stop i H ∧ Qd H) ∨ (J.go i H ∧ ∃ Nx : Hp → Prop, (∀ H', Nx H' → ∃ m', m' < m ∧ W (i + 1) m' H') ∧ ∀ x H', J.yld i H x H' → g x (wipe σ vs) H' fun σ2 H2 => wipe σ2 vs = wipe σ vs ∧ tYes σ2 H2 fun b H3 =>
        if b = true then te σ2 H3 fun y H4 => ∃ acc, H4 D = some (.lst acc) ∧ acc.length < sizeLine ∧ Nx (upd H4 D (.lst (acc ++ [y]))) else Nx H3) :=
  lc_it (tt := tYes) w Pv h0 hG hs hd
end Mq

namespace Mq
open PySem PySem.Spec PyProof.Rows L2
/-- isinstance(e, c), the held error's class being told among the values -/
theorem call_heldX {X : Cx} {a D : Addr} {oe : Obj} {cls : Value} {d : Option Addr} {pn : List (Addr × Obj)} (C : HeldC X.K D) (hz : Zc cls d oe)
    (hf : ∃ vs, oe.data = .fields vs) : CallR (X.suite a ((a, oe) :: pn)) (.builtin "isinstance") (fun xs H Q => cls = .ref D ∧ rHeld X.K D a d xs H Q) := by
  intro pins s σ H xs us Q I r h
  obtain ⟨rfl, h⟩ := h
  exact call_held C hz hf pins s σ H xs us Q I r h
/-! ### lists whose items are equal, told by != and == -/
theorem op_neFl {X : Cx} (hu : X.A.units + 64 < cLine) : OpR X (compareOp .NotEq) (fun x y H Q => ∃ a b xs, x = .ref a ∧ y = .ref b ∧ SqL X.K H a xs ∧ SqL X.K H b xs ∧ (∀ v ∈ xs, flatB v = true) ∧ Q (.bl false) H) := by
  intro pins s σ H x y v u Q I rx ry h
  obtain ⟨a, b, xs, rfl, rfl, ha, hb, hf, q⟩ := h
  cases (show v = Value.ref a from rx)
  cases (show u = Value.ref b from ry)
  obtain ⟨us, r1, p1, _⟩ := I.list ha
  obtain ⟨ws, r2, p2, _⟩ := I.list hb
  have hsz : us.toArray.size = ws.toArray.size := by
    rw [List.size_toArray, List.size_toArray, ← r1.length, ← r2.length]
  have he : ∀ j (h1 : j < us.toArray.size) (h2 : j < ws.toArray.size), SeqAt.EqAt X.A.in1 s us.toArray[j] ws.toArray[j] true := by
    intro j h1 h2
    have h1' : j < us.length := by simpa using h1
    have h2' : j < ws.length := by simpa using h2
    have e1 : xs.length = us.length := r1.length
    obtain ⟨u1, g1, k1⟩ := r1.get (i := j) (x := xs[j]'(by omega)) (List.getElem?_eq_getElem (by omega))
    obtain ⟨u2, g2, k2⟩ := r2.get (i := j) (x := xs[j]'(by omega)) (List.getElem?_eq_getElem (by omega))
    rw [List.getElem?_eq_getElem h1'] at g1
    rw [List.getElem?_eq_getElem h2'] at g2
    have k := eqAt_same (A := X.A.in1) (s := s) k1 k2 (hf _ (List.getElem_mem _))
    cases g1
    cases g2
    simpa using k
  have k := SeqAt.RcNeAt.lists (A := X.A) (s := s) (e := fun _ => true) p1.isList p2.isList hsz (by omega) he
  have z : (!(List.range us.toArray.size).all fun _ => true) = false := by rw [show ((List.range us.toArray.size).all fun _ => true) = true from List.all_eq_true.mpr fun _ _ => rfl]; rfl
  rw [z] at k
  exact k X.prog X.w _ _ ⟨.bl false, H, I, rfl, q⟩
/-- list(v), v a tuple: the new list is told to stand elsewhere than the modules -/
theorem call_lsN {X : Cx} : CallR X (.type "list") (fun xs H Q => ∃ p ys, xs = [.ref p] ∧ SqT X.K H p ys ∧ ∀ l, H l = none → l ≠ sysModules → Q (.ref l) (upd H l (.lst ys))) := by
  intro pins s σ H xs us Q I r hw
  obtain ⟨t, ys, rfl, ht, k⟩ := hw
  cases r with
  | cons r0 rr =>
    cases rr
    cases r0
    obtain ⟨its, rv, pl, hz⟩ := I.tuple ht
    have hlen := rv.length
    obtain ⟨o, ho, hc, n, hd⟩ := pl
    refine call_list_seq t (.inr rfl) ho hc hd (fun h2 c2 kp e => ?_) (by rw [List.size_toArray]; omega)
    have new : ObjOk X.prog X.w (upd H s.heap.objs.size (.lst ys)) h2 s.heap.objs.size (.lst ys) := ⟨hz, its, c2, rv, e⟩
    refine ⟨.ref _, upd H s.heap.objs.size (.lst ys), ?_, rfl, ?_⟩
    · exact I.laid (t' := s.toks) kp (Nat.le_refl _) new
    · exact k _ (I.hok.fresh (Nat.le_refl _)) (Nat.ne_of_gt (Inv.low I))
/-! ### how long what is shown can be -/
theorem small_short : ∀ n : Nat, n ≤ 1000 → (PyData.int (n : Nat)).shown.length ≤ 13 ∧ (PyData.int (n : Nat)).showable = true ∧ (PyData.int (n : Nat)).weight ≤ 20 := by
  have h : ((List.range 1001).all fun n => decide ((PyData.int (n : Nat)).shown.length ≤ 13) && ((PyData.int (n : Nat)).showable && decide ((PyData.int (n : Nat)).weight ≤ 20))) = true := by decide +kernel
  intro n hn
  have h1 := List.all_eq_true.mp h n (List.mem_range.mpr (by omega))
  obtain ⟨a, b⟩ := Bool.and_eq_true_iff.mp h1
  obtain ⟨b, c⟩ := Bool.and_eq_true_iff.mp b
  exact ⟨of_decide_eq_true a, b, of_decide_eq_true c⟩
theorem shown_fits {d : PyData} (h1 : d.canLay0 = true) (h2 : d.depth ≤ 64) (h3 : d.weight ≤ 1000000) (h4 : d.intsShort 13 = true) : d.shown.length ≤ sizeLine := by
  have h5 : d.weight ≤ 2 ^ 20 := Nat.le_trans h3 (by decide)
  have hl : PyData.layable0 d = true := by
    unfold PyData.layable0
    rw [h1, decide_eq_true h2, decide_eq_true h5]
    rfl
  exact Nat.le_trans (PyProof.Rows.shown_le13 hl h4) (by decide)
end Mq

namespace Mq
open PySem PySem.Spec PyProof.Rows L2
/-! ### a text, so many times -/
def repS (x : Str) (n : Nat) : Str := ⟨(List.replicate n x.cps).foldl (· ++ ·) #[]⟩
theorem op_mulS {X : Cx} : OpR X (binaryOp .Mult) (fun x y H Q => ∃ (z : Str) (n : Nat), x = .str z ∧ y = .int (n : Nat) ∧ 2 ≤ n ∧ n ≤ 1000 ∧ 1 ≤ z.length ∧ z.length ≤ 1000 ∧ (repS z n).length ≤ sizeLine ∧ Q (.str (repS z n)) H) := by
  intro pins s σ H x y v u Q I rx ry h
  obtain ⟨z, n, rfl, rfl, h1, h2, h3, h4, h5, q⟩ := h
  obtain ⟨t, rfl⟩ := rx
  obtain ⟨t', rfl⟩ := ry
  have hm : z.length * n ≤ 1000 * 1000 := Nat.mul_le_mul h4 h2
  have e1 : decide (((n : Nat) : Int) < -(2 ^ 63 : Int)) = false := decide_eq_false (by omega)
  have e2 : decide (((n : Nat) : Int) ≥ 2 ^ 63) = false := decide_eq_false (by omega)
  have e3 : (((n : Nat) : Int) == 1) = false := by
    rw [beq_eq_false_iff_ne]
    omega
  have e4 : (z.length == 0) = false := by
    rw [beq_eq_false_iff_ne]
    omega
  refine P.mul_str (by rw [e1, e2]; rfl) (fun _ _ => ?_) (fun _ _ => ?_) ?_
  · have hd : (1000 : Int) ≤ (2 ^ 63 - 1) / ((n : Nat) : Int) := by
      refine (Int.le_ediv_iff_mul_le (by omega)).mpr ?_
      omega
    omega
  · rw [Int.toNat_natCast]
    unfold Builtin.Str.tooLong
    exact decide_eq_false (by have : (1000 * 1000 : Nat) ≤ sizeLine := by decide
                              omega)
  · rw [if_neg (show ¬ ((n : Nat) : Int) < 1 by omega), e3, e4]
    exact ⟨h5, .str (repS z n), H, I.tok _, ⟨_, rfl⟩, q⟩
end Mq


namespace MqE_thing
open PySem PySem.Spec PyProof.Rows L2 Mq PySem.W PySem.Calls
/-! ### errors whose one parameter is thing -/
def iA (p1 p2 : Pos) : Arguments := { posonlyargs := [], args := [{ arg := "self", annotation := none, pos := p1 }, { arg := "thing", annotation := none, pos := p2 }], vararg := none, kwonlyargs := [], kw_defaults := [], kwarg := none, defaults := [] }
def iB (q1 q2 q3 q4 : Pos) : List Stmt := [.Assign [.Attribute (.Name "self" q1) "thing" q2] (.Name "thing" q3) q4]
def iS : Scope := { kind := .function, names := [(PySem.Str.ofString "self", .local), (PySem.Str.ofString "thing", .local)], isGenerator := false, isCoroutine := false, more := [] }
/-- what the written part says of the class x at C, and of its __init__ at fI -/
structure Txt (K : Frag) (mg : Str → Option Value) (x qual : Str) (C fI : Addr) : Prop where
  gC : mg x = some (.ref C)
  kC : keepIn K (.ref C) = true
  ex : excInitIn K C exTail "Exception.__new__" = true
  ov : excOver K C exTail = true
  hdC : hasDictIn K C = true
  tk : takerIn K C "thing" = some none
  sa : findIn K (.ref C) "__setattr__" = some (some (.builtin "object.__setattr__"))
  iC : findIn K (.ref C) "__init__" = some (some (.ref fI))
  tC : typeIn K (.ref fI) = some (.type "function")
  exC : subIn K (.ref C) (.type "BaseException") = some true
  tyC : typeIn K (.ref C) = some (.type "type")
  fn : ∃ (oc : Value) (od : Option Addr) (doc pm : Value) (an : Option Addr) (cdv ct : Value) (osl : Array (Option Value)) (p1 p2 q1 q2 q3 q4 : Pos),
    K.lookup fI = some ⟨oc, od, .func (fnOf "__init__" qual (iA p1 p2) (iB q1 q2 q3 q4) iS .none .none doc pm an cdv ct), osl⟩ ∧ codeIn K cdv qual = true
theorem ld_loc {M : Model} {s : Shared} {name : Str} {scope : Scope} {L a : Addr} {cd : Value} {m : Str → Option Value} {y : Str} {pos : Pos} {v : Value}
    {Q : Value → Shared → Prop} {A : Around} {E : Value → Shared → Prop} (hn : s.heap.Ns L m) (hv : m y = some v) (h : Q v s)
    (hk : scope.kind = .function := by rfl) (hl : (envOfC name scope L a cd).kindOf y = some .local := by rfl) (hd : (y == ("__debug__" : Str)) = false := by decide) :
    wpAny M A (eval (.Name y pos) (envOfC name scope L a cd)) Q E s := wpAny_Name (wpAny_loadName_local hk hl hn hv h) hd
/-- what __init__ leaves of a new error at e -/
structure Filled (h h' : Heap) (e C dx t1 : Addr) (v : Value) : Prop where
  keep : ∀ b o, b ≠ e → h.get? b = some o → h'.get? b = some o
  obj : h'.get? e = some (excObj C t1 (some dx) .none)
  big : h.objs.size ≤ dx
  ne : dx ≠ e
  ns : h'.Ns1 dx (fun y => if y = "thing" then some v else none)
/-- a made error -/
structure Made (h h' : Heap) (e C d : Addr) (v : Value) : Prop where
  keep : ∀ b o, h.get? b = some o → h'.get? b = some o
  new : h.objs.size ≤ e
  obj : ∃ oe vs, h'.get? e = some oe ∧ oe.cls = .ref C ∧ oe.dict = some d ∧ oe.data = .fields vs ∧ vs[1]? = some .none
  big : h.objs.size ≤ d
  ne : d ≠ e
  ns : h'.Ns1 d (fun y => if y = "thing" then some v else none)
section
variable {prog : Program} {w : World} {A : Around} {E : Value → Shared → Prop} {R : Result → Shared → Prop} {s : Shared} {K : Frag} {mg : Str → Option Value} {x qual : Str} {C fI : Addr}
theorem init_run (T : Txt K mg x qual C fI) {e t0 : Addr} {v : Value} (X : K.In s.heap) (lim : s.heap.NoLimit) (he : s.heap.get? e = some (excObj C t0 none .none)) (room : A.depth < recursionLimit)
    (hq : ∀ h' tk dx, Filled s.heap h' e C dx t0 v → R (.ok (.ret .none)) { s with heap := h', toks := tk }) :
    codeAny (model prog w) A (.call (.ref fI) ⟨[.ref e, v], []⟩) R s := by
  obtain ⟨oc, od, doc, pm, an, cdv, ct, osl, p1, p2, q1, q2, q3, q4, ho, hcd⟩ := T.fn
  refine Att.call_fn (binds := [("self", .ref e), ("thing", v)]) X lim ho hcd room (BindsTo.of_eq (by first | rfl | with_unfolding_all rfl)) (by first | rfl | decide | with_unfolding_all rfl) (fun s₁ IC => ?_) rfl rfl rfl
  obtain ⟨h₁, tk₁, rfl⟩ := IC.toInCall.same
  have k : ∀ b o, s.heap.get? b = some o → h₁.get? b = some o := IC.toInCall.keep
  have hn := IC.toInCall.ns
  have X₁ : K.In h₁ := X.keeps k
  have he₁ := k _ _ he
  show wpAny _ _ (execs _ _) _ _ _
  refine wpAny_execs_cons (plainObj_wpAny_Assign_Attribute ?_)
  refine ld_loc (v := v) hn (by first | rfl | with_unfolding_all rfl | kernel_rfl) (ld_loc (v := .ref e) hn (by first | rfl | with_unfolding_all rfl | kernel_rfl) ?_)
  refine set_plain X₁ (ox := excObj C t0 none .none) (od := none) ⟨he₁, rfl, rfl, trivial⟩ T.sa ?_
  refine osa_first X₁ he₁ T.ov T.hdC T.tk (fun h₃ tk₃ dx k₃ dn dne he₃ hn₃ => ?_)
  show wpAny _ _ (execs _ _) _ _ _
  have z : s.heap.objs.size < h₁.objs.size := hn.lt
  exact wpAny_execs_nil (hq h₃ tk₃ dx ⟨fun b o hb e => k₃ b o hb (k b o e), he₃, Nat.le_of_lt (Nat.lt_of_lt_of_le z dn), dne, hn₃⟩)
theorem made_run (T : Txt K mg x qual C fI) {v : Value} (X : K.In s.heap) (lim : s.heap.NoLimit) (room : A.depth + 1 < recursionLimit)
    (hq : ∀ h' tk e d, Made s.heap h' e C d v → R (.ok (.ret (.ref e))) { s with heap := h', toks := tk }) :
    codeAny (model prog w) A (.call (.ref C) ⟨[v], []⟩) R s := by
  obtain ⟨nm, N, qn, bs, bm, hdct, sn, sub, ab, col, dd, k0, k1, k2, k3, k5, hC, hT⟩ := excInit_of X T.ex
  obtain ⟨hp, g, dr, tk, os⟩ := s
  have k : ∀ b o, hp.get? b = some o → ((hp.push (kdv_tup [v])).push (HandSPX.excO C hp.objs.size)).get? b = some o := fun b o e => Heap.get?_push_of_some _ (Heap.get?_push_of_some _ e)
  have hget : ((hp.push (kdv_tup [v])).push (HandSPX.excO C hp.objs.size)).get? (hp.objs.size + 1) = some (excObj C hp.objs.size none .none) := by heap_get
  refine HandSPX.call_own F.excBase_Exception hT hC (looks_findIn X T.iC) (fun self => bind_fn X self T.tC) (by rw [sizeLine_eq]; exact (by decide : 1 ≤ 16777216)) ?_
  refine init_run (s := ⟨(hp.push (kdv_tup [v])).push (HandSPX.excO C hp.objs.size), g, dr, tk, os⟩) T (X.keeps k) (lim.keeps k) hget ?_ (fun h' tk' dx M => ?_)
  · show A.depth + 1 < recursionLimit
    exact room
  · obtain ⟨k', hx, dn, dne, hns⟩ := M
    have old : ∀ b o, hp.get? b = some o → h'.get? b = some o := fun b o e => k' b o (Nat.ne_of_lt (Nat.lt_succ_of_lt (Heap.lt_size e))) (k b o e)
    have z : hp.objs.size + 1 + 1 ≤ dx := by
      have q := dn
      rw [Heap.size_push, Heap.size_push] at q
      exact q
    exact ⟨rfl, hq h' tk' (hp.objs.size + 1) dx ⟨old, Nat.le_succ _, ⟨_, _, hx, rfl, rfl, rfl, rfl⟩, Nat.le_trans (Nat.le_trans (Nat.le_succ _) (Nat.le_succ _)) z, dne, hns⟩⟩
end
theorem relO_f {v : V} {v' : Value} (r : RelV v v') (f : Str) : RelO (List.lookup f [(("thing" : Str), v)]) (if f = "thing" then some v' else none) := by
  by_cases hw : f = "thing"
  · subst hw
    rw [if_pos rfl]
    have q : List.lookup ("thing" : Str) [(("thing" : Str), v)] = some v := by simp [List.lookup]
    rw [q]
    exact r
  · rw [if_neg hw]
    have qw : (f == ("thing" : Str)) = false := by simpa using hw
    have q2 : List.lookup f [(("thing" : Str), v)] = none := by simp [List.lookup, qw]
    rw [q2]
    trivial
section
variable {X : Cx} {C fI : Addr} {x qual : Str}
/-- x(e) -/
def tMk (C : Addr) (ta : TA) : L2.St → Hp → XK → Prop := fun σ H Q => ta σ H fun vs H1 => ∃ v, vs = [v] ∧ ∀ d, H1 d = none → Q (.ref C) (some d) (upd H1 d (.xd [(("thing" : Str), v)]))
theorem pmk {a : Expr} {ta : TA} {p pos : Pos} {k : Nat} (T : Txt X.K X.mg x qual C fI) (hr : Room k X.A) (ha : PA X [a] ta) (hg : Gl X x := by rfl) (hdb : (x == ("__debug__" : Str)) = false := by decide)
    (he : starEach (a :: []) X.env = (false, eval a X.env) :: starEach [] X.env := by rfl) (hpl : (backTo pos (starEach [] X.env)).any (·.1) = false := by rfl) :
    PMk X (.Call (.Name x p) [a] [] pos) (tMk C ta) := by
  intro pins s σ H Q I h
  refine wpAny_Call_Name_kw (ld_glob I hg T.gC ?_ hdb)
  refine callWith_K (h₀ := X.base) I.ok.mod.kin T.kC (thn (ha.run pos pins s σ H _ I h) fun us s1 hh => ?_) he hpl
  obtain ⟨vs, H1, I1, r1, v, ev, q1⟩ := hh
  subst ev
  refine ⟨I1.kIn, ?_⟩
  cases r1 with
  | cons rv rn =>
    rename_i v' us'
    cases rn
    show wpAny _ _ (call (.ref C) [v']) _ _ _
    have hlim := I1.nolimit
    obtain ⟨hp, g, dr, tk, os⟩ := s1
    refine wpAny_call (made_run T I1.kIn hlim (by have := hr.dp; omega) (fun h' tk' e d M => ?_))
    show MkP X pins σ Q (.ref e) ⟨h', g, dr, tk', os⟩
    obtain ⟨oe, fv, hoe, hc, hd, hdat, h1⟩ := M.obj
    have hns := M.ns
    obtain ⟨G', g1, g2⟩ := restrict h' fun b => decide (b ≠ e)
    have gk : ∀ b, b ≠ e → G'.get? b = h'.get? b := fun b hb => g1 b (decide_eq_true hb)
    have ge : G'.get? e = none := g2 e (by simp)
    have old : ∀ b o, hp.get? b = some o → G'.get? b = some o := fun b o q => (gk b (Nat.ne_of_lt (Nat.lt_of_lt_of_le (Heap.lt_size q) M.new))).trans (M.keep b o q)
    have ob : ObjOk X.prog X.w (upd H1 d (.xd [(("thing" : Str), v)])) G' d (.xd [(("thing" : Str), v)]) :=
      ⟨_, hns.at (fun o q => (gk d M.ne).trans q), fun f => relO_f rv f⟩
    have J : L2.Inv X pins σ (upd H1 d (.xd [(("thing" : Str), v)])) ⟨G', g, dr, tk', os⟩ := I1.laid (t' := tk') old M.big ob
    refine ⟨e, oe, fv, ⟨G', g, dr, tk', os⟩, _, .ref C, some d, rfl, J, (fun b o q => ?_), ge, hoe, ⟨hc, hd⟩, hdat, h1, ?_, rfl, I1.bare, raises_own T.exC T.tyC, q1 d (I1.hok.fresh M.big)⟩
    · by_cases hb : b = e
      · have q' : G'.get? b = some o := q
        rw [hb, ge] at q'
        cases q'
      · exact (gk b hb).symm.trans q
    · rw [upd_ne (Ne.symm M.ne)]
      exact I1.hok.fresh M.new
/-- raise x(e) -/
def tRaise (C : Addr) (W : WX) (ta : TA) : TS := fun _ σ H => tMk C ta σ H fun cls d H' => W cls d σ H'
theorem ps_raise {a : Expr} {ta : TA} {W : WX} {p pos pos2 : Pos} {k : Nat} (hc : X.calm = true) (T : Txt X.K X.mg x qual C fI) (hr : Room k X.A) (tk : Takes X W) (ha : PA X [a] ta) (hg : Gl X x := by rfl) (hdb : (x == ("__debug__" : Str)) = false := by decide)
    (he : starEach (a :: []) X.env = (false, eval a X.env) :: starEach [] X.env := by rfl) (hpl : (backTo pos (starEach [] X.env)).any (·.1) = false := by rfl) :
    PS X (.Raise (some (.Call (.Name x p) [a] [] pos)) none pos2) (tRaise C W ta) := L2.ps_raise hc tk (pmk T hr ha hg hdb he hpl)
end
end MqE_thing

namespace Lw
open PySem PySem.Spec PyProof.Rows L2 Mq
/-! ### where the defs stand -/
def topS (i : Nat) : Stmt := PySem.Challenge.pw_millhands_k65_where_letters_come_from.main.body.getD i (.Pass ⟨0, 0, 0, 0⟩)
abbrev s_BadBook___init__ : Stmt := inClass (topS 2) 0
theorem sc_BadBook___init__ : FnScope ["self", "part"] ["self", "part"] (defScope s_BadBook___init__) := ⟨rfl, rfl, rfl, by decide +kernel, rfl, by decide +kernel, by decide +kernel⟩
abbrev s_BadText___init__ : Stmt := inClass (topS 3) 0
theorem sc_BadText___init__ : FnScope ["self", "line"] ["self", "line"] (defScope s_BadText___init__) := ⟨rfl, rfl, rfl, by decide +kernel, rfl, by decide +kernel, by decide +kernel⟩
abbrev s_BadWeb___init__ : Stmt := inClass (topS 4) 0
theorem sc_BadWeb___init__ : FnScope ["self", "thing"] ["self", "thing"] (defScope s_BadWeb___init__) := ⟨rfl, rfl, rfl, by decide +kernel, rfl, by decide +kernel, by decide +kernel⟩
abbrev s_BadRow___init__ : Stmt := inClass (topS 5) 0
theorem sc_BadRow___init__ : FnScope ["self", "thing"] ["self", "thing"] (defScope s_BadRow___init__) := ⟨rfl, rfl, rfl, by decide +kernel, rfl, by decide +kernel, by decide +kernel⟩
abbrev s_is_letters : Stmt := topS 8
theorem sc_is_letters : FnScope ["thing", "letter"] ["thing"] (defScope s_is_letters) := ⟨rfl, rfl, rfl, by decide +kernel, rfl, by decide +kernel, by decide +kernel⟩
abbrev s_is_letter : Stmt := topS 9
theorem sc_is_letter : FnScope ["letters", "thing"] ["letters", "thing"] (defScope s_is_letter) := ⟨rfl, rfl, rfl, by decide +kernel, rfl, by decide +kernel, by decide +kernel⟩
abbrev s_is_word : Stmt := topS 10
theorem sc_is_word : FnScope ["letters", "thing", "letter"] ["letters", "thing"] (defScope s_is_word) := ⟨rfl, rfl, rfl, by decide +kernel, rfl, by decide +kernel, by decide +kernel⟩
abbrev s_is_ascending : Stmt := topS 11
theorem sc_is_ascending : FnScope ["parts", "k"] ["parts"] (defScope s_is_ascending) := ⟨rfl, rfl, rfl, by decide +kernel, rfl, by decide +kernel, by decide +kernel⟩
abbrev s_text_parts : Stmt := topS 12
theorem sc_text_parts : FnScope ["word", "text", "lines", "words"] ["word", "text"] (defScope s_text_parts) := ⟨rfl, rfl, rfl, by decide +kernel, rfl, by decide +kernel, by decide +kernel⟩
abbrev s_Book___init__ : Stmt := inClass (topS 14) 0
theorem sc_Book___init__ : FnScope ["self", "letters", "folds", "table", "ahead", "number", "fold"] ["self", "letters", "folds"] (defScope s_Book___init__) := ⟨rfl, rfl, rfl, by decide +kernel, rfl, by decide +kernel, by decide +kernel⟩
abbrev s_Book___len__ : Stmt := inClass (topS 14) 1
theorem sc_Book___len__ : FnScope ["self"] ["self"] (defScope s_Book___len__) := ⟨rfl, rfl, rfl, by decide +kernel, rfl, by decide +kernel, by decide +kernel⟩
abbrev s_Book___eq__ : Stmt := inClass (topS 14) 2
theorem sc_Book___eq__ : FnScope ["self", "other"] ["self", "other"] (defScope s_Book___eq__) := ⟨rfl, rfl, rfl, by decide +kernel, rfl, by decide +kernel, by decide +kernel⟩
abbrev s_Book___str__ : Stmt := inClass (topS 14) 3
theorem sc_Book___str__ : FnScope ["self", "lines", "last", "laid", "left"] ["self"] (defScope s_Book___str__) := ⟨rfl, rfl, rfl, by decide +kernel, rfl, by decide +kernel, by decide +kernel⟩
abbrev s_Book_read : Stmt := inClass (topS 14) 4
theorem sc_Book_read : FnScope ["cls", "text", "letters", "lines", "folds", "line", "fold"] ["cls", "text"] (defScope s_Book_read) := ⟨rfl, rfl, rfl, by decide +kernel, rfl, by decide +kernel, by decide +kernel⟩
abbrev s_Book_left_of : Stmt := inClass (topS 14) 5
theorem sc_Book_left_of : FnScope ["self", "last", "laid"] ["self", "last", "laid"] (defScope s_Book_left_of) := ⟨rfl, rfl, rfl, by decide +kernel, rfl, by decide +kernel, by decide +kernel⟩
abbrev s_is_fold : Stmt := topS 15
theorem sc_is_fold : FnScope ["letters", "thing"] ["letters", "thing"] (defScope s_is_fold) := ⟨rfl, rfl, rfl, by decide +kernel, rfl, by decide +kernel, by decide +kernel⟩
abbrev s_fold_read : Stmt := topS 16
theorem sc_fold_read : FnScope ["letters", "line", "words", "fold"] ["letters", "line"] (defScope s_fold_read) := ⟨rfl, rfl, rfl, by decide +kernel, rfl, by decide +kernel, by decide +kernel⟩
abbrev s_is_web : Stmt := topS 17
theorem sc_is_web : FnScope ["letters", "thing"] ["letters", "thing"] (defScope s_is_web) := ⟨rfl, rfl, rfl, by decide +kernel, rfl, by decide +kernel, by decide +kernel⟩
abbrev s_check_web : Stmt := topS 18
theorem sc_check_web : FnScope ["letters", "thing"] ["letters", "thing"] (defScope s_check_web) := ⟨rfl, rfl, rfl, by decide +kernel, rfl, by decide +kernel, by decide +kernel⟩
abbrev s_laid_behind : Stmt := topS 19
theorem sc_laid_behind : FnScope ["book", "web", "letter", "left"] ["book", "web", "letter"] (defScope s_laid_behind) := ⟨rfl, rfl, rfl, by decide +kernel, rfl, by decide +kernel, by decide +kernel⟩
abbrev s_check_rows : Stmt := topS 21
theorem sc_check_rows : FnScope ["book", "rows", "row"] ["book", "rows"] (defScope s_check_rows) := ⟨rfl, rfl, rfl, by decide +kernel, rfl, by decide +kernel, by decide +kernel⟩
abbrev s_check_woven : Stmt := topS 23
theorem sc_check_woven : FnScope ["book", "web", "row"] ["book", "web", "row"] (defScope s_check_woven) := ⟨rfl, rfl, rfl, by decide +kernel, rfl, by decide +kernel, by decide +kernel⟩
abbrev s_webs_behind : Stmt := topS 24
theorem sc_webs_behind : FnScope ["book", "web", "row", "webs", "letter"] ["book", "web", "row"] (defScope s_webs_behind) := ⟨rfl, rfl, rfl, by decide +kernel, rfl, by decide +kernel, by decide +kernel⟩
abbrev s_webs_along : Stmt := topS 25
theorem sc_webs_along : FnScope ["book", "web", "row"] ["book", "web", "row"] (defScope s_webs_along) := ⟨rfl, rfl, rfl, by decide +kernel, rfl, by decide +kernel, by decide +kernel⟩
abbrev s_told_along : Stmt := topS 26
theorem sc_told_along : FnScope ["book", "web", "row", "found", "at", "standing", "laid", "left", "_", "source", "letter"] ["book", "web", "row"] (defScope s_told_along) := ⟨rfl, rfl, rfl, by decide +kernel, rfl, by decide +kernel, by decide +kernel⟩
abbrev s_events : Stmt := topS 27
theorem sc_events : FnScope ["book", "web", "row"] ["book", "web", "row"] (defScope s_events) := ⟨rfl, rfl, rfl, by decide +kernel, rfl, by decide +kernel, by decide +kernel⟩
abbrev s_sources : Stmt := topS 28
theorem sc_sources : FnScope ["book", "web", "row"] ["book", "web", "row"] (defScope s_sources) := ⟨rfl, rfl, rfl, by decide +kernel, rfl, by decide +kernel, by decide +kernel⟩
abbrev s__law_deck : Stmt := topS 30
theorem sc__law_deck : FnScope ["_law_script", "_law_mixed", "_law_cell"] ["_law_script"] (defScope s__law_deck) := ⟨rfl, rfl, rfl, by decide +kernel, rfl, by decide +kernel, by decide +kernel⟩
abbrev s__law_draw : Stmt := topS 31
theorem sc__law_draw : FnScope ["_law_deck_here", "_law_many", "_law_cell", "_law_lap", "_law_mixed"] ["_law_deck_here", "_law_many"] (defScope s__law_draw) := ⟨rfl, rfl, rfl, by decide +kernel, rfl, by decide +kernel, by decide +kernel⟩
abbrev s__law_pick : Stmt := topS 32
theorem sc__law_pick : FnScope ["_law_deck_here", "_law_some"] ["_law_deck_here", "_law_some"] (defScope s__law_pick) := ⟨rfl, rfl, rfl, by decide +kernel, rfl, by decide +kernel, by decide +kernel⟩
abbrev s__law_book : Stmt := topS 33
theorem sc__law_book : FnScope ["_law_deck_here", "_law_signs", "_law_way", "_law_lot", "_law_x", "_law_y", "_law_is_gone"] ["_law_deck_here", "_law_signs"] (defScope s__law_book) := ⟨rfl, rfl, rfl, by decide +kernel, rfl, by decide +kernel, by decide +kernel⟩
abbrev s__law_code : Stmt := topS 34
theorem sc__law_code : FnScope ["_law_f", "_law_x", "_law_y"] ["_law_f"] (defScope s__law_code) := ⟨rfl, rfl, rfl, by decide +kernel, rfl, by decide +kernel, by decide +kernel⟩
abbrev s__law_lays : Stmt := topS 35
theorem sc__law_lays : FnScope ["_law_deck_here", "_law_signs", "_law_most", "_law_found", "_law_size", "_law_piece", "_law_k"] ["_law_deck_here", "_law_signs", "_law_most"] (defScope s__law_lays) := ⟨rfl, rfl, rfl, by decide +kernel, rfl, by decide +kernel, by decide +kernel⟩
abbrev s__law_trace : Stmt := topS 36
theorem sc__law_trace : FnScope ["_law_f", "_law_cloth", "_law_lays_here", "_law_k", "_law_stack", "_law_found", "_law_along", "_law_y", "_law_far", "_law_x", "_law_spot"] ["_law_f", "_law_cloth", "_law_lays_here"] (defScope s__law_trace) := ⟨rfl, rfl, rfl, by decide +kernel, rfl, by decide +kernel, by decide +kernel⟩
abbrev s__law_heard : Stmt := topS 37
theorem sc__law_heard : FnScope ["_law_code_here", "_law_way", "_law_cloth", "_law_lays_here", "_law_is_named", "_law_found", "e"] ["_law_code_here", "_law_way", "_law_cloth", "_law_lays_here", "_law_is_named"] (defScope s__law_heard) := ⟨rfl, rfl, rfl, by decide +kernel, rfl, by decide +kernel, by decide +kernel⟩
abbrev s__law_right : Stmt := topS 38
theorem sc__law_right : FnScope ["_law_f", "_law_code_here", "_law_cloth", "_law_lays_here", "_law_due", "_law_way", "_law_said"] ["_law_f", "_law_code_here", "_law_cloth", "_law_lays_here"] (defScope s__law_right) := ⟨rfl, rfl, rfl, by decide +kernel, rfl, by decide +kernel, by decide +kernel⟩
abbrev s__law_odd_right : Stmt := topS 39
theorem sc__law_odd_right : FnScope ["_law_deck_here", "_law_code_here", "_law_cloth", "_law_lays_here", "_law_some", "_law_odd", "_law_more", "_law_way", "_law_lots", "_law_near", "_law_far", "_law_due"] ["_law_deck_here", "_law_code_here", "_law_cloth", "_law_lays_here"] (defScope s__law_odd_right) := ⟨rfl, rfl, rfl, by decide +kernel, rfl, by decide +kernel, by decide +kernel⟩
abbrev s_law : Stmt := topS 40
theorem sc_law : FnScope ["_law_script", "_law_deck_here", "_law_turn", "_law_f", "_law_code_here", "_law_is_long", "_law_cloth", "_law_lays_here"] ["_law_script"] (defScope s_law) := ⟨rfl, rfl, rfl, by decide +kernel, rfl, by decide +kernel, by decide +kernel⟩
end Lw

namespace Lw
open PySem PySem.Spec PyProof.Rows L2 Mq
open SX (S)
/-! ### letters -/
def ascB (l : List Nat) : Bool := ((List.range (l.length - 1)).map fun k => decide (l.getD k 0 < l.getD (k + 1) 0)).all id
theorem lt_sign (c d : Nat) : decide ((S [c]).cps.toList < (S [d]).cps.toList) = decide (c < d) := by
  have h : ((S [c]).cps.toList < (S [d]).cps.toList) ↔ c < d := by
    show ([c] : List Nat) < [d] ↔ c < d
    rw [List.cons_lt_cons_iff]
    simp
  exact decide_eq_decide.mpr h
theorem sz_le {n : Nat} (h : n ≤ 1000000) : n ≤ sizeLine := Nat.le_trans h (by decide)
theorem sz_lt {n : Nat} (h : n ≤ 1000000) : n < sizeLine := Nat.lt_of_le_of_lt h (by decide)
theorem at_get {l : List Nat} {k : Nat} (h : k < l.length) : atI (S l).cps.toList (k : Int) = some (l.getD k 0) := by
  refine atI_nat ?_
  show l[k]? = _
  rw [List.getElem?_eq_getElem h, List.getD_eq_getElem?_getD, List.getElem?_eq_getElem h]
  rfl
theorem ix_sign {l : List Nat} {k : Nat} {H : Hp} {Q : VK} (hl : l.length ≤ 100000) (h : k < l.length) (q : Q (.str (S [l.getD k 0])) H) : rIxS (.str (S l)) (.int (k : Int)) H Q :=
  ⟨S l, (k : Int), l.getD k 0, rfl, rfl, sz_le (by rw [SX.S_len]; omega), at_get h, q⟩
theorem len_S {K : PySem.W.Frag} {H : Hp} {l : List Nat} (hl : l.length ≤ 100000) : LenV K (.str (S l)) H (l.length : Nat) := by
  have hz := SX.S_len l
  refine ⟨?_, ?_⟩
  · rw [hz]
    exact sz_le (by omega)
  · rw [hz]
def spAsc : Sp := fun vs H Q _ => ∃ l : List Nat, vs = [.str (S l)] ∧ l.length ≤ 100000 ∧ ∀ H', Same H H' → Q (.bl (ascB l)) H'
section
variable {P : Program} {w : World} {K : PySem.W.Frag} {mg : Str → Option Value} {base : Heap}
theorem ok_is_ascending {f : Addr} {fd : FuncData} (F : Fun K "is_ascending" "is_ascending" s_is_ascending f fd) (B : Blt mg) :
    FnOk P w K mg base CX0 1 f fd ["parts"] spAsc := by
  refine F.ok sc_is_ascending (fun vs H Q E h => ?_) (fun cdv A outer s H vs Q E hr h => ?_)
  · obtain ⟨l, rfl, _⟩ := h
    rfl
  · obtain ⟨l, rfl, hl, q⟩ := h
    have hz : (S l).length = l.length := SX.S_len l
    refine ⟨_, pss_one (ps_ret (pe_callB (cr_all rfl) (by rfl) B.all (by decide +kernel) (pa_cons (pe_lc (own := [("k", 1)]) (g := gName 1) (tt := tYes) rfl sc_is_ascending.nd
      (pi_range1 (by rfl) B.range (pa_cons (pe_op op_sub (pe_callB call_len (by rfl) B.len (by decide +kernel) (pa_cons (pv 0) pa_nil)) pe_int) pa_nil))
      (blkOk_by (own := [("k", 1)]) (N := ["parts", "k"]) (sc := defScope s_is_ascending) (by decide +kernel)) (fun _ _ _ _ _ => pg_name (i := 1) sc_is_ascending.nd rfl (Or.inl rfl)) (fun _ _ _ _ _ => pts_nil)
      (fun _ _ _ _ _ => pe_cmpR op_lt_str (pe_ix ix_str (pv 0) (pv 1) (fun _ _ => rfl)) (pe_ix ix_str (pv 0) (pe_op op_add (pv 1) pe_int) (fun _ _ => rfl)) (nomark _))) pa_nil))), ?_⟩
    have e1 : ((l.length : Int) - 1).toNat = l.length - 1 := by omega
    unfold tRet tCB tCons
    refine lc_map (n := l.length - 1) walk_rng (fun k => .bl (decide (l.getD k 0 < l.getD (k + 1) 0))) (by omega) (fun R k => ?_) (fun _ _ _ _ _ => trivial) ?_ ?_
    · refine ⟨.str (S l), rfl, .str (S l), l.length, rfl, len_S hl, _, _, rfl, rfl, (l.length : Int) - 1, rfl, by omega, by omega, ?_⟩
      rw [e1]
      exact k _ (Same.refl _) trivial
    · rintro i x H' H'' R hi sm ⟨rfl, rfl⟩ k
      refine ⟨rfl, .str (S l), rfl, .int (i : Nat), rfl, ?_⟩
      refine ix_sign hl (by omega) ⟨.str (S l), rfl, .int (i : Nat), rfl, _, _, rfl, rfl, ?_⟩
      refine ix_sign (k := i + 1) hl (by omega) ?_
      refine ⟨S [l.getD i 0], S [l.getD (i + 1) 0], rfl, rfl, ?_⟩
      rw [lt_sign]
      exact k _ (Same.refl _)
    · intro D H' hD sm hl'
      refine ⟨D, (List.range (l.length - 1)).map fun k => decide (l.getD k 0 < l.getD (k + 1) 0), rfl, SqL.of ?_, q H' sm⟩
      rw [List.map_map]
      exact hl'
end
end Lw

namespace Lw
open PySem PySem.Spec PyProof.Rows L2 Mq
open SX (S)
def alpha : List Nat := List.range' 97 26
theorem alpha_is : ("abcdefghijklmnopqrstuvwxyz" : Str) = S alpha := by decide +kernel
def inB (c : Nat) (l : List Nat) : Bool := decide (c ∈ l)
def allB (l s : List Nat) : Bool := ((List.range l.length).map fun k => inB (l.getD k 0) s).all id
def lettersB (l : List Nat) : Bool := !decide (l = []) && (ascB l && allB l alpha)
/-- a value of a known kind that is no text -/
def NoStr (K : PySem.W.Frag) (H : Hp) (v : V) : Prop := ∃ a, TyX K H v (.type a) ∧ a ∈ ["NoneType", "bool", "int", "str", "list", "tuple", "dict"] ∧ a ≠ "str"
theorem kit_no {K : PySem.W.Frag} {a : String} (m : a ∈ ["NoneType", "bool", "int", "str", "list", "tuple", "dict"]) (n : a ≠ "str") : PySem.W.kitOne K (.type a) (.type "str") = some false :=
  kit_ty (by rw [kit_known a "str" m (by simp), decide_eq_false n])
theorem kit_self {K : PySem.W.Frag} : PySem.W.kitOne K (.type "str") (.type "str") = some true := kit_ty (by decide +kernel)
theorem str_is_nil (l : List Nat) : decide (V.str (S l) = V.str "") = decide (l = []) := by
  refine decide_eq_decide.mpr ⟨fun h => ?_, fun h => by rw [h]; rfl⟩
  have h1 : S l = S [] := V.str.inj h
  exact SX.S_inj h1
theorem walk_S (l : List Nat) : Walk (Its (S l)) l.length (fun _ => True) (YFn fun i => .str (S [l.getD i 0])) := by
  refine walk_str.mono (fun _ h => h) (fun i H x H' hi _ y => ⟨y.1, ?_⟩)
  obtain ⟨_, c, hc, rfl⟩ := y
  have hc' : l[i]? = some c := by simpa using hc
  show V.str (S [c]) = V.str (S [l.getD i 0])
  rw [List.getD_eq_getElem?_getD, hc']
  rfl
/-- what a name is looked up in: letters, signs -/
def spLetters (K : PySem.W.Frag) : Sp := fun vs H Q _ => ∃ v, vs = [v] ∧
  ((∃ l : List Nat, v = .str (S l) ∧ l.length ≤ 100000 ∧ ∀ H', Same H H' → Q (.bl (lettersB l)) H') ∨ (NoStr K H v ∧ ∀ H', Same H H' → Q (.bl false) H'))
def spWord (K : PySem.W.Frag) : Sp := fun vs H Q _ => ∃ (s : List Nat) (v : V), vs = [.str (S s), v] ∧
  ((∃ l : List Nat, v = .str (S l) ∧ l.length ≤ 100000 ∧ ∀ H', Same H H' → Q (.bl (allB l s)) H') ∨ (NoStr K H v ∧ ∀ H', Same H H' → Q (.bl false) H'))
section
variable {P : Program} {w : World} {K : PySem.W.Frag} {mg : Str → Option Value} {base : Heap}
theorem ok_is_letters {f fA : Addr} {fd fdA : FuncData} (F : Fun K "is_letters" "is_letters" s_is_letters f fd) (B : Blt mg)
    (FA : Fun K "is_ascending" "is_ascending" s_is_ascending fA fdA) (gA : mg "is_ascending" = some (.ref fA)) (bA : Binds K fdA ["parts"] [])
    (al : ∃ t, mg "ALPHABET" = some (.str "abcdefghijklmnopqrstuvwxyz" t)) :
    FnOk P w K mg base CX0 2 f fd ["thing"] (spLetters K) := by
  have GA : FnOk P w K mg base CX0 1 fA fdA ["parts"] spAsc := ok_is_ascending FA B
  obtain ⟨ta, al⟩ := al
  refine F.ok sc_is_letters (fun vs H Q E h => ?_) (fun cdv A outer s H vs Q E hr h => ?_)
  · obtain ⟨v, rfl, _⟩ := h
    rfl
  · obtain ⟨v, rfl, h⟩ := h
    refine ⟨_, pss_cons (ps_if (PW.pt (pw_or (pt_not (pt_val (pe_callB call_isi (by rfl) B.isi (by decide +kernel) (pa_cons (pv 0) (pa_cons (pe_bltn (v := .ty "str") (by rfl) B.str (by decide +kernel) rfl) pa_nil)))))
        (pw_or1 (pt_cmpR op_eq (pv 0) pe_str (nomark _))))) (pss_one (ps_ret pe_bl)) pss_nil)
      (pss_one (ps_ret (pe_and (pe_call GA (hr.mono (by decide)) (by rfl) gA FA.kp bA .nil pass0 (pa_cons (pv 0) pa_nil))
        (pe_one (pe_callB (cr_all rfl) (by rfl) B.all (by decide +kernel) (pa_cons (pe_lc (own := [("letter", 1)]) (g := gName 1) (tt := tYes) rfl sc_is_letters.nd (pi_str (pv 0))
          (blkOk_by (own := [("letter", 1)]) (N := ["thing", "letter"]) (sc := defScope s_is_letters) (by decide +kernel)) (fun _ _ _ _ _ => pg_name (i := 1) sc_is_letters.nd rfl (Or.inl rfl)) (fun _ _ _ _ _ => pts_nil)
          (fun _ _ _ _ _ => pe_cmpR op_in_sign (pv 1) (pe_glob (v := .str "abcdefghijklmnopqrstuvwxyz") rfl al ⟨_, rfl⟩) rfl)) pa_nil)))))), ?_⟩
    rcases h with ⟨l, rfl, hl, q⟩ | ⟨hn, q⟩
    · refine ⟨.str (S l), rfl, .str (S l), .ty "str", _, _, true, rfl, .ty _, .base (.str _), kit_self, true, rfl, iteF ⟨.str (S l), rfl, rfl, _, rfl, ?_⟩⟩
      rw [str_is_nil]
      cases e : decide (l = []) with
      | true =>
        refine iteT ?_
        have q' := q H (Same.refl H)
        unfold lettersB at q'
        rw [e] at q'
        exact q'
      | false =>
        refine iteF ⟨.str (S l), rfl, l, rfl, hl, fun H1 s1 => ⟨_, rfl, ?_⟩⟩
        have q' : ∀ H', Same H H' → Q (.bl (ascB l && allB l alpha)) H' := fun H' sm => by
          have z := q H' sm
          unfold lettersB at z
          rw [e] at z
          exact z
        cases ea : ascB l with
        | false =>
          refine iteF ?_
          have z := q' H1 s1
          rw [ea] at z
          exact z
        | true =>
          refine iteT ?_
          rw [ea] at q'
          unfold tCB tCons
          refine lc_map (n := l.length) (walk_S l) (fun k => .bl (inB (l.getD k 0) alpha)) (by omega) (fun R k => ⟨_, rfl, S l, rfl, k _ (Same.refl _) trivial⟩) (fun _ _ _ _ _ => trivial) ?_ ?_
          · rintro i x H' H'' R hi sm ⟨rfl, rfl⟩ k
            refine ⟨rfl, .str (S [l.getD i 0]), rfl, ?_⟩
            rw [alpha_is]
            exact ⟨l.getD i 0, S alpha, rfl, rfl, k _ (Same.refl _)⟩
          · intro D H' hD sm hl'
            refine ⟨D, (List.range l.length).map fun k => inB (l.getD k 0) alpha, rfl, SqL.of ?_, q' H' (s1.trans sm)⟩
            rw [List.map_map]
            exact hl'
    · obtain ⟨a, t, m, n⟩ := hn
      exact ⟨v, rfl, v, .ty "str", .type a, _, false, rfl, .ty _, t, kit_no m n, false, rfl, iteT (iteT (q H (Same.refl H)))⟩
theorem ok_is_word {f : Addr} {fd : FuncData} (F : Fun K "is_word" "is_word" s_is_word f fd) (B : Blt mg) : FnOk P w K mg base CX0 1 f fd ["letters", "thing"] (spWord K) := by
  refine F.ok sc_is_word (fun vs H Q E h => ?_) (fun cdv A outer s H vs Q E hr h => ?_)
  · obtain ⟨s, v, rfl, _⟩ := h
    rfl
  · obtain ⟨sg, v, rfl, h⟩ := h
    refine ⟨_, pss_one (ps_ret (pe_and (pe_callB call_isi (by rfl) B.isi (by decide +kernel) (pa_cons (pv 1) (pa_cons (pe_bltn (v := .ty "str") (by rfl) B.str (by decide +kernel) rfl) pa_nil)))
      (pe_one (pe_callB (cr_all rfl) (by rfl) B.all (by decide +kernel) (pa_cons (pe_lc (own := [("letter", 2)]) (g := gName 2) (tt := tYes) rfl sc_is_word.nd (pi_str (pv 1))
        (blkOk_by (own := [("letter", 2)]) (N := ["letters", "thing", "letter"]) (sc := defScope s_is_word) (by decide +kernel)) (fun _ _ _ _ _ => pg_name (i := 2) sc_is_word.nd rfl (Or.inl rfl)) (fun _ _ _ _ _ => pts_nil)
        (fun _ _ _ _ _ => pe_cmpR op_in_sign (pv 2) (pv 0) rfl)) pa_nil))))), ?_⟩
    rcases h with ⟨l, rfl, hl, q⟩ | ⟨hn, q⟩
    · refine ⟨.str (S l), rfl, .str (S l), .ty "str", _, _, true, rfl, .ty _, .base (.str _), kit_self, true, rfl, iteT ?_⟩
      unfold tCB tCons
      refine lc_map (n := l.length) (walk_S l) (fun k => .bl (inB (l.getD k 0) sg)) (by omega) (fun R k => ⟨_, rfl, S l, rfl, k _ (Same.refl _) trivial⟩) (fun _ _ _ _ _ => trivial) ?_ ?_
      · rintro i x H' H'' R hi sm ⟨rfl, rfl⟩ k
        exact ⟨rfl, .str (S [l.getD i 0]), rfl, .str (S sg), rfl, l.getD i 0, S sg, rfl, rfl, k _ (Same.refl _)⟩
      · intro D H' hD sm hl'
        refine ⟨D, (List.range l.length).map fun k => inB (l.getD k 0) sg, rfl, SqL.of ?_, q H' sm⟩
        rw [List.map_map]
        exact hl'
    · obtain ⟨a, t, m, n⟩ := hn
      exact ⟨v, rfl, v, .ty "str", .type a, _, false, rfl, .ty _, t, kit_no m n, false, rfl, iteF (q H (Same.refl H))⟩
theorem ok_is_web {f fW : Addr} {fd fdW : FuncData} (F : Fun K "is_web" "is_web" s_is_web f fd) (B : Blt mg)
    (FW : Fun K "is_word" "is_word" s_is_word fW fdW) (gW : mg "is_word" = some (.ref fW)) (bW : Binds K fdW ["letters", "thing"] []) :
    FnOk P w K mg base CX0 2 f fd ["letters", "thing"] (spWord K) := by
  have GW : FnOk P w K mg base CX0 1 fW fdW ["letters", "thing"] (spWord K) := ok_is_word FW B
  refine F.ok sc_is_web (fun vs H Q E h => ?_) (fun cdv A outer s H vs Q E hr h => ?_)
  · obtain ⟨s, v, rfl, _⟩ := h
    rfl
  · have h' := h
    obtain ⟨sg, v, rfl, _⟩ := h'
    exact ⟨_, pss_one (ps_ret (pe_call GW (hr.mono (by decide)) (by rfl) gW FW.kp bW .nil pass0 (pa_cons (pv 0) (pa_cons (pv 1) pa_nil)))), _, rfl, _, rfl, h⟩
end
end Lw

namespace Lw
open PySem PySem.Spec PyProof.Rows L2 Mq
open SX (S)
theorem ifF {c : Bool} {p q : Prop} (h : c = false) (hq : q) : (if c = true then p else q) := by rw [h]; exact hq
theorem ifT {c : Bool} {p q : Prop} (h : c = true) (hp : p) : (if c = true then p else q) := by rw [h]; exact hp
theorem len_tup {K : PySem.W.Frag} {H : Hp} {a : Addr} {xs : List V} (h : SqT K H a xs) : LenV K (.ref a) H xs.length := Or.inr ⟨xs, h, rfl⟩
theorem sql_mv {K : PySem.W.Frag} {H H' : Hp} {a : Addr} {xs : List V} (e : Same H H') (h : SqL K H a xs) : SqL K H' a xs := by
  rcases h with (h | ⟨o, h⟩) | h
  · exact Or.inl (Or.inl (e _ _ h))
  · exact Or.inl (Or.inr ⟨o, e _ _ h⟩)
  · exact Or.inr h
theorem ps_dead {X : Cx} {st : Stmt} : PS X st (fun _ _ _ => False) := ⟨fun _ _ _ _ _ _ h => h.elim⟩
theorem pos_of {α : Type} {l : List α} (h : l ≠ []) : 0 < l.length := by
  cases l with
  | nil => exact (h rfl).elim
  | cons a l => exact Nat.zero_lt_succ _
theorem allB_of {sg w : List Nat} (h : ∀ c ∈ w, c ∈ sg) : allB w sg = true := by
  unfold allB
  rw [List.all_map, List.all_eq_true]
  intro k hk
  have hk' := List.mem_range.mp hk
  refine decide_eq_true (h _ ?_)
  rw [List.getD_eq_getElem?_getD, List.getElem?_eq_getElem hk']
  exact List.getElem_mem hk'
def wordOk (sg w : List Nat) : Prop := (∀ c ∈ w, c ∈ sg) ∧ w.length ≤ 1000
end Lw

namespace Lw
open PySem PySem.Spec PyProof.Rows L2 Mq
open SX (S)
/-! ### the deck -/
def deckKv (c : Addr) (m : Int) (t : Nat) : List (Key × V) := [(.inr "left", .ref c), (.inr "mixed", .int m), (.inr "lap", .int (t : Nat))]
structure DeckAt (D C : Addr) (T : Nat) (H : Hp) : Prop where
  ex : ∃ (m : Int) (t : Nat) (js : List Int), H D = some (.dK (deckKv C m t)) ∧ H C = some (.lst (js.map V.int)) ∧ js.length ≤ 100 ∧ t ≤ T
def Off (D C : Addr) (H H' : Hp) : Prop := ∀ b o, b ≠ D → b ≠ C → H b = some o → H' b = some o
theorem Off.refl (D C : Addr) (H : Hp) : Off D C H H := fun _ _ _ _ e => e
theorem Off.trans {D C : Addr} {H H' H'' : Hp} (a : Off D C H H') (b : Off D C H' H'') : Off D C H H'' := fun x o h1 h2 e => b x o h1 h2 (a x o h1 h2 e)
theorem Off.same {D C : Addr} {H H' : Hp} (e : Same H H') : Off D C H H' := fun b o _ _ h => e b o h
theorem DeckAt.same {D C : Addr} {T : Nat} {H H' : Hp} (h : DeckAt D C T H) (e : Same H H') : DeckAt D C T H' := let ⟨m, t, js, a, b, c, d⟩ := h.ex; ⟨m, t, js, e _ _ a, e _ _ b, c, d⟩
theorem DeckAt.mono {D C : Addr} {T T' : Nat} {H : Hp} (h : DeckAt D C T H) (e : T ≤ T') : DeckAt D C T' H := let ⟨m, t, js, a, b, c, d⟩ := h.ex; ⟨m, t, js, a, b, c, Nat.le_trans d e⟩
theorem DeckAt.ne {D C : Addr} {T : Nat} {H : Hp} (h : DeckAt D C T H) : C ≠ D := by
  obtain ⟨m, t, js, a, b, c, d⟩ := h.ex
  rintro rfl
  rw [a] at b
  cases b
/-- what is no list and no dict is none of the deck's -/
theorem Off.at {D C : Addr} {T : Nat} {H H' : Hp} {a : Addr} {o : HO} (f : Off D C H H') (k : DeckAt D C T H) (h : H a = some o) (n : (∀ xs, o ≠ .lst xs) ∧ ∀ kvs, o ≠ .dK kvs) : H' a = some o := by
  obtain ⟨m, t, js, x, y, _, _⟩ := k.ex
  refine f a o ?_ ?_ h
  · rintro rfl
    rw [x] at h
    cases h
    exact n.2 _ rfl
  · rintro rfl
    rw [y] at h
    cases h
    exact n.1 _ rfl
theorem Off.tup {K : PySem.W.Frag} {D C : Addr} {T : Nat} {H H' : Hp} {a : Addr} {xs : List V} (f : Off D C H H') (k : DeckAt D C T H) (h : SqT K H a xs) : SqT K H' a xs := by
  rcases h with (h | ⟨o, h⟩) | h
  · exact Or.inl (Or.inl (f.at k h ⟨(fun _ z => nomatch z), (fun _ z => nomatch z)⟩))
  · exact Or.inl (Or.inr ⟨o, f.at k h ⟨(fun _ z => nomatch z), (fun _ z => nomatch z)⟩⟩)
  · exact Or.inr h
theorem dp_ints' {K : PySem.W.Frag} {H : Hp} : ∀ js : List Int, DpAll K H (js.map V.int) (js.map PyData.int)
  | [] => .nil
  | t :: ts => .cons (.int _) (dp_ints' ts)
theorem lay_ints' (js : List Int) : PyData.canLayAll0 (js.map PyData.int) = true ∧ PyData.depthAll (js.map PyData.int) = 0 := by
  induction js with
  | nil => exact ⟨rfl, rfl⟩
  | cons t ts ih =>
    refine ⟨ih.1, ?_⟩
    show max 0 _ = 0
    rw [ih.2]
    rfl
theorem shaped_ints (js : List Int) : SeqAt.shaped (.list (js.map PyData.int)) = true := by
  unfold SeqAt.shaped
  obtain ⟨a, b⟩ := lay_ints' js
  rw [show (PyData.list (js.map PyData.int)).canLay0 = true from a]
  have : (PyData.list (js.map PyData.int)).depth ≤ 64 := by
    show PyData.depthAll _ + 1 ≤ 64
    omega
  rw [decide_eq_true this]
  rfl
def spDraw : Sp := fun vs H Q _ => ∃ (D C : Addr) (T b : Nat), vs = [.ref D, .int (b : Nat)] ∧ DeckAt D C T H ∧ T ≤ 1000000 ∧ 0 < b ∧ b ≤ 1000 ∧
  ∀ H' (r : Nat), r < b → DeckAt D C (T + 1) H' → Off D C H H' → Q (.int (r : Nat)) H'
theorem fmod_nat (i : Int) {b : Nat} (h : 0 < b) : ∃ r : Nat, i.fmod (b : Int) = (r : Nat) ∧ r < b := by
  have h1 : 0 ≤ i.fmod (b : Int) := Int.fmod_nonneg_of_pos i (by omega)
  have h2 : i.fmod (b : Int) < b := Int.fmod_lt_of_pos i (by omega)
  exact ⟨(i.fmod b).toNat, by omega, by omega⟩
theorem bound_mod (i : Int) : -(2 ^ 64) < i.fmod 2147483647 ∧ i.fmod 2147483647 < 2 ^ 64 := by
  obtain ⟨r, e, l⟩ := fmod_nat i (b := 2147483647) (by decide)
  have e' : i.fmod 2147483647 = (r : Nat) := e
  rw [e']
  omega
theorem mod_fin {b : Nat} (h : 0 < b) (i : Int) {H : Hp} {Q : VK} (k : ∀ r : Nat, r < b → Q (.int (r : Nat)) H) : Q (.int (i.fmod (b : Nat))) H := by
  obtain ⟨r, e, l⟩ := fmod_nat i h
  rw [e]
  exact k r l
section
variable {P : Program} {w : World} {K : PySem.W.Frag} {mg : Str → Option Value} {base : Heap}
theorem ok_draw {f : Addr} {fd : FuncData} (F : Fun K "_law_draw" "_law_draw" s__law_draw f fd) (B : Blt mg) :
    FnOk P w K mg base CX0 1 f fd ["_law_deck_here", "_law_many"] spDraw := by
  refine F.ok sc__law_draw (fun vs H Q E h => ?_) (fun cdv A outer s H vs Q E hr h => ?_)
  · obtain ⟨_, _, _, _, rfl, _⟩ := h
    rfl
  · obtain ⟨D, C, T, b, rfl, hdk, hT, hb0, hb1, q⟩ := h
    have hu : (A.deeper (envOfC "_law_draw" (defScope s__law_draw) s.heap.objs.size f cdv)).units + 64 < cLine := by
      have := hr.units
      omega
    have hu1 : (A.deeper (envOfC "_law_draw" (defScope s__law_draw) s.heap.objs.size f cdv)).units + 1 < cLine := by omega
    refine ⟨_, (pss_cons (ps_if (pt_cmpR (op_neD hu) (pe_dget hu1 (pv 0) pe_str (fun _ _ => rfl)) (pe_ls pa_nil) (nomark _)) (pss_cons (ps_set (i := 2) sc__law_draw.nd rfl (Or.inl rfl) (pe_callTy call_int1 (by rfl) B.int (by decide +kernel) (pa_cons (pe_bm0 PySem.F.plainAttrs_list PySem.F.slot_list_pop PySem.F.type_list_pop mt_pop (pe_dget hu1 (pv 0) pe_str (fun _ _ => rfl))) pa_nil)))
        (pss_cons (ps_if (pt_cmpR op_ge (pv 2) (pv 1) (nomark _)) (pss_one (ps_expr (pe_bm PySem.F.plainAttrs_list PySem.F.slot_list_append PySem.F.type_list_append mt_append (pe_dget hu1 (pv 0) pe_str (fun _ _ => rfl)) (pa_cons (pe_op op_fdivN (pv 2) (pv 1)) pa_nil)))) pss_nil)
        (pss_one (ps_ret (pe_op op_modN (pv 2) (pv 1)))))) pss_nil)
      (pss_cons (ps_set (i := 3) sc__law_draw.nd rfl (Or.inl rfl) (pe_op op_add (pe_dget hu1 (pv 0) pe_str (fun _ _ => rfl)) pe_int))
      (pss_cons (ps_dput hu1 (pv 0) pe_str (pv 3) rfl)
      (pss_cons (ps_set (i := 4) sc__law_draw.nd rfl (Or.inl rfl) (pe_op op_modN (pe_callTy call_int1 (by rfl) B.int (by decide +kernel) (pa_cons (pe_op op_mul (pe_callTy call_int1 (by rfl) B.int (by decide +kernel) (pa_cons (pe_op op_add (pe_op op_add (pe_dget hu1 (pv 0) pe_str (fun _ _ => rfl)) (pe_op op_mul (pe_op op_mul pe_int (pv 3)) (pv 3))) pe_int) pa_nil)) pe_int) pa_nil)) pe_int))
      (pss_cons (ps_set (i := 4) sc__law_draw.nd rfl (Or.inl rfl) (pe_op op_modN (pe_callTy call_int1 (by rfl) B.int (by decide +kernel) (pa_cons (pe_op op_add (pe_op op_mul (pv 4) (pv 4)) (pe_op op_mul pe_int (pv 3))) pa_nil)) pe_int))
      (pss_one (ps_ret (pe_op op_modN (pe_op op_fdivN (pe_op op_modN (pe_callTy call_int1 (by rfl) B.int (by decide +kernel) (pa_cons (pe_op op_mul (pv 4) pe_int) pa_nil)) pe_int) pe_int) (pv 1))))))))), ?_⟩
    obtain ⟨m, t, js, hD, hC, hjs, ht⟩ := hdk.ex
    have ne := hdk.ne
    refine ⟨_, rfl, D, _, rfl, (DGet.k (k := .inr "left") hD : DGet H D (.str "left") (some (.ref C))), sz_le (n := 0) (by decide), fun p hp _ => ?_⟩
    have sp1 : Same H (upd H p (.lst [])) := same_new hp
    refine ⟨.list (js.map PyData.int), .list [], .lst (SqL.of (sp1 _ _ hC)) (dp_ints' js), .lst (SqL.of upd_same) .nil, shaped_ints js, by decide +kernel, _, rfl, ?_⟩
    have hD2 := sp1 _ _ hD
    have hC2 := sp1 _ _ hC
    have o2 : Off D C H (upd H p (.lst [])) := Off.same sp1
    generalize upd H p (.lst []) = H2 at hD2 hC2 o2 ⊢
    rcases List.eq_nil_or_concat js with rfl | ⟨js', j, rfl⟩
    · refine ifF rfl ?_
      have e : ((t : Nat) : Int) + 1 = ((t + 1 : Nat) : Int) := by omega
      have eH : upd H2 D (.dK (deckKv C m (t + 1))) = upd H2 D (.dK (putK (deckKv C m t) (.inr "lap") (.int (((t : Nat) : Int) + 1)))) := by
        rw [e]
        rfl
      have o3 : Off D C H (upd H2 D (.dK (deckKv C m (t + 1)))) := o2.trans fun x o h1 h2 h => (upd_ne h1).trans h
      have hD3 : upd H2 D (.dK (deckKv C m (t + 1))) D = some (.dK (deckKv C m (t + 1))) := upd_same
      have hC3 : upd H2 D (.dK (deckKv C m (t + 1))) C = some (.lst []) := (upd_ne ne).trans hC2
      refine ⟨_, rfl, D, .int (t : Nat), rfl, (DGet.k (k := .inr "lap") hD2 : DGet H2 D (.str "lap") (some (.int (t : Nat)))), _, _, rfl, rfl, ?_⟩
      refine ⟨_, rfl, _, rfl, D, upd H2 D (.dK (deckKv C m (t + 1))), rfl, Or.inl ⟨deckKv C m t, .inr "lap", hD2, rfl, sz_lt (by show 3 ≤ _; decide), eH⟩, ?_⟩
      generalize upd H2 D (.dK (deckKv C m (t + 1))) = H3 at o3 hD3 hC3 ⊢
      have gM : DGet H3 D (.str "mixed") (some (.int m)) := DGet.k (k := .inr "mixed") hD3
      have cT : -(2 ^ 64) < (((t : Nat) : Int) + 1) ∧ (((t : Nat) : Int) + 1) < 2 ^ 64 := by omega
      refine ⟨_, rfl, D, _, rfl, gM, _, rfl, _, _, rfl, rfl, Or.inl (by decide), _, rfl, _, _, rfl, rfl, Or.inr cT, _, _, rfl, rfl, _, _, rfl, rfl, Or.inl ⟨_, rfl, _, _, rfl, rfl, Or.inr (by decide), Or.inl ⟨_, rfl, _, _, rfl, rfl, (show (2147483647 : Int) ≠ 0 by decide), ?_⟩⟩⟩
      refine ⟨_, rfl, _, rfl, _, _, rfl, rfl, Or.inl (bound_mod _), _, rfl, _, _, rfl, rfl, Or.inl (by decide), _, _, rfl, rfl, Or.inl ⟨_, rfl, _, _, rfl, rfl, (show (2147483579 : Int) ≠ 0 by decide), ?_⟩⟩
      refine ⟨_, rfl, _, _, rfl, rfl, Or.inr (by decide), Or.inl ⟨_, rfl, _, _, rfl, rfl, (show (2147483563 : Int) ≠ 0 by decide), _, _, rfl, rfl, ⟨by decide, by decide⟩, _, rfl, _, _, rfl, rfl, (show ((b : Nat) : Int) ≠ 0 by omega), ?_⟩⟩
      exact mod_fin hb0 _ fun r hr => q H3 r hr ⟨m, t + 1, [], hD3, hC3, by decide, by omega⟩ o3
    · rw [List.concat_eq_append] at *
      refine ifT (by cases js' <;> rfl) ?_
      have hlast : ((js' ++ [j]).map V.int)[((js' ++ [j]).map V.int).length - 1]? = some (.int j) := by simp
      have hdrop : ((js' ++ [j]).map V.int).dropLast = js'.map V.int := by simp
      refine ⟨_, rfl, D, _, rfl, (DGet.k (k := .inr "left") hD2 : DGet H2 D (.str "left") (some (.ref C))), Or.inl ⟨rfl, _, Or.inl (Or.inl hC2)⟩, C, _, _, rfl, rfl, hC2, hlast, ?_⟩
      rw [hdrop]
      have hD3 : upd H2 C (.lst (js'.map V.int)) D = some (.dK (deckKv C m t)) := (upd_ne (Ne.symm ne)).trans hD2
      have hC3 : upd H2 C (.lst (js'.map V.int)) C = some (.lst (js'.map V.int)) := upd_same
      have o3 : Off D C H (upd H2 C (.lst (js'.map V.int))) := o2.trans (fun x o h1 h2 h => (upd_ne h2).trans h)
      generalize upd H2 C (.lst (js'.map V.int)) = H3 at hD3 hC3 o3 ⊢
      have hl' : js'.length + 1 ≤ 100 := by simpa using hjs
      refine Or.inl ⟨_, rfl, ?_⟩
      refine ⟨_, rfl, _, rfl, _, _, rfl, rfl, _, rfl, ite2 (fun hc => ?_) (fun hc => ?_)⟩
      · refine ⟨_, rfl, D, _, rfl, (DGet.k (k := .inr "left") hD3 : DGet H3 D (.str "left") (some (.ref C))), Or.inl ⟨rfl, _, Or.inl (Or.inl hC3)⟩, _, rfl, _, rfl, _, _, rfl, rfl, ⟨by omega, by omega⟩, C, _, _, rfl, rfl, hC3, sz_lt (by rw [List.length_map]; omega), ?_⟩
        have hD4 : upd H3 C (.lst (js'.map V.int ++ [.int (j.fdiv (b : Nat))])) D = some (.dK (deckKv C m t)) := (upd_ne (Ne.symm ne)).trans hD3
        have hC4 : upd H3 C (.lst (js'.map V.int ++ [.int (j.fdiv (b : Nat))])) C = some (.lst ((js' ++ [j.fdiv (b : Nat)]).map V.int)) := upd_same.trans (by rw [List.map_append]; rfl)
        have o4 : Off D C H (upd H3 C (.lst (js'.map V.int ++ [.int (j.fdiv (b : Nat))]))) := o3.trans (fun x o h1 h2 h => (upd_ne h2).trans h)
        refine ⟨_, rfl, _, rfl, _, _, rfl, rfl, (show ((b : Nat) : Int) ≠ 0 by omega), ?_⟩
        exact mod_fin hb0 _ fun r hr => q _ r hr ⟨m, t, _, hD4, hC4, by rw [List.length_append]; exact hl', by omega⟩ o4
      · refine ⟨_, rfl, _, rfl, _, _, rfl, rfl, (show ((b : Nat) : Int) ≠ 0 by omega), ?_⟩
        exact mod_fin hb0 _ fun r hr => q _ r hr ⟨m, t, _, hD3, hC3, by omega, by omega⟩ o3
end
end Lw

namespace Lw
open PySem PySem.Spec PyProof.Rows L2 Mq
open SX (S)
def spDeck (K : PySem.W.Frag) : Sp := fun vs H Q _ => ∃ (a : Addr) (ns : List Int), vs = [.ref a] ∧ SqL K H a (ns.map V.int) ∧ ns.length ≤ 63 ∧
  ∀ H' D C, Same H H' → DeckAt D C 0 H' → Q (.ref D) H'
def spPick : Sp := fun vs H Q _ => ∃ (D C : Addr) (T : Nat) (x : V), vs = [.ref D, x] ∧ DeckAt D C T H ∧ T ≤ 1000000 ∧
  ((∃ l : List Nat, x = .str (S l) ∧ 0 < l.length ∧ l.length ≤ 1000 ∧ ∀ H' c, c ∈ l → DeckAt D C (T + 1) H' → Off D C H H' → Q (.str (S [c])) H') ∨
   ∃ (p : Addr) (xs : List V), x = .ref p ∧ H p = some (.lst xs) ∧ p ≠ C ∧ 0 < xs.length ∧ xs.length ≤ 1000 ∧ ∀ H' v, v ∈ xs → DeckAt D C (T + 1) H' → Off D C H H' → Q v H')
section
variable {P : Program} {w : World} {K : PySem.W.Frag} {mg : Str → Option Value} {base : Heap}
theorem ok_deck {f : Addr} {fd : FuncData} (F : Fun K "_law_deck" "_law_deck" s__law_deck f fd) (B : Blt mg) :
    FnOk P w K mg base CX0 1 f fd ["_law_script"] (spDeck K) := by
  refine F.ok sc__law_deck (fun vs H Q E h => ?_) (fun cdv A outer s H vs Q E hr h => ?_)
  · obtain ⟨_, _, rfl, _⟩ := h
    rfl
  · obtain ⟨a, ns, rfl, ha, hn, q⟩ := h
    refine ⟨_, (pss_cons (ps_set (i := 1) sc__law_deck.nd rfl (Or.inl rfl) pe_int)
      (pss_cons (ps_for PassesOwn.never rfl (pi_list (pe_slice sl_list (pv 0) po_none (po_some pe_int))) (pg_name (i := 2) sc__law_deck.nd rfl (Or.inl rfl))
        (pss_one (ps_set (i := 1) sc__law_deck.nd rfl (Or.inl rfl) (pe_op op_modN (pe_callTy call_int1 (by rfl) B.int (by decide +kernel) (pa_cons (pe_op op_add (pe_op op_add (pe_op op_mul (pv 1) pe_int) (pe_op op_modN (pe_callTy call_int1 (by rfl) B.int (by decide +kernel) (pa_cons (pv 2) pa_nil)) pe_int)) pe_int) pa_nil)) pe_int))))
      (pss_one (ps_ret (pe_disp (pps_cons pe_str (pe_revL (pe_lc (own := [("_law_cell", 2)]) (g := gName 2) rfl sc__law_deck.nd (pi_list (pe_slice sl_list (pv 0) po_none (po_some pe_int))) (blkOk_by (own := [("_law_cell", 2)]) (N := ["_law_script", "_law_mixed", "_law_cell"]) (sc := defScope s__law_deck) (by decide +kernel)) (fun _ _ _ _ _ => pg_name (i := 2) sc__law_deck.nd rfl (Or.inl rfl)) (fun _ _ _ _ _ => pts_one (pt_cmpR op_ge (pv 2) (pe_op op_pow pe_int pe_int) (nomark _))) (fun _ _ _ _ _ => (pv 2)))) (pps_cons pe_str (pv 1) (pps_cons pe_str pe_int pps_nil))) (by rfl) (by rfl) (fun z => by cases z) (by decide)))))), ?_⟩
    obtain ⟨ms, hms, hml⟩ : ∃ ms : List Int, cutV (ns.map V.int) none (some 63) = ms.map V.int ∧ ms.length ≤ 63 := by
      refine ⟨(ns.drop (HT.sIx (ns.map V.int).length 0 none)).take (HT.sIx (ns.map V.int).length (ns.map V.int).length (some 63) - HT.sIx (ns.map V.int).length 0 none), ?_, ?_⟩
      · unfold cutV
        rw [← List.map_drop, ← List.map_take]
      · rw [List.length_take, List.length_drop]
        omega
    refine ⟨_, rfl, 63, rfl, a, _, rfl, ha, fun p1 hp1 => ?_⟩
    rw [hms]
    have s1 : Same H (upd H p1 (.lst (ms.map V.int))) := same_new hp1
    have z1 : upd H p1 (.lst (ms.map V.int)) p1 = some (.lst (ms.map V.int)) := upd_same
    generalize upd H p1 (.lst (ms.map V.int)) = H1 at s1 z1 ⊢
    refine ⟨p1, rfl, ⟨_, SqL.of z1⟩, ?_⟩
    refine for_list (xs := ms.map V.int) (fun i σ H' => H' = H1 ∧ ∃ (m : Int) (o : Option V), σ = [some (.ref a), some (.int m), o]) ⟨rfl, _, _, rfl⟩ (fun i σ H' _ p => by rw [p.1]; exact SqL.of z1) ?_ ?_
    · rintro i x σ H' hx ⟨rfl, m, o, rfl⟩
      obtain ⟨j, rfl⟩ : ∃ j, x = .int j := by
        rw [List.getElem?_map] at hx
        cases h : ms[i]? with
        | none => rw [h] at hx; cases hx
        | some j => rw [h] at hx; cases hx; exact ⟨j, rfl⟩
      refine ⟨_, rfl, _, _, rfl, rfl, Or.inr (by decide), _, rfl, Or.inl ⟨_, rfl, _, _, rfl, rfl, (show (2147483629 : Int) ≠ 0 by decide), _, _, rfl, rfl, _, _, rfl, rfl, Or.inl ⟨_, rfl, _, _, rfl, rfl, (show (2147483587 : Int) ≠ 0 by decide), rfl, _, _, rfl⟩⟩⟩
    · rintro σ H' ⟨rfl, m, o, rfl⟩
      refine fun p hp => ?_
      have s3 : Same H' (upd H' p (.dK [])) := same_new hp
      have zp : upd H' p (.dK []) p = some (.dK []) := upd_same
      have s03 := s1.trans s3
      generalize upd H' p (.dK []) = H3 at s03 zp ⊢
      refine ⟨_, rfl, 63, rfl, a, _, rfl, sql_mv s03 ha, fun p2 hp2 => ?_⟩
      rw [hms]
      have s4 : Same H3 (upd H3 p2 (.lst (ms.map V.int))) := same_new hp2
      have z4 : upd H3 p2 (.lst (ms.map V.int)) p2 = some (.lst (ms.map V.int)) := upd_same
      have zp := s4 _ _ zp
      have s04 := s03.trans s4
      generalize upd H3 p2 (.lst (ms.map V.int)) = H4 at s04 z4 zp ⊢
      refine ⟨p2, rfl, ⟨_, SqL.of z4⟩, fun L hL => ?_⟩
      refine lc_it (walk_list (K := K) (a := p2) (xs := ms.map V.int)) (fun i H' => Same H4 H' ∧ ∃ ls : List Int, ls.length ≤ i ∧ H' L = some (.lst (ls.map V.int))) ⟨same_new hL, [], Nat.zero_le _, upd_same⟩ (fun i H' _ q => SqL.of (q.1 _ _ z4)) ?_ ?_
      · rintro i x H5 H6 hi ⟨s5, ls, hll, hL5⟩ ⟨rfl, hx⟩
        obtain ⟨j, rfl⟩ : ∃ j, x = .int j := by
          rw [List.getElem?_map] at hx
          cases h : ms[i]? with
          | none => rw [h] at hx; cases hx
          | some j => rw [h] at hx; cases hx; exact ⟨j, rfl⟩
        rw [List.length_map] at hi
        refine ⟨rfl, _, rfl, _, _, rfl, rfl, ⟨by decide, by decide, by decide⟩, _, _, rfl, rfl, _, rfl, ite2 (fun hc => ?_) (fun hc => ?_)⟩
        · refine ⟨_, rfl, _, hL5, sz_lt (by rw [List.length_map]; omega), ?_, ls ++ [j], by rw [List.length_append]; exact Nat.succ_le_succ hll, ?_⟩
          · intro b o e
            rw [upd_ne (ne_of_none e hL)]
            exact s5 b o e
          · rw [upd_same, List.map_append]
            rfl
        · exact ⟨s5, ls, by omega, hL5⟩
      · rintro H5 ⟨s5, ls, hll, hL5⟩
        rw [List.length_map] at hll
        refine ⟨L, _, rfl, SqL.of hL5, fun p3 hp3 => ⟨_, rfl, ?_⟩⟩
        have s6 : Same H5 (upd H5 p3 (.lst (ls.map V.int).reverse)) := same_new hp3
        have zp6 := s6 _ _ (s5 _ _ zp)
        have s06 := (s04.trans s5).trans s6
        have z6 : upd H5 p3 (.lst (ls.map V.int).reverse) p3 = some (.lst (ls.map V.int).reverse) := upd_same
        generalize upd H5 p3 (.lst (ls.map V.int).reverse) = H6 at s06 zp6 z6 ⊢
        refine ⟨zp6, deckKv p3 m 0, rfl, by show 3 ≤ 15; decide, ?_⟩
        have ne : p3 ≠ p := by
          rintro rfl
          rw [z6] at zp6
          cases zp6
        refine q _ p p3 ?_ ⟨m, 0, ls.reverse, upd_same.trans ?_, ?_, by rw [List.length_reverse]; omega, Nat.le_refl _⟩
        · intro b o e
          have e1 := s1 b o e
          rw [upd_ne (ne_of_none e1 hp)]
          exact s06 b o e
        · rfl
        · rw [upd_ne ne, z6, List.map_reverse]
end
end Lw

namespace Lw
open PySem PySem.Spec PyProof.Rows L2 Mq
open SX (S)
section
variable {P : Program} {w : World} {K : PySem.W.Frag} {mg : Str → Option Value} {base : Heap}
theorem ok_pick {f fD : Addr} {fd fdD : FuncData} (F : Fun K "_law_pick" "_law_pick" s__law_pick f fd) (B : Blt mg)
    (FD : Fun K "_law_draw" "_law_draw" s__law_draw fD fdD) (gD : mg "_law_draw" = some (.ref fD)) (bD : Binds K fdD ["_law_deck_here", "_law_many"] []) :
    FnOk P w K mg base CX0 2 f fd ["_law_deck_here", "_law_some"] spPick := by
  have GD : FnOk P w K mg base CX0 1 fD fdD ["_law_deck_here", "_law_many"] spDraw := ok_draw FD B
  refine F.ok sc__law_pick (fun vs H Q E h => ?_) (fun cdv A outer s H vs Q E hr h => ?_)
  · obtain ⟨_, _, _, _, rfl, _⟩ := h
    rfl
  · obtain ⟨D, C, T, x, rfl, hdk, hT, h⟩ := h
    refine ⟨_, (pss_one (ps_ret (pe_ix ix_seq (pv 1) (pe_call GD (hr.mono (by decide)) (by rfl) gD FD.kp bD .nil pass0 (pa_cons (pv 0) (pa_cons (pe_callB call_len (by rfl) B.len (by decide +kernel) (pa_cons (pv 1) pa_nil)) pa_nil))) (fun _ _ => rfl)))), ?_⟩
    rcases h with ⟨l, rfl, h0, h1, q⟩ | ⟨p, xs, rfl, hp, hpC, h0, h1, q⟩
    · refine ⟨_, rfl, _, rfl, _, rfl, _, _, rfl, len_S (by omega), D, C, T, l.length, rfl, hdk, hT, h0, h1, fun H' r hr dk off => ?_⟩
      refine Or.inr (Or.inr ⟨S l, _, l.getD r 0, rfl, rfl, sz_le (by rw [SX.S_len]; omega), at_get hr, ?_⟩)
      refine q H' _ ?_ dk off
      rw [List.getD_eq_getElem?_getD, List.getElem?_eq_getElem hr]
      exact List.getElem_mem hr
    · refine ⟨_, rfl, _, rfl, _, rfl, _, _, rfl, Or.inl ⟨xs, SqL.of hp, rfl⟩, D, C, T, xs.length, rfl, hdk, hT, h0, h1, fun H' r hr dk off => ?_⟩
      have hpD : p ≠ D := by
        rintro rfl
        obtain ⟨_, _, _, e, _⟩ := hdk.ex
        rw [hp] at e
        cases e
      have hp' := off p _ hpD hpC hp
      refine Or.inl ⟨p, xs, _, xs[r], rfl, rfl, SqL.of hp', atI_nat (List.getElem?_eq_getElem hr), q H' _ (List.getElem_mem hr) dk off⟩
end
end Lw

namespace Lw
open PySem PySem.Spec PyProof.Rows L2 Mq
open SX (S)
theorem PT_imp {X : Cx} {e : Expr} {t t' : TT} (h : PT X e t) (i : ∀ σ H Q, t' σ H Q → t σ H Q) : PT X e t' := ⟨fun pins s σ H Q I q => h.run pins s σ H Q I (i σ H Q q)⟩
/-- tuples stay -/
def KpT (K : PySem.W.Frag) (H H' : Hp) : Prop := ∀ a xs, SqT K H a xs → SqT K H' a xs
theorem KpT.trans {K : PySem.W.Frag} {H H' H'' : Hp} (a : KpT K H H') (b : KpT K H' H'') : KpT K H H'' := fun x y h => b x y (a x y h)
theorem KpT.off {K : PySem.W.Frag} {D C : Addr} {T : Nat} {H H' : Hp} (f : Off D C H H') (k : DeckAt D C T H) : KpT K H H' := fun _ _ h => f.tup k h
theorem KpT.same {K : PySem.W.Frag} {H H' : Hp} (e : Same H H') : KpT K H H' := fun _ _ h => Same.tup e h
theorem KpT.lst {K : PySem.W.Frag} {H : Hp} {L : Addr} {xs ys : List V} (h : H L = some (.lst xs)) : KpT K H (upd H L (.lst ys)) := by
  intro a zs hz
  have ne : ∀ {o : HO}, H a = some o → (∀ xs, o ≠ .lst xs) → upd H L (.lst ys) a = some o := by
    intro o e n
    by_cases q : a = L
    · subst q
      rw [h] at e
      cases e
      exact (n _ rfl).elim
    · exact (upd_ne q).trans e
  rcases hz with (hz | ⟨o, hz⟩) | hz
  · exact Or.inl (Or.inl (ne hz fun _ z => nomatch z))
  · exact Or.inl (Or.inr ⟨o, ne hz fun _ z => nomatch z⟩)
  · exact Or.inr hz
end Lw

namespace Mq
open PySem PySem.Spec PyProof.Rows L2
/-! ### the keys of a dict, drawn one by one, whatever they are -/
section
variable {prog : Program} {w : World} {d : Addr} {o : Obj} {es : Array DictEntry} {ep : Nat}
theorem walks_keys {A : Around} (hh : A.handled = none) (I : Addr) (hne : d ≠ I) (hdat : o.data = .dict es ep) :
    Walks prog w A I [I, d] [I] es.size (fun i v => ∃ en, es[i]? = some en ∧ v = en.key) (fun i h => h.IsKeyIter I d i es.size ep ∧ h.get? d = some o) where
  sub := fun b hb => by rw [List.mem_singleton.mp hb]; exact List.mem_cons_self
  frame := fun i h h' st k => ⟨st.1.at fun x e => k I (by simp) x e, k d (by simp) o st.2⟩
  item := fun i s Q E hi st hQ => by
    refine next_key_item st.1 st.2 hdat rfl (en := es[i]) (by simp [hi]) fun h' st' sb => ?_
    refine hQ _ h' s.toks ⟨es[i], by simp [hi], rfl⟩ ⟨st', (sb.2 d hne).trans st.2⟩ fun b x hb e => ?_
    exact (sb.2 b fun z => hb (by rw [z]; exact List.mem_singleton.mpr rfl)).trans e
  done := fun s Q E st hQ => by
    refine next_key_end hh st.1 st.2 hdat rfl (Nat.le_refl _) fun h' eb => hQ h' s.toks fun b x hb e => ?_
    exact eb b x (fun z => hb (by rw [z]; exact List.mem_singleton.mpr rfl)) e
  self := fun i s Q E st h => by
    have t := st.1.typeIs
    refine wpAny_pyIter_slot t F.slot_dict_keyiterator_iter (wpAny_call_entry F.slot_dict_keyiterator_iter t F.entry_dict_keyiterator_iter ?_ (F.args_dict_keyiterator_iter_1 _))
    refine wpAny_pure ⟨.ref I, rfl, "dict_keyiterator", _, t, F.slot_dict_keyiterator_next.lookup, h⟩
theorem src_keys (hd : (d == sysModules) = false) (hx : o.ExactDict) (hdat : o.data = .dict es ep) :
    PySem.W.KdlSrc prog w "dict" d d es.size (fun i v => ∃ en, es[i]? = some en ∧ v = en.key) (fun h => h.get? d = some o) where
  type := fun _ ho => ⟨o, ho, hx.1⟩
  there := fun _ ho => ⟨Heap.lt_size ho, Heap.lt_size ho⟩
  keep := fun _ _ ho k => k d (.inl rfl) o ho
  notList := by decide
  notTuple := by decide
  hint := fun _ _ _ _ ho hq => PySem.W.kdl_hint_dict ⟨o, ho, hx.1⟩ hq
  iter := fun A s hh ho => ⟨_, _, (fun _ _ hq => iter_keys hd ho hx hdat hq), walks_keys hh s.heap.objs.size (Nat.ne_of_lt (Heap.lt_size ho)) hdat,
    ⟨⟨_, Heap.get?_push_size _ rfl, rfl, rfl⟩, Heap.get?_push_of_some _ ho⟩⟩
end
/-! ### sorted(d), d's keys being pairs of texts -/
def txt2 (x : Str × Str) : List (Int ⊕ List Nat) := [.inr x.1.cps.toList, .inr x.2.cps.toList]
/-- ahead as pairs -/
def ltSS (x y : Str × Str) : Bool := (PyProof.Rows.listOrd PyProof.Rows.itemOrd).blt (txt2 x) (txt2 y)
def prOf (H : Hp) (b : Addr) : Str × Str := match H b with
  | some (.tup [.str x, .str y]) => (x, y)
  | _ => ("", "")
def rSortedT : List V → Hp → VK → Prop := fun xs H Q => ∃ (a : Addr) (kvs : List (List Key × V)) (ks : List (Str × Str)), xs = [.ref a] ∧ Rd H a (.dT kvs) ∧ kvs.map (·.1) = ks.map (fun x => [Sum.inr x.1, Sum.inr x.2]) ∧
  ∀ (as qs : List Addr) (p : Addr), as.map (prOf H) = ks → (∀ b ∈ as, H b = some (.tup [.str (prOf H b).1, .str (prOf H b).2])) → qs.Perm as →
    (∀ i j, i ≤ j → j < qs.length → ltSS (prOf H (qs.getD j 0)) (prOf H (qs.getD i 0)) = false) → H p = none → Q (.ref p) (upd H p (.lst (qs.map V.ref)))
theorem key_pair {H : Hp} {b : Addr} {x : Str × Str} (h : H b = some (.tup (([Sum.inr x.1, Sum.inr x.2] : List Key).map kV))) : prOf H b = x ∧ H b = some (.tup [.str (prOf H b).1, .str (prOf H b).2]) := by
  have h' : H b = some (.tup [.str x.1, .str x.2]) := h
  have e : prOf H b = x := by
    unfold prOf
    rw [h']
  rw [e]
  exact ⟨rfl, h'⟩
/-- the keys' own tuples -/
theorem keys_rel {H : Hp} : ∀ {kvs : List (List Key × V)} {xs : List (List Key × Addr × Value)} {ks : List (Str × Str)}, KT H kvs xs → kvs.map (·.1) = ks.map (fun x => [Sum.inr x.1, Sum.inr x.2]) →
    (xs.map fun q => q.2.1).map (prOf H) = ks ∧ ∀ b ∈ xs.map (fun q => q.2.1), H b = some (.tup [.str (prOf H b).1, .str (prOf H b).2])
  | [], [], [], .nil, _ => ⟨rfl, fun b h => by cases h⟩
  | p :: kvs, q :: xs, k :: ks, .cons h t, e => by
    obtain ⟨h1, h2, _⟩ := h
    injection e with e1 e2
    obtain ⟨a, b⟩ := keys_rel t e2
    have e1' : p.1 = [Sum.inr k.1, Sum.inr k.2] := e1
    rw [e1'] at h2
    obtain ⟨c, d⟩ := key_pair h2
    refine ⟨?_, fun x hx => ?_⟩
    · show prOf H q.2.1 :: _ = _
      rw [c, a]
    · rcases List.mem_cons.mp hx with e | hx
      · rw [e]
        exact d
      · exact b x hx
  | [], [], _ :: _, .nil, e => by cases e
  | _ :: _, _ :: _, [], .cons _ _, e => by cases e
def unR : Value → Addr
  | .ref b => b
  | _ => 0
theorem perm_back {l : List Value} {as : List Addr} (h : l.Perm (as.map Value.ref)) : ∃ qs : List Addr, l = qs.map Value.ref ∧ qs.Perm as := by
  refine ⟨l.map unR, ?_, ?_⟩
  · rw [List.map_map]
    have e : ∀ v ∈ l, (Value.ref ∘ unR) v = v := fun v hv => by
      obtain ⟨b, _, rfl⟩ := List.mem_map.mp (h.mem_iff.mp hv)
      rfl
    have e2 : l.map (Value.ref ∘ unR) = l.map id := List.map_congr_left fun v hv => e v hv
    rw [e2, List.map_id]
  · have h2 := h.map unR
    rw [List.map_map] at h2
    have e : as.map (unR ∘ Value.ref) = as := by
      have e3 : as.map (unR ∘ Value.ref) = as.map id := List.map_congr_left fun v _ => rfl
      rw [e3, List.map_id]
    rw [e] at h2
    exact h2
section
variable {X : Cx}
theorem call_sortedT (hcalm : X.calm = true) : CallR X (.builtin "sorted") rSortedT := by
  intro pins s σ H xs us Q I r q
  obtain ⟨a, kvs, ks, rfl, hd, hks, q⟩ := q
  obtain ⟨u, rfl, rx⟩ := vals1 r
  cases rx
  obtain ⟨z, lo, vs, rel, o, es, ep, ho, hx, hdat, hes, nd⟩ := (show ObjOk X.prog X.w H s.heap a (.dT kvs) from rd_of I.hok hd)
  obtain ⟨k1, k2⟩ := keys_rel rel hks
  have hlen : es.size = vs.length := by
    rw [← Array.length_toList, hes, List.length_map]
  have hz : kvs.length = vs.length := Paired.length rel
  refine Calls.call_function_entry PyProof.Rows.kind_sorted PyProof.Rows.plain_sorted PyProof.Rows.entry_sorted (PyProof.Rows.args_sorted1 _) ?_
  unfold Builtin.«sorted»
  refine wpAny_bind (m := checkCount "sorted" 1 1 _) (wpAny_pure ?_)
  refine wpAny_bind (PySem.W.kdu_collect (A := X.A.in1) (src_keys lo hx hdat) (I.ok.hd hcalm) ho (by omega) fun h' tk acc hk hacc => ?_)
  have hacc' : acc.toList = (vs.map fun q => q.2.1).map Value.ref := by
    refine List.ext_getElem? fun j => ?_
    rw [List.map_map, List.getElem?_map]
    have e1 : acc.toList[j]? = acc[j]? := Array.getElem?_toList
    rw [e1]
    cases h1 : acc[j]? with
    | none =>
      have h2 : acc.size ≤ j := Array.getElem?_eq_none_iff.mp h1
      rw [hacc.1, hlen] at h2
      rw [List.getElem?_eq_none h2]
      rfl
    | some v =>
      obtain ⟨en, h2, rfl⟩ := hacc.2 j v h1
      have h3 : es.toList[j]? = some en := by rw [Array.getElem?_toList]; exact h2
      rw [hes, List.getElem?_map] at h3
      cases h4 : vs[j]? with
      | none => rw [h4] at h3; cases h3
      | some y =>
        rw [h4] at h3
        cases h3
        rfl
  have I1 : Inv X pins σ H { s with heap := h', toks := tk } := I.kept hk
  generalize vs.map (fun q => q.2.1) = as at k1 k2 hacc'
  have hal : acc.toList.length ≤ sizeLine := by
    rw [Array.length_toList, hacc.1]
    omega
  refine wpAny_bind (wpAny_newList ?_ hal)
  rw [hacc']
  rw [hacc'] at hal
  have hoL : (h'.push (seqObj "list" (as.map Value.ref).toArray 0)).get? h'.objs.size = some (seqObj "list" (as.map Value.ref).toArray 0) := Heap.get?_push_size _ rfl
  show wpAny _ _ _ _ _ { s with heap := h'.push (seqObj "list" (as.map Value.ref).toArray 0), toks := tk }
  have obj : ∀ b ∈ as, ∃ (ob : Obj) (n : Nat) (t1 t2 : Tok), (h'.push (seqObj "list" (as.map Value.ref).toArray 0)).get? b = some ob ∧ ob.cls = .type "tuple" ∧ ob.data = .seq #[.str (prOf H b).1 t1, .str (prOf H b).2 t2] n := by
    intro b hb
    obtain ⟨_, its, r2, ob, h1, h2, n, h3⟩ := (show ObjOk X.prog X.w H h' b (.tup [.str (prOf H b).1, .str (prOf H b).2]) from I1.hok b _ (k2 b hb))
    obtain ⟨u1, u2, rfl, ⟨t1, rfl⟩, ⟨t2, rfl⟩⟩ := vals2 r2
    exact ⟨ob, n, t1, t2, Heap.get?_push_of_some _ h1, h2, h3⟩
  have tups : ∀ l : List Addr, (∀ b ∈ l, b ∈ as) → ∃ fs, PyProof.Rows.TupsOf (h'.push (seqObj "list" (as.map Value.ref).toArray 0)) (fun _ => true) (l.map Value.ref) fs := by
    intro l
    induction l with
    | nil => intro _; exact ⟨[], .nil⟩
    | cons b l ih =>
      intro hl
      obtain ⟨fs, hf⟩ := ih fun x hx => hl x (List.mem_cons_of_mem _ hx)
      obtain ⟨ob, n, t1, t2, h1, h2, h3⟩ := obj b (hl b List.mem_cons_self)
      exact ⟨_, .cons ⟨b, ob, _, n, rfl, h1, h2, h3, rfl, fun z => (by cases z), fun _ => ⟨_, _, rfl⟩⟩ hf⟩
  obtain ⟨fs, hfs⟩ := tups as fun _ h => h
  have keyC : ∀ b ∈ as, PyProof.Rows.G.tupKeyC (h'.push (seqObj "list" (as.map Value.ref).toArray 0)) (fun _ => true) (.ref b) = some (txt2 (prOf H b)) := by
    intro b hb
    obtain ⟨ob, n, t1, t2, h1, h2, h3⟩ := obj b hb
    have hT : PyProof.Rows.G.isTupObj (h'.push (seqObj "list" (as.map Value.ref).toArray 0)) (.ref b) = true := by
      simp [PyProof.Rows.G.isTupObj, h1, h2]
    unfold PyProof.Rows.G.tupKeyC
    rw [if_pos hT]
    simp only [PyProof.Rows.tupKey, h1, h3]
    rfl
  refine wpAny_bind (wpAny_holding (wpAny_call_entry PyProof.Rows.slot_list_sort ⟨_, hoL, rfl⟩ PyProof.Rows.entry_list_sort
    (PyProof.Rows.G.list_sort_tups (s := { s with heap := h'.push (seqObj "list" (as.map Value.ref).toArray 0), toks := tk }) hoL hfs
      (fun v hv => ?_) hal fun st' hp hs _ => ⟨_, rfl, ?_⟩) (PyProof.Rows.args_list_sort _)))
  · obtain ⟨b, hb, rfl⟩ := List.mem_map.mp hv
    exact ⟨_, keyC b hb⟩
  obtain ⟨e', he'⟩ := PyProof.Rows.sortedHeap_at (vs := as.map Value.ref) (out := (arrOf st').map (·.2)) hoL
  have mem : ∀ p ∈ (arrOf st').toList, p.1 = p.2 ∧ p.1 ∈ as.map Value.ref := fun p hp' => by
    have h1 := (hp.toList.mem_iff (a := p)).mp hp'
    rw [PyProof.Rows.pairsOf_toList] at h1
    exact PyProof.Rows.mem_zip_self h1
  obtain ⟨qs, hq1, hq2⟩ : ∃ qs : List Addr, (arrOf st').toList.map (·.2) = qs.map Value.ref ∧ qs.Perm as := by
    have h1 : ((arrOf st').toList.map (·.2)).Perm (as.map Value.ref) := by
      have h2 := hp.toList.map (fun p : Keyed => p.2)
      rw [PyProof.Rows.pairsOf_toList] at h2
      rw [List.map_snd_zip (Nat.le_refl _)] at h2
      exact h2
    exact perm_back h1
  have hql : qs.length = as.length := hq2.length_eq
  have harr : (arrOf st').toList.length = qs.length := by
    have h1 := congrArg List.length hq1
    rw [List.length_map, List.length_map] at h1
    exact h1
  have hkk : ∀ i, i < qs.length → PyProof.Rows.KK (PyProof.Rows.G.tupKindC (h'.push (seqObj "list" (as.map Value.ref).toArray 0)) fun _ => true) (arrOf st') i = txt2 (prOf H (qs.getD i 0)) := by
    intro i hi
    have hi' : i < (arrOf st').toList.length := by omega
    have e1 : (arrOf st')[i]? = some (arrOf st').toList[i] := by
      rw [← Array.getElem?_toList, List.getElem?_eq_getElem hi']
    obtain ⟨m1, m2⟩ := mem _ (List.getElem_mem hi')
    have e2 : (arrOf st').toList[i].2 = .ref (qs.getD i 0) := by
      have h1 := congrArg (fun l => l[i]?) hq1
      simp only [List.getElem?_map, List.getElem?_eq_getElem hi', List.getElem?_eq_getElem hi, Option.map_some, Option.some.injEq] at h1
      rw [h1, List.getD_eq_getElem?_getD, List.getElem?_eq_getElem hi]
      rfl
    have hin : qs.getD i 0 ∈ as := hq2.mem_iff.mp (by rw [List.getD_eq_getElem?_getD, List.getElem?_eq_getElem hi]; exact List.getElem_mem hi)
    unfold PyProof.Rows.KK
    rw [e1]
    show (PyProof.Rows.G.tupKeyC _ _ (arrOf st').toList[i].1).getD _ = _
    rw [m1, e2, keyC _ hin]
    rfl
  have srt : ∀ i j, i ≤ j → j < qs.length → ltSS (prOf H (qs.getD j 0)) (prOf H (qs.getD i 0)) = false := by
    intro i j hij hj
    have h1 := hs i j hij (by rw [PyProof.Rows.pairsOf_size, List.length_map]; omega)
    rw [hkk i (by omega), hkk j hj] at h1
    exact h1
  have vals : ∀ l : List Addr, Vals (l.map V.ref) (l.map Value.ref) := fun l => by
    induction l with
    | nil => exact .nil
    | cons b l ih => exact .cons rfl ih
  have hout : ((arrOf st').map (·.2)).toList = qs.map Value.ref := by
    rw [Array.toList_map]
    exact hq1
  have hz2 : (qs.map V.ref).length ≤ sizeLine := by
    rw [List.length_map, hql]
    rw [List.length_map] at hal
    exact hal
  have fresh := I1.hok.fresh (Nat.le_refl h'.objs.size)
  refine wpAny_pure ⟨.ref h'.objs.size, rfl, .ref h'.objs.size, upd H h'.objs.size (.lst (qs.map V.ref)), ?_, rfl, q as qs _ k1 k2 hq2 srt fresh⟩
  refine I1.laid (t' := tk) (fun b u e => ?_) (Nat.le_refl _) ⟨hz2, qs.map Value.ref, e', vals qs, ?_⟩
  · have hb : b < h'.objs.size := Heap.lt_size e
    rw [PyProof.Rows.sortedHeap_old (Nat.ne_of_lt hb) (by rw [size_push']; exact Nat.lt_succ_of_lt hb)]
    exact Heap.get?_push_of_some _ e
  · rw [← hout, Array.toArray_toList]
    exact he'
end
end Mq

namespace Mq
open PySem PySem.Spec PyProof.Rows L2
/-! ### pairs of texts by <= -/
def leSS (x y : Str × Str) : Bool := if x.1 = y.1 then (if x.2 = y.2 then true else !decide (y.2.cps.toList < x.2.cps.toList)) else !decide (y.1.cps.toList < x.1.cps.toList)
theorem op_leSS {X : Cx} (hu : X.A.units < cLine) : OpR X (compareOp .LtE) (fun x y H Q => ∃ (a b : Addr) (p q : Str × Str), x = .ref a ∧ y = .ref b ∧ SqT X.K H a [.str p.1, .str p.2] ∧ SqT X.K H b [.str q.1, .str q.2] ∧ Q (.bl (leSS p q)) H) := by
  intro pins s σ H x y v u Q I rx ry h
  obtain ⟨a, b, p, q, rfl, rfl, ha, hb, k⟩ := h
  cases rx
  cases ry
  obtain ⟨its, r1, p1, _⟩ := I.tuple ha
  obtain ⟨its2, r2, p2, _⟩ := I.tuple hb
  obtain ⟨u1, u2, rfl, ⟨t1, rfl⟩, ⟨t2, rfl⟩⟩ := vals2 r1
  obtain ⟨v1, v2, rfl, ⟨t3, rfl⟩, ⟨t4, rfl⟩⟩ := vals2 r2
  let e : Nat → Bool := fun j => if j = 0 then p.1 == q.1 else p.2 == q.2
  let r : Nat → Bool := fun j => if j = 0 then !decide (q.1.cps.toList < p.1.cps.toList) else !decide (q.2.cps.toList < p.2.cps.toList)
  have R := Ob.RcOp.tuples_le (A := X.A) (s := s) (e := e) (r := r) p1 p2 hu (fun j h1 h2 => by
    match j, h1, h2 with
    | 0, _, _ => exact SeqAt.EqAt.str_str _ _ _ _
    | 1, _, _ => exact SeqAt.EqAt.str_str _ _ _ _) (fun j h1 h2 _ => by
    match j, h1, h2 with
    | 0, _, _ => exact fun prog w E Q h => PySem.P.le_str h
    | 1, _, _ => exact fun prog w E Q h => PySem.P.le_str h)
  have z : Ob.lexAt e r (decide ((#[Value.str p.1 t1, Value.str p.2 t2] : Array Value).size ≤ (#[Value.str q.1 t3, Value.str q.2 t4] : Array Value).size)) 0 2 = leSS p q := by
    show (if (p.1 == q.1) = true then (if (p.2 == q.2) = true then true else !decide (q.2.cps.toList < p.2.cps.toList)) else !decide (q.1.cps.toList < p.1.cps.toList)) = _
    unfold leSS
    simp only [beq_iff_eq]
  have R2 : Ob.RcOp .LtE X.A s (.ref a) (.ref b) (leSS p q) := by
    rw [← z]
    exact R
  exact R2 X.prog X.w X.xe (EP X pins σ Q) ⟨.bl _, H, I, rfl, k⟩
/-- ahead, so not behind or equal -/
theorem le_of_lt {x y : Str × Str} (h : ltSS y x = true) : leSS x y = false := by
  have h1 : (decide (y.1.cps.toList < x.1.cps.toList) || (!decide (x.1.cps.toList < y.1.cps.toList) && (decide (y.2.cps.toList < x.2.cps.toList) || (!decide (x.2.cps.toList < y.2.cps.toList) && false)))) = true := h
  unfold leSS
  by_cases c1 : y.1.cps.toList < x.1.cps.toList
  · rw [if_neg (fun z => by rw [z] at c1; exact List.lt_irrefl _ c1), decide_eq_true c1]
    rfl
  · rw [decide_eq_false c1] at h1
    simp only [Bool.false_or, Bool.and_false, Bool.or_false, Bool.and_eq_true, Bool.not_eq_true', decide_eq_false_iff_not, decide_eq_true_eq] at h1
    obtain ⟨c2, c3⟩ := h1
    have e : x.1.cps.toList = y.1.cps.toList := List.le_antisymm (List.not_lt.mp c1) (List.not_lt.mp c2)
    have e' : x.1 = y.1 := congrArg Str.mk (Array.ext' e)
    rw [if_pos e', if_neg (fun z => by rw [z] at c3; exact List.lt_irrefl _ c3), decide_eq_true c3]
    rfl
theorem lt_of {x y : Str × Str} (h : ltSS x y = false) (n : x ≠ y) : ltSS y x = true := by
  cases e : ltSS y x with
  | true => rfl
  | false =>
    have h2 : txt2 x = txt2 y := (PyProof.Rows.listOrd PyProof.Rows.itemOrd).total _ _ h e
    injection h2 with h3 h4
    injection h4 with h5 _
    have e1 : x.1.cps.toList = y.1.cps.toList := by injection h3
    have e2 : x.2.cps.toList = y.2.cps.toList := by injection h5
    exact (n (Prod.ext (congrArg Str.mk (Array.ext' e1)) (congrArg Str.mk (Array.ext' e2)))).elim
end Mq

namespace Lw
open PySem PySem.Spec PyProof.Rows L2 Mq
open SX (S)
/-! ### books -/
structure Fd where
  x : Nat
  y : Nat
  z : List Nat
def fdV (f : Fd) : List V := [.str (S [f.x]), .str (S [f.y]), .str (S f.z)]
def FdAt (K : PySem.W.Frag) (H : Hp) (v : V) (f : Fd) : Prop := ∃ b, v = .ref b ∧ SqT K H b (fdV f)
def fdOk (sg : List Nat) (f : Fd) : Prop := f.x ∈ sg ∧ f.y ∈ sg ∧ (f.z = [] ∨ ∃ c ∈ sg, f.z = [c])
structure SgOk (sg : List Nat) : Prop where
  pos : 0 < sg.length
  few : sg.length ≤ 10
  low : ∀ c ∈ sg, c < 128
  ok : lettersB sg = true
def spLetter : Sp := fun vs H Q _ => ∃ sg z : List Nat, vs = [.str (S sg), .str (S z)] ∧ z.length ≤ 1000 ∧ ((∃ c, z = [c] ∧ c ∈ sg ∧ Q (.bl true) H) ∨ (z = [] ∧ Q (.bl false) H))
def spFold (K : PySem.W.Frag) : Sp := fun vs H Q _ => ∃ (sg : List Nat) (v : V) (f : Fd), vs = [.str (S sg), v] ∧ FdAt K H v f ∧ fdOk sg f ∧ Q (.bl true) H
section
variable {P : Program} {w : World} {K : PySem.W.Frag} {mg : Str → Option Value} {base : Heap}
theorem ok_is_letter {f : Addr} {fd : FuncData} (F : Fun K "is_letter" "is_letter" s_is_letter f fd) (B : Blt mg) : FnOk P w K mg base CX0 1 f fd ["letters", "thing"] spLetter := by
  refine F.ok sc_is_letter (fun vs H Q E h => ?_) (fun cdv A outer s H vs Q E hr h => ?_)
  · obtain ⟨_, _, rfl, _⟩ := h
    rfl
  · obtain ⟨sg, z, rfl, hz, h⟩ := h
    refine ⟨_, pss_one (ps_ret (pe_and (pe_callB call_isi (by rfl) B.isi (by decide +kernel) (pa_cons (pv 1) (pa_cons (pe_bltn (v := .ty "str") (by rfl) B.str (by decide +kernel) rfl) pa_nil))) (pe_and (pe_cmpR op_eq (pe_callB call_len (by rfl) B.len (by decide +kernel) (pa_cons (pv 1) pa_nil)) pe_int (nomark _)) (pe_one (pe_cmpR op_in_sign (pv 1) (pv 0) rfl))))), ?_⟩
    refine ⟨_, rfl, _, .ty "str", _, _, true, rfl, .ty _, .base (.str _), kit_self, true, rfl, iteT ⟨_, rfl, _, _, rfl, len_S (by omega), rfl, _, rfl, ?_⟩⟩
    rcases h with ⟨c, rfl, hc, q⟩ | ⟨rfl, q⟩
    · refine ifT rfl ⟨_, rfl, _, rfl, c, S sg, rfl, rfl, ?_⟩
      rw [show decide (c ∈ (S sg).cps.toList) = true from decide_eq_true hc]
      exact q
    · exact ifF rfl q
theorem ok_is_fold {f fL : Addr} {fd fdL : FuncData} (F : Fun K "is_fold" "is_fold" s_is_fold f fd) (B : Blt mg)
    (FL : Fun K "is_letter" "is_letter" s_is_letter fL fdL) (gL : mg "is_letter" = some (.ref fL)) (bL : Binds K fdL ["letters", "thing"] []) : FnOk P w K mg base CX0 2 f fd ["letters", "thing"] (spFold K) := by
  have GL : FnOk P w K mg base CX0 1 fL fdL ["letters", "thing"] spLetter := ok_is_letter FL B
  refine F.ok sc_is_fold (fun vs H Q E h => ?_) (fun cdv A outer s H vs Q E hr h => ?_)
  · obtain ⟨_, _, _, rfl, _⟩ := h
    rfl
  · obtain ⟨sg, v, fo, rfl, ⟨b, rfl, hb⟩, ⟨h1, h2, h3⟩, q⟩ := h
    refine ⟨_, (pss_cons (ps_if (PW.pt (pw_or (pt_not (pt_val (pe_callB call_isi (by rfl) B.isi (by decide +kernel) (pa_cons (pv 1) (pa_cons (pe_bltn (v := .ty "tuple") (by rfl) B.tuple (by decide +kernel) rfl) pa_nil))))) (pw_or1 (pt_cmpR op_ne (pe_callB call_len (by rfl) B.len (by decide +kernel) (pa_cons (pv 1) pa_nil)) pe_int (nomark _))))) (pss_one (ps_ret pe_bl)) pss_nil)
      (pss_cons (ps_if (PW.pt (pw_or (pt_not (pt_val (pe_call GL (hr.mono (by decide)) (by rfl) gL FL.kp bL .nil pass0 (pa_cons (pv 0) (pa_cons (pe_ix ix_tup (pv 1) pe_int (fun _ _ => rfl)) pa_nil))))) (pw_or1 (pt_not (pt_val (pe_call GL (hr.mono (by decide)) (by rfl) gL FL.kp bL .nil pass0 (pa_cons (pv 0) (pa_cons (pe_ix ix_tup (pv 1) pe_int (fun _ _ => rfl)) pa_nil)))))))) (pss_one (ps_ret pe_bl)) pss_nil)
      (pss_one (ps_ret (pe_or (pe_call GL (hr.mono (by decide)) (by rfl) gL FL.kp bL .nil pass0 (pa_cons (pv 0) (pa_cons (pe_ix ix_tup (pv 1) pe_int (fun _ _ => rfl)) pa_nil))) (pe_one (pe_and (pe_callB call_isi (by rfl) B.isi (by decide +kernel) (pa_cons (pe_ix ix_tup (pv 1) pe_int (fun _ _ => rfl)) (pa_cons (pe_bltn (v := .ty "str") (by rfl) B.str (by decide +kernel) rfl) pa_nil))) (pe_one (pe_cmpR op_eq (pe_ix ix_tup (pv 1) pe_int (fun _ _ => rfl)) pe_str (nomark _)))))))))), ?_⟩
    have a0 : atI (fdV fo) 0 = some (.str (S [fo.x])) := atI_nat (j := 0) rfl
    have a1 : atI (fdV fo) 1 = some (.str (S [fo.y])) := atI_nat (j := 1) rfl
    have a2 : atI (fdV fo) 2 = some (.str (S fo.z)) := atI_nat (j := 2) rfl
    refine ⟨_, rfl, _, .ty "tuple", _, _, true, rfl, .ty _, ty_tup hb, kit_ty (by decide +kernel), true, rfl, ?_⟩
    refine ifF rfl ⟨_, rfl, _, _, rfl, len_tup hb, rfl, _, rfl, ifF rfl ?_⟩
    refine ⟨_, rfl, _, rfl, b, _, 0, _, rfl, rfl, hb, a0, sg, [fo.x], rfl, (by show 1 ≤ 1000; decide), Or.inl ⟨fo.x, rfl, h1, _, rfl, ?_⟩⟩
    refine ifF rfl ⟨_, rfl, _, rfl, b, _, 1, _, rfl, rfl, hb, a1, sg, [fo.y], rfl, (by show 1 ≤ 1000; decide), Or.inl ⟨fo.y, rfl, h2, _, rfl, ifF rfl ?_⟩⟩
    refine ⟨_, rfl, _, rfl, b, _, 2, _, rfl, rfl, hb, a2, sg, fo.z, rfl, ?_, ?_⟩
    · rcases h3 with h3 | ⟨c, _, h3⟩
      · rw [h3]
        exact Nat.zero_le _
      · rw [h3]
        show 1 ≤ 1000
        decide
    · rcases h3 with h3 | ⟨c, hc, h3⟩
      · refine Or.inr ⟨h3, _, rfl, ifF rfl ?_⟩
        refine ⟨_, rfl, b, _, 2, _, rfl, rfl, hb, a2, _, .ty "str", _, _, true, rfl, .ty _, .base (.str _), kit_self, true, rfl, ifT rfl ⟨_, rfl, b, _, 2, _, rfl, rfl, hb, a2, rfl, ?_⟩⟩
        rw [str_is_nil, decide_eq_true h3]
        exact q
      · exact Or.inl ⟨c, h3, hc, _, rfl, ifT rfl q⟩
end
end Lw

namespace Lw
open PySem PySem.Spec PyProof.Rows L2 Mq
open SX (S)
inductive FdAll (K : PySem.W.Frag) (H : Hp) : List V → List Fd → Prop
  | nil : FdAll K H [] []
  | cons {v : V} {f : Fd} {vs : List V} {fs : List Fd} : FdAt K H v f → FdAll K H vs fs → FdAll K H (v :: vs) (f :: fs)
theorem FdAt.kp {K : PySem.W.Frag} {H H' : Hp} {v : V} {f : Fd} (h : FdAt K H v f) (e : KpT K H H') : FdAt K H' v f := let ⟨a, x, y⟩ := h; ⟨a, x, e _ _ y⟩
theorem FdAll.kp {K : PySem.W.Frag} {H H' : Hp} (e : KpT K H H') : ∀ {vs : List V} {fs : List Fd}, FdAll K H vs fs → FdAll K H' vs fs
  | _, _, .nil => .nil
  | _, _, .cons a b => .cons (a.kp e) (FdAll.kp e b)
theorem FdAll.len {K : PySem.W.Frag} {H : Hp} : ∀ {vs : List V} {fs : List Fd}, FdAll K H vs fs → vs.length = fs.length
  | _, _, .nil => rfl
  | _, _, .cons a b => congrArg (· + 1) b.len
theorem FdAll.at {K : PySem.W.Frag} {H : Hp} : ∀ {vs : List V} {fs : List Fd} {i : Nat} {v : V}, FdAll K H vs fs → vs[i]? = some v → ∃ f, fs[i]? = some f ∧ FdAt K H v f
  | _, _, 0, _, .cons a b, h => ⟨_, rfl, by cases h; exact a⟩
  | _, _, i + 1, _, .cons a b, h => FdAll.at (i := i) b h
def keyF (f : Fd) : Str × Str := (S [f.x], S [f.y])
def tabF (fs : List Fd) : List (List Key × V) := fs.map fun f => ([Sum.inr (S [f.x]), Sum.inr (S [f.y])], V.str (S f.z))
/-- folds, as they have to be -/
structure FsOk (sg : List Nat) (fs : List Fd) : Prop where
  few : fs.length ≤ 200
  ok : ∀ f ∈ fs, fdOk sg f
  asc : ∀ i j, i < j → j < fs.length → ∀ f g, fs[i]? = some f → fs[j]? = some g → ltSS (keyF f) (keyF g) = true
def bkF (sg : List Nat) (fa ta : Addr) : List (Str × V) := [("letters", .str (S sg)), ("folds", .ref fa), ("table", .ref ta)]
def BkAt (H : Hp) (C r : Addr) (sg : List Nat) (fs : List Fd) (fa ta : Addr) : Prop := (∃ dx, H r = some (.ins C dx (bkF sg fa ta))) ∧ H ta = some (.dT (tabF fs))
structure BkC (K : PySem.W.Frag) (C : Addr) : Prop where
  cls : Cls K C
  nL : NoAttr K C "letters"
  nF : NoAttr K C "folds"
  nT : NoAttr K C "table"
def spBook (K : PySem.W.Frag) (C : Addr) : Sp := fun vs H Q _ => ∃ (r dx fa : Addr) (sg : List Nat) (fs : List Fd) (xs : List V), vs = [.ref r, .str (S sg), .ref fa] ∧
  H r = some (.ins C dx []) ∧ SqT K H fa xs ∧ FdAll K H xs fs ∧ FsOk sg fs ∧ SgOk sg ∧
  ∀ H' ta, BkAt H' C r sg fs fa ta → (∀ b o, H b = some o → b ≠ r → H' b = some o) → Q .non H'
theorem tab_snoc (fs : List Fd) (f : Fd) : tabF (fs ++ [f]) = tabF fs ++ [([Sum.inr (S [f.x]), Sum.inr (S [f.y])], V.str (S f.z))] := by
  unfold tabF
  rw [List.map_append]
  rfl
theorem putK_new {κ : Type} [DecidableEq κ] {kvs : List (κ × V)} {k : κ} {v : V} (h : ∀ p ∈ kvs, p.1 ≠ k) : putK kvs k v = kvs ++ [(k, v)] := by
  unfold putK
  rw [if_neg]
  intro z
  obtain ⟨p, hp, e⟩ := List.any_eq_true.mp z
  exact h p hp (of_decide_eq_true e)
theorem walk_enumT {K : PySem.W.Frag} {a : Addr} {xs : List V} : Walk (Iee K a) xs.length (fun H => SqT K H a xs) (YPair (fun i => some (.int (i : Nat))) (fun i => xs[i]?)) := by
  refine ⟨fun i _ hi q => ⟨xs, xs[i], q, by simp [hi]⟩, fun _ q => ⟨xs, q, Nat.le_refl _⟩, fun i H v H' _ q y => ?_⟩
  obtain ⟨T, x, h1, h2, h3, h4⟩ := y
  exact ⟨T, .int (i : Nat), x, h1, h2, h3, rfl, h4 xs q⟩
def aheadF (fs : List Fd) : Nat → Str × Str
  | 0 => ("", "")
  | i + 1 => match fs[i]? with
    | some f => keyF f
    | none => ("", "")
theorem ahead_lt {sg : List Nat} {fs : List Fd} (h : FsOk sg fs) {i : Nat} {f : Fd} (hf : fs[i]? = some f) : ltSS (aheadF fs i) (keyF f) = true := by
  have hi : i < fs.length := by
    rcases Nat.lt_or_ge i fs.length with h | h
    · exact h
    · rw [List.getElem?_eq_none h] at hf
      cases hf
  cases i with
  | zero =>
    have e : ltSS ("", "") (keyF f) = (decide (([] : List Nat) < [f.x]) || (!decide ([f.x] < ([] : List Nat)) && (decide (([] : List Nat) < [f.y]) || (!decide ([f.y] < ([] : List Nat)) && false)))) := rfl
    show ltSS ("", "") (keyF f) = true
    rw [e, decide_eq_true (show ([] : List Nat) < [f.x] from List.nil_lt_cons _ _)]
    rfl
  | succ i =>
    have e : fs[i]? = some fs[i] := List.getElem?_eq_getElem (by omega)
    show ltSS (match fs[i]? with | some f => keyF f | none => ("", "")) _ = true
    rw [e]
    exact h.asc i (i + 1) (by omega) hi _ _ e hf
theorem key_ne {sg : List Nat} {fs : List Fd} (h : FsOk sg fs) {i : Nat} {f : Fd} (hf : fs[i]? = some f) : ∀ p ∈ tabF (fs.take i), p.1 ≠ [Sum.inr (S [f.x]), Sum.inr (S [f.y])] := by
  intro p hp e
  have hi : i < fs.length := by
    rcases Nat.lt_or_ge i fs.length with h | h
    · exact h
    · rw [List.getElem?_eq_none h] at hf
      cases hf
  obtain ⟨g, hg, rfl⟩ := List.mem_map.mp hp
  obtain ⟨j, hj⟩ := List.mem_iff_getElem?.mp hg
  have hji : j < i := by
    rcases Nat.lt_or_ge j i with h | h
    · exact h
    · rw [List.getElem?_eq_none (by rw [List.length_take]; omega)] at hj
      cases hj
  rw [List.getElem?_take, if_pos hji] at hj
  have l := h.asc j i hji hi g f hj hf
  have e1 : keyF g = keyF f := by
    injection e with e1 e2
    injection e2 with e2 _
    have e1' : S [g.x] = S [f.x] := Sum.inr.inj e1
    have e2' : S [g.y] = S [f.y] := Sum.inr.inj e2
    exact Prod.ext e1' e2'
  rw [e1] at l
  have := (PyProof.Rows.listOrd PyProof.Rows.itemOrd).irrefl (txt2 (keyF f))
  have l' : (PyProof.Rows.listOrd PyProof.Rows.itemOrd).blt (txt2 (keyF f)) (txt2 (keyF f)) = true := l
  rw [this] at l'
  cases l'
section
variable {P : Program} {w : World} {K : PySem.W.Frag} {mg : Str → Option Value} {base : Heap} {C : Addr}
theorem ok_book {f fL fF : Addr} {fd fdL fdF : FuncData} (F : Fun K "__init__" "Book.__init__" s_Book___init__ f fd) (B : Blt mg) (R : BkC K C)
    (FL : Fun K "is_letters" "is_letters" s_is_letters fL fdL) (gL : mg "is_letters" = some (.ref fL)) (bL : Binds K fdL ["thing"] []) (GL : FnOk P w K mg base CX0 2 fL fdL ["thing"] (spLetters K))
    (FF : Fun K "is_fold" "is_fold" s_is_fold fF fdF) (gF : mg "is_fold" = some (.ref fF)) (bF : Binds K fdF ["letters", "thing"] []) (GF : FnOk P w K mg base CX0 2 fF fdF ["letters", "thing"] (spFold K)) :
    FnOk P w K mg base CX0 3 f fd ["self", "letters", "folds"] (spBook K C) := by
  refine F.ok sc_Book___init__ (fun vs H Q E h => ?_) (fun cdv A outer s H vs Q E hr h => ?_)
  · obtain ⟨_, _, _, _, _, _, rfl, _⟩ := h
    rfl
  · obtain ⟨r, dx, fa, sg, fs, xs, rfl, hr0, hfa, hall, hfs, hs, q⟩ := h
    have hu : (A.deeper (envOfC "Book.__init__" (defScope s_Book___init__) s.heap.objs.size f cdv)).units + 64 < cLine := by
      have := hr.units
      omega
    have hu0 : (A.deeper (envOfC "Book.__init__" (defScope s_Book___init__) s.heap.objs.size f cdv)).units < cLine := by omega
    have hu1 : (A.deeper (envOfC "Book.__init__" (defScope s_Book___init__) s.heap.objs.size f cdv)).units + 1 < cLine := by omega
    refine ⟨_, (pss_cons (ps_if (pt_not (pt_val (pe_call GL (hr.mono (by decide)) (by rfl) gL FL.kp bL .nil pass0 (pa_cons (pv 1) pa_nil)))) (pss_one ps_dead) pss_nil)
      (pss_cons (ps_if (pt_not (pt_val (pe_callB call_isi (by rfl) B.isi (by decide +kernel) (pa_cons (pv 2) (pa_cons (pe_bltn (v := .ty "tuple") (by rfl) B.tuple (by decide +kernel) rfl) pa_nil))))) (pss_one ps_dead) pss_nil)
      (pss_cons (ps_set (i := 3) sc_Book___init__.nd rfl (Or.inl rfl) pe_dnewT)
      (pss_cons (ps_set (i := 4) sc_Book___init__.nd rfl (Or.inl rfl) (pe_tup (pa_cons pe_str (pa_cons pe_str pa_nil))))
      (pss_cons (ps_for PassesOwn.never rfl (pi_enumT (by rfl) B.enumerate (pa_cons (pv 2) pa_nil)) (pg_tup rfl (pgs_cons (pg_name (i := 5) sc_Book___init__.nd rfl (Or.inl rfl)) (pgs_cons (pg_name (i := 6) sc_Book___init__.nd rfl (Or.inl rfl)) pgs_nil)))
        (pss_cons (ps_if (PW.pt (pw_or (pt_not (pt_val (pe_call GF (hr.mono (by decide)) (by rfl) gF FF.kp bF .nil pass0 (pa_cons (pv 1) (pa_cons (pv 6) pa_nil))))) (pw_or1 (pt_cmpR (op_leSS hu0) (pe_slice sl_tup (pv 6) po_none (po_some pe_int)) (pv 4) (nomark _))))) (pss_one ps_dead) pss_nil)
        (pss_cons (ps_set (i := 4) sc_Book___init__.nd rfl (Or.inl rfl) (pe_slice sl_tup (pv 6) po_none (po_some pe_int)))
        (pss_one (ps_dput hu1 (pv 3) (pv 4) (pe_ix ix_tup (pv 6) pe_int (fun _ _ => rfl)) rfl)))))
      (pss_cons (ps_fld (pv 0) (pv 1) rfl)
      (pss_cons (ps_fld (pv 0) (pv 2) rfl)
      (pss_one (ps_fld (pv 0) (pv 3) rfl))))))))), ?_⟩
    have hl : xs.length = fs.length := hall.len
    refine ⟨_, rfl, _, rfl, Or.inl ⟨sg, rfl, by have := hs.few; omega, fun H1 s1 => ⟨_, rfl, ifF (by rw [hs.ok]; rfl) ?_⟩⟩⟩
    refine ⟨_, rfl, _, .ty "tuple", _, _, true, rfl, .ty _, ty_tup (Same.tup s1 hfa), kit_ty (by decide +kernel), true, rfl, iteF ?_⟩
    refine fun ta hta => ?_
    have s2 : Same H (upd H1 ta (.dT [])) := s1.trans (same_new hta)
    have ht2 : upd H1 ta (.dT []) ta = some (.dT (tabF [])) := upd_same
    have hnta : H ta = none := s1.free hta
    generalize upd H1 ta (.dT []) = H2 at s2 ht2 ⊢
    refine ⟨sz_le (n := 2) (by decide), fun p0 hp0 => ?_⟩
    have s3 : Same H (upd H2 p0 (.tup [V.str "", V.str ""])) := s2.trans (same_new hp0)
    have ht3 := (same_new (o := HO.tup [V.str "", V.str ""]) hp0) _ _ ht2
    have hp3 : upd H2 p0 (.tup [V.str "", V.str ""]) p0 = some (.tup [V.str "", V.str ""]) := upd_same
    generalize upd H2 p0 (.tup [V.str "", V.str ""]) = H3 at s3 ht3 hp3 ⊢
    refine ⟨_, rfl, fa, xs, rfl, Same.tup s3 hfa, ?_⟩
    refine for_it (walk_enumT (K := K) (a := fa) (xs := xs)) (fun i σ H' => Same H H' ∧ H' ta = some (.dT (tabF (fs.take i))) ∧ ∃ pa o5 o6, H' pa = some (.tup [.str (aheadF fs i).1, .str (aheadF fs i).2]) ∧ σ = [some (.ref r), some (.str (S sg)), some (.ref fa), some (.ref ta), some (.ref pa), o5, o6])
      ⟨s3, ht3, p0, _, _, hp3, rfl⟩ (fun i σ H' hi p => Same.tup p.1 hfa) ?_ ?_
    · rintro i x σ H4 H5 hi ⟨s4, ht4, pa, o5, o6, hpa, rfl⟩ ⟨T, y1, y2, rfl, hT, rfl, hy1, hy2⟩
      cases hy1
      obtain ⟨f, hf, hat⟩ := hall.at hy2
      have s5 := same_new (o := HO.tup [V.int (i : Nat), y2]) hT
      have t5 := s4.trans s5
      have ht5 := s5 _ _ ht4
      have hpa5 := s5 _ _ hpa
      refine ⟨T, _, rfl, Or.inl (Or.inl upd_same), rfl, _, _, rfl, _, _, rfl, rfl, ?_⟩
      generalize upd H4 T (.tup [V.int (i : Nat), y2]) = H5 at t5 ht5 hpa5 ⊢
      have hat5 := hat.kp (KpT.same t5)
      refine ⟨_, rfl, _, rfl, sg, y2, f, rfl, hat5, hfs.ok f (List.mem_of_getElem? hf), _, rfl, ifF rfl ?_⟩
      obtain ⟨b, rfl, hb⟩ := hat5
      have ecut : cutV (fdV f) none (some 2) = [V.str (S [f.x]), V.str (S [f.y])] := rfl
      refine ⟨_, rfl, 2, rfl, b, _, rfl, hb, (fun z => absurd z.2 (by show ¬ 2 = 3; decide)), fun p1 hp1 => ?_⟩
      rw [ecut]
      have s6 := same_new (o := HO.tup [V.str (S [f.x]), V.str (S [f.y])]) hp1
      refine ⟨_, rfl, p1, pa, keyF f, aheadF fs i, rfl, rfl, Or.inl (Or.inl upd_same), Or.inl (Or.inl (s6 _ _ hpa5)), _, rfl, ?_⟩
      rw [le_of_lt (ahead_lt hfs hf)]
      refine ifF rfl ?_
      have t6 := t5.trans s6
      have ht6 := s6 _ _ ht5
      have hb6 := Same.tup s6 hb
      generalize upd H5 p1 (.tup [V.str (S [f.x]), V.str (S [f.y])]) = H6 at t6 ht6 hb6 ⊢
      refine ⟨_, rfl, 2, rfl, b, _, rfl, hb6, (fun z => absurd z.2 (by show ¬ 2 = 3; decide)), fun p2 hp2 => ?_⟩
      rw [ecut]
      have s7 := same_new (o := HO.tup [V.str (S [f.x]), V.str (S [f.y])]) hp2
      have t7 := t6.trans s7
      have ht7 := s7 _ _ ht6
      have hb7 := Same.tup s7 hb6
      have hp7 : upd H6 p2 (.tup [V.str (S [f.x]), V.str (S [f.y])]) p2 = some (.tup [V.str (S [f.x]), V.str (S [f.y])]) := upd_same
      generalize upd H6 p2 (.tup [V.str (S [f.x]), V.str (S [f.y])]) = H7 at t7 ht7 hb7 hp7 ⊢
      have hlen : (tabF (fs.take i)).length < sizeLine := by
        unfold tabF
        rw [List.length_map, List.length_take]
        have := hfs.few
        exact sz_lt (by omega)
      have hput : putK (tabF (fs.take i)) [Sum.inr (S [f.x]), Sum.inr (S [f.y])] (V.str (S f.z)) = tabF (fs.take (i + 1)) := by
        rw [putK_new (key_ne hfs hf), List.take_add_one, hf]
        exact (tab_snoc _ f).symm
      refine ⟨_, rfl, b, _, 2, .str (S f.z), rfl, rfl, hb7, atI_nat (j := 2) rfl, _, rfl, _, rfl, ta, upd H7 ta (.dT (tabF (fs.take (i + 1)))), rfl, Or.inr ⟨tabF (fs.take i), [Sum.inr (S [f.x]), Sum.inr (S [f.y])], p2, ht7, rfl, hp7, hlen, by rw [hput]⟩, ?_⟩
      have hne : p2 ≠ ta := by
        rintro rfl
        rw [hp7] at ht7
        cases ht7
      refine ⟨fun b2 o2 e2 => ?_, upd_same, p2, _, _, (upd_ne hne).trans ?_, rfl⟩
      · rw [upd_ne (ne_of_none e2 hnta)]
        exact t7 b2 o2 e2
      · have e3 : aheadF fs (i + 1) = keyF f := by
          show (match fs[i]? with | some f => keyF f | none => ("", "")) = _
          rw [hf]
        rw [e3]
        exact hp7
    · rintro σ H4 ⟨s4, ht4, pa, o5, o6, hpa, rfl⟩
      rw [hl, List.take_length] at ht4
      have h4 := s4 _ _ hr0
      refine ⟨_, rfl, _, rfl, r, C, dx, [], rfl, h4, R.cls, R.nL, (by show 0 < 1000; decide), ?_⟩
      refine ⟨_, rfl, _, rfl, r, C, dx, _, rfl, upd_same, R.cls, R.nF, (by show 1 < 1000; decide), ?_⟩
      refine ⟨_, rfl, _, rfl, r, C, dx, _, rfl, upd_same, R.cls, R.nT, (by show 2 < 1000; decide), ?_⟩
      have hrt : ta ≠ r := by
        rintro rfl
        rw [hr0] at hnta
        cases hnta
      refine q _ ta ⟨⟨dx, upd_same.trans ?_⟩, (upd_ne hrt).trans ((upd_ne hrt).trans ((upd_ne hrt).trans ht4))⟩ (fun b o e hb => ?_)
      · exact congrArg (fun z => some (HO.ins C dx z)) rfl
      · rw [upd_ne hb, upd_ne hb, upd_ne hb]
        exact s4 b o e
end
end Lw

namespace Lw
open PySem PySem.Spec PyProof.Rows L2 Mq
open SX (S)
def WebGood (sg : List Nat) (v : V) (l : List Nat) : Prop := v = .str (S l) ∧ wordOk sg l
def WebBad (K : PySem.W.Frag) (H : Hp) (sg : List Nat) (v : V) : Prop := (∃ l, v = .str (S l) ∧ l.length ≤ 1000 ∧ allB l sg = false) ∨ NoStr K H v
def spCheck (K : PySem.W.Frag) (CW : Addr) : Sp := fun vs H Q E => ∃ (sg : List Nat) (v : V), vs = [.str (S sg), v] ∧
  ((∃ l, WebGood sg v l ∧ ∀ H', Same H H' → Q .non H') ∨ (WebBad K H sg v ∧ ∀ H' d, Same H H' → H' d = none → E (.ref CW) (some d) (upd H' d (.xd [("thing", v)]))))
/-! ### letters laid -/
def leftM (fs : List Fd) (x y : Nat) : Option (List Nat) := (fs.find? fun f => decide (f.x = x) && decide (f.y = y)).map (·.z)
def laidM (fs : List Fd) (w : List Nat) (y : Nat) : List Nat :=
  match w.getLast? with
  | .none => w ++ [y]
  | .some x => match leftM fs x y with
    | .none => w ++ [y]
    | .some z => w.dropLast ++ z
def optZ : Option (List Nat) → V
  | .none => .non
  | .some z => .str (S z)
theorem S_one {c d : Nat} : S [c] = S [d] ↔ c = d := ⟨fun h => by have := SX.S_inj h; simpa using this, fun h => by rw [h]⟩
theorem tab_val (fs : List Fd) (x y : Nat) : (valV (tabF fs) [Sum.inr (S [x]), Sum.inr (S [y])]).getD .non = optZ (leftM fs x y) := by
  unfold valV leftM tabF
  induction fs with
  | nil => rfl
  | cons f fs ih =>
    have e : decide (([Sum.inr (S [f.x]), Sum.inr (S [f.y])] : List Key) = [Sum.inr (S [x]), Sum.inr (S [y])]) = (decide (f.x = x) && decide (f.y = y)) := by
      rw [← Bool.decide_and]
      refine decide_eq_decide.mpr ⟨fun h => ?_, fun h => by rw [h.1, h.2]⟩
      injection h with h1 h2
      injection h2 with h2 _
      exact ⟨S_one.mp (Sum.inr.inj h1), S_one.mp (Sum.inr.inj h2)⟩
    rw [List.map_cons, List.find?_cons, List.find?_cons]
    show (Option.map _ (match decide (([Sum.inr (S [f.x]), Sum.inr (S [f.y])] : List Key) = [Sum.inr (S [x]), Sum.inr (S [y])]) with | true => _ | false => _)).getD V.non = _
    rw [e]
    cases decide (f.x = x) && decide (f.y = y) with
    | true => rfl
    | false => exact ih
def spLeft (C : Addr) : Sp := fun vs H Q _ => ∃ (r fa ta : Addr) (sg : List Nat) (fs : List Fd) (x y : Nat), vs = [.ref r, .str (S [x]), .str (S [y])] ∧ BkAt H C r sg fs fa ta ∧ ∀ H', Same H H' → Q (optZ (leftM fs x y)) H'
def spBehind (C : Addr) : Sp := fun vs H Q _ => ∃ (r fa ta : Addr) (sg w : List Nat) (fs : List Fd) (y : Nat), vs = [.ref r, .str (S w), .str (S [y])] ∧ BkAt H C r sg fs fa ta ∧ FsOk sg fs ∧ w.length ≤ 90000 ∧ ∀ H', Same H H' → Q (.str (S (laidM fs w y))) H'
section
variable {P : Program} {w : World} {K : PySem.W.Frag} {mg : Str → Option Value} {base : Heap} {C CW : Addr}
theorem ok_check_web {f fW fB : Addr} {fd fdW : FuncData} (F : Fun K "check_web" "check_web" s_check_web f fd) (B : Blt mg)
    (FW : Fun K "is_web" "is_web" s_is_web fW fdW) (gW : mg "is_web" = some (.ref fW)) (bW : Binds K fdW ["letters", "thing"] [])
    (GW : FnOk P w K mg base CX0 2 fW fdW ["letters", "thing"] (spWord K)) (T : MqE_thing.Txt K mg "BadWeb" "BadWeb.__init__" CW fB) :
    FnOk P w K mg base (L2.CX P w) 3 f fd ["letters", "thing"] (spCheck K CW) := by
  refine F.okX sc_check_web (fun vs H Q E h => ?_) (fun cdv A outer s H vs Q E hr h => ?_)
  · obtain ⟨_, _, rfl, _⟩ := h
    rfl
  · obtain ⟨sg, v, rfl, h⟩ := h
    refine ⟨_, (pss_one (ps_if (pt_not (pt_val (pe_call GW (hr.mono (by decide)) (by rfl) gW FW.kp bW .nil pass0 (pa_cons (pv 0) (pa_cons (pv 1) pa_nil))))) (pss_one (MqE_thing.ps_raise rfl T hr (takes_of rfl rfl rfl rfl) (pa_cons (pv 1) pa_nil))) pss_nil)), ?_⟩
    refine ⟨_, rfl, _, rfl, sg, v, rfl, ?_⟩
    rcases h with ⟨l, hg, q⟩ | ⟨hb, q⟩
    · refine Or.inl ⟨l, hg.1, by have := hg.2.2; omega, fun H1 s1 => ⟨_, rfl, ?_⟩⟩
      rw [allB_of hg.2.1]
      exact ifF rfl (q H1 s1)
    · have raise : ∀ H1, Same H H1 → (∃ v', [v] = [v'] ∧ ∀ d, H1 d = none → E (.ref CW) (some d) (upd H1 d (.xd [("thing", v')]))) := fun H1 s1 => ⟨v, rfl, fun d hd => q H1 d s1 hd⟩
      rcases hb with ⟨l, hv, hl, ha⟩ | hn
      · refine Or.inl ⟨l, hv, by omega, fun H1 s1 => ⟨_, rfl, ?_⟩⟩
        rw [ha]
        exact ifT rfl ⟨_, rfl, raise H1 s1⟩
      · refine Or.inr ⟨hn, fun H1 s1 => ⟨_, rfl, ifT rfl ⟨_, rfl, raise H1 s1⟩⟩⟩
theorem BkAt.same {H H' : Hp} {r fa ta : Addr} {sg : List Nat} {fs : List Fd} (h : BkAt H C r sg fs fa ta) (e : Same H H') : BkAt H' C r sg fs fa ta := let ⟨⟨d, x⟩, y⟩ := h; ⟨⟨d, e _ _ x⟩, e _ _ y⟩
theorem ok_left {f : Addr} {fd : FuncData} (F : Fun K "left_of" "Book.left_of" s_Book_left_of f fd) (R : BkC K C) : FnOk P w K mg base CX0 1 f fd ["self", "last", "laid"] (spLeft C) := by
  refine F.ok sc_Book_left_of (fun vs H Q E h => ?_) (fun cdv A outer s H vs Q E hr h => ?_)
  · obtain ⟨_, _, _, _, _, _, _, rfl, _⟩ := h
    rfl
  · obtain ⟨r, fa, ta, sg, fs, x, y, rfl, ⟨⟨dx, h1⟩, h2⟩, q⟩ := h
    have hu1 : (A.deeper (envOfC "Book.left_of" (defScope s_Book_left_of) s.heap.objs.size f cdv)).units + 1 < cLine := by
      have := hr.units
      omega
    refine ⟨_, pss_one (ps_ret (pe_dget1 hu1 (pe_fld (pv 0) rfl) (pe_tup (pa_cons (pv 1) (pa_cons (pv 2) pa_nil))) ⟨rfl, rfl, rfl, rfl⟩)), ?_⟩
    refine ⟨_, rfl, r, C, dx, _, _, rfl, h1, R.cls, R.nT, rfl, ta, rfl, ?_, _, rfl, _, rfl, sz_le (n := 2) (by decide), fun p hp => ?_⟩
    · exact Or.inr ⟨_, .inl h2⟩
    have s1 := same_new (o := HO.tup [V.str (S [x]), V.str (S [y])]) hp
    refine ⟨_, DGet.t (k := [Sum.inr (S [x]), Sum.inr (S [y])]) (s1 _ _ h2) upd_same, ?_⟩
    rw [tab_val]
    exact q _ s1
theorem cx0_at {X : Cx} {σ : L2.St} {E : XK} : PassesAt CX0 X σ E := fun _ _ _ _ _ _ z => z.elim
theorem left_len {sg : List Nat} {fs : List Fd} (h : FsOk sg fs) {x y : Nat} {z : List Nat} (e : leftM fs x y = .some z) : z.length ≤ 1 := by
  unfold leftM at e
  cases hf : fs.find? fun f => decide (f.x = x) && decide (f.y = y) with
  | none => rw [hf] at e; cases e
  | some f =>
    rw [hf] at e
    cases e
    rcases (h.ok f (List.mem_of_find?_eq_some hf)).2.2 with h1 | ⟨c, _, h1⟩
    · show f.z.length ≤ 1
      rw [h1]
      decide
    · show f.z.length ≤ 1
      rw [h1]
      exact Nat.le_refl 1
theorem ok_behind {f fL : Addr} {fd fdL : FuncData} (F : Fun K "laid_behind" "laid_behind" s_laid_behind f fd) (R : BkC K C)
    (FL : Fun K "left_of" "Book.left_of" s_Book_left_of fL fdL) (mL : Meth K C "left_of" fL) (bL : Binds K fdL ["self", "last", "laid"] []) : FnOk P w K mg base CX0 2 f fd ["book", "web", "letter"] (spBehind C) := by
  have GL : FnOk P w K mg base CX0 1 fL fdL ["self", "last", "laid"] (spLeft C) := ok_left FL R
  refine F.ok sc_laid_behind (fun vs H Q E h => ?_) (fun cdv A outer s H vs Q E hr h => ?_)
  · obtain ⟨_, _, _, _, _, _, _, rfl, _⟩ := h
    rfl
  · obtain ⟨r, fa, ta, sg, l, fs, y, rfl, hb, hfs, hl, q⟩ := h
    have hr1 : Room 1 (A.deeper (envOfC "laid_behind" (defScope s_laid_behind) s.heap.objs.size f cdv)) := hr
    refine ⟨_, (pss_cons (ps_set (i := 3) sc_laid_behind.nd rfl (Or.inl rfl) (pe_ifExp (pt_truth (pv 1) (by intro _; rfl)) (pe_methT (E := fun _ _ _ _ => False) (pv 0) R.cls mL GL hr1 bL (fun _ => cx0_at) (pa_cons (pe_ix ix_str (pv 1) (pe_un un_neg pe_int) (fun _ _ => rfl)) (pa_cons (pv 2) pa_nil))) pe_non))
      (pss_one (ps_ret (pe_ifExp (pt_cmpR op_isN (pv 3) pe_non (nomark _)) (pe_op op_add_str (pv 1) (pv 2)) (pe_op op_add_str (pe_slice C8.sl_txt (pv 1) po_none (po_some (pe_un un_neg pe_int))) (pv 3)))))), ?_⟩
    obtain ⟨⟨dx, h1⟩, h2⟩ := hb
    have hlz : (S l).length ≤ sizeLine := by
      rw [SX.S_len]
      exact sz_le (by omega)
    have hadd : ∀ H', Same H H' → laidM fs l y = l ++ [y] → (∃ i j : Str, V.str (S l) = .str i ∧ V.str (S [y]) = .str j ∧ i.length + j.length ≤ sizeLine ∧ Q (.str (i ++ j)) H') := by
      intro H' s' e
      refine ⟨S l, S [y], rfl, rfl, ?_, ?_⟩
      · rw [SX.S_len, SX.S_len]
        exact sz_le (by show l.length + 1 ≤ _; omega)
      · rw [SX.S_cat, ← e]
        exact q H' s'
    refine ⟨_, rfl, ((S l).length : Int) != 0, ⟨hlz, rfl⟩, ?_⟩
    rcases List.eq_nil_or_concat l with rfl | ⟨u, x, rfl⟩
    · refine ifF (by decide) ?_
      refine ⟨_, rfl, rfl, _, rfl, ifT rfl ⟨_, rfl, _, rfl, hadd H (Same.refl H) rfl⟩⟩
    · rw [List.concat_eq_append] at *
      have hn : (((S (u ++ [x])).length : Int) != 0) = true := by
        rw [SX.S_len, List.length_append]
        simp
        omega
      have hlast : laidM fs (u ++ [x]) y = (match leftM fs x y with | .none => u ++ [x] ++ [y] | .some z => u ++ z) := by
        unfold laidM
        rw [List.getLast?_concat, List.dropLast_concat]
      refine ifT hn ?_
      refine ⟨_, rfl, r, dx, _, rfl, h1, rfl, _, rfl, _, rfl, ?_⟩
      refine ⟨S (u ++ [x]), -1, x, rfl, rfl, hlz, atI_last u x, _, rfl, r, fa, ta, sg, fs, x, y, rfl, ⟨⟨dx, h1⟩, h2⟩, fun H1 s1 => ?_⟩
      cases e : leftM fs x y with
      | none =>
        rw [e] at hlast
        exact ⟨_, rfl, rfl, _, rfl, ifT rfl ⟨_, rfl, _, rfl, hadd H1 s1 hlast⟩⟩
      | some z =>
        rw [e] at hlast
        have hz := left_len hfs e
        refine ⟨_, rfl, rfl, _, rfl, ifF rfl ⟨_, rfl, _, rfl, _, rfl, S (u ++ [x]), rfl, hlz, ?_⟩⟩
        rw [show Txt.slice (S (u ++ [x])) none (some (-1)) = S u from SX.butlast_snoc u x]
        refine ⟨_, rfl, S u, S z, rfl, rfl, ?_, ?_⟩
        · rw [SX.S_len, SX.S_len]
          rw [List.length_append] at hl
          exact sz_le (by omega)
        · rw [SX.S_cat]
          have q1 := q H1 s1
          rw [hlast] at q1
          exact q1
end
end Lw

namespace Mq
open PySem PySem.Spec PyProof.Rows L2
/-- repr of a list or tuple without dicts in it, wherever it stands -/
def rRepP (K : PySem.W.Frag) : List V → Hp → VK → Prop := fun xs H Q => ∃ (a : Addr) (d : PyData), xs = [.ref a] ∧ Dp K H (.ref a) d ∧ d.showable = true ∧ d.hasDict = false ∧
  d.depth ≤ 40 ∧ d.shown.length ≤ sizeLine ∧ Q (.str d.shown) H
theorem call_repP {X : Cx} {k : Nat} (hr : Room k X.A) (gA : Still X.A) : CallR X (.builtin "repr") (rRepP X.K) := by
  intro pins s σ H xs us Q I r h
  obtain ⟨a, d, rfl, hd, hs, hz, hde, hl, q⟩ := h
  obtain ⟨u, rfl, rx⟩ := vals1 r
  have hu := hr.units
  obtain ⟨as, rd⟩ := Dp.reads I d _ _ hd rx
  cases rx
  exact repr_of_reads' rd hs (fun z => by rw [hz] at z; cases z) gA (by omega) (fun _ _ e => e) (fun h' u tk k => ⟨.str _, H, I.kept k, ⟨_, rfl⟩, q⟩) hl
/-- what a rule asks, told otherwise -/
theorem PE_imp {X : Cx} {e : Expr} {t t' : TE} (h : PE X e t) (i : ∀ σ H Q, t' σ H Q → t σ H Q) : PE X e t' := ⟨fun pins s σ H Q I q => h.run pins s σ H Q I (i σ H Q q)⟩
end Mq

namespace Mq
open PySem PySem.Spec PyProof.Rows L2
open SX (S)
/-! ### data of tuples, texts and numbers: where tuples stay, it stays -/
mutual
inductive Td (K : PySem.W.Frag) (H : Hp) : V → PyData → Prop
  | int (i : Int) : Td K H (.int i) (.int i)
  | str (x : Str) : Td K H (.str x) (.str x)
  | tup {a : Addr} {xs : List V} {ds : List PyData} : SqT K H a xs → TdAll K H xs ds → Td K H (.ref a) (.tuple ds)
inductive TdAll (K : PySem.W.Frag) (H : Hp) : List V → List PyData → Prop
  | nil : TdAll K H [] []
  | cons {v : V} {vs : List V} {d : PyData} {ds : List PyData} : Td K H v d → TdAll K H vs ds → TdAll K H (v :: vs) (d :: ds)
end
section
variable {K : PySem.W.Frag} {H H' : Hp}
mutual
theorem Td.kp (e : ∀ a xs, SqT K H a xs → SqT K H' a xs) : ∀ {v : V} {d : PyData}, Td K H v d → Td K H' v d
  | _, _, .int i => .int i
  | _, _, .str x => .str x
  | _, _, .tup h a => .tup (e _ _ h) (TdAll.kp e a)
theorem TdAll.kp (e : ∀ a xs, SqT K H a xs → SqT K H' a xs) : ∀ {v : List V} {d : List PyData}, TdAll K H v d → TdAll K H' v d
  | _, _, .nil => .nil
  | _, _, .cons a b => .cons (Td.kp e a) (TdAll.kp e b)
end
theorem Td.same (e : Same H H') {v : V} {d : PyData} (h : Td K H v d) : Td K H' v d := h.kp fun _ _ z => Same.tup e z
theorem TdAll.same (e : Same H H') {v : List V} {d : List PyData} (h : TdAll K H v d) : TdAll K H' v d := h.kp fun _ _ z => Same.tup e z
mutual
theorem Td.dg : ∀ {v : V} {d : PyData}, Td K H v d → Dg K H v d
  | _, _, .int i => .int i
  | _, _, .str x => .str x
  | _, _, .tup h a => .tup h (TdAll.dg a)
theorem TdAll.dg : ∀ {v : List V} {d : List PyData}, TdAll K H v d → DgAll K H v d
  | _, _, .nil => .nil
  | _, _, .cons a b => .cons (Td.dg a) (TdAll.dg b)
end
mutual
theorem Td.dp : ∀ {v : V} {d : PyData}, Td K H v d → Dp K H v d
  | _, _, .int i => .int i
  | _, _, .str x => .str x
  | _, _, .tup h a => .tup h (TdAll.dp a)
theorem TdAll.dp : ∀ {v : List V} {d : List PyData}, TdAll K H v d → DpAll K H v d
  | _, _, .nil => .nil
  | _, _, .cons a b => .cons (Td.dp a) (TdAll.dp b)
end
theorem TdAll.len : ∀ {vs : List V} {ds : List PyData}, TdAll K H vs ds → vs.length = ds.length
  | _, _, .nil => rfl
  | _, _, .cons a b => congrArg (· + 1) b.len
theorem TdAll.snoc : ∀ {vs : List V} {ds : List PyData} {v : V} {d : PyData}, TdAll K H vs ds → Td K H v d → TdAll K H (vs ++ [v]) (ds ++ [d])
  | _, _, _, _, .nil, h => .cons h .nil
  | _, _, _, _, .cons a b, h => .cons a (b.snoc h)
theorem TdAll.unsnoc : ∀ {vs : List V} {ds : List PyData} {d : PyData}, TdAll K H vs (ds ++ [d]) → ∃ us v, vs = us ++ [v] ∧ TdAll K H us ds ∧ Td K H v d
  | _, [], _, .cons a .nil => ⟨[], _, rfl, .nil, a⟩
  | _, e :: ds, _, .cons a b => by
    obtain ⟨us, v, rfl, h1, h2⟩ := b.unsnoc
    exact ⟨_ :: us, v, rfl, .cons a h1, h2⟩
theorem TdAll.at : ∀ {vs : List V} {ds : List PyData} {i : Nat} {v : V}, TdAll K H vs ds → vs[i]? = some v → ∃ d, ds[i]? = some d ∧ Td K H v d
  | _, _, 0, _, .cons a b, h => ⟨_, rfl, by cases h; exact a⟩
  | _, _, i + 1, _, .cons a b, h => TdAll.at (i := i) b h
theorem TdAll.of_strs {xs : List Str} : TdAll K H (xs.map V.str) (xs.map PyData.str) := by
  induction xs with
  | nil => exact .nil
  | cons x xs ih => exact .cons (.str x) ih
/-- a tuple of two -/
theorem Td.two {v : V} {d e : PyData} (h : Td K H v (.tuple [d, e])) : ∃ a x y, v = .ref a ∧ SqT K H a [x, y] ∧ Td K H x d ∧ Td K H y e := by
  cases h with
  | tup h a =>
    cases a with
    | cons a b =>
      cases b with
      | cons b c =>
        cases c
        exact ⟨_, _, _, rfl, h, a, b⟩
theorem Td.two' {a : Addr} {x y : V} {d e : PyData} (h : SqT K H a [x, y]) (h1 : Td K H x d) (h2 : Td K H y e) : Td K H (.ref a) (.tuple [d, e]) := .tup h (.cons h1 (.cons h2 .nil))
theorem Td.isStr {v : V} {x : Str} (h : Td K H v (.str x)) : v = .str x := by
  cases h
  rfl
end
/-! ### what can be shown, and how long it is -/
structure ShowOk (d : PyData) : Prop where
  sh : d.showable = true
  de : d.depth ≤ 40
  le : d.shown.length ≤ sizeLine
structure Gd (w n : Nat) (d : PyData) : Prop where
  cl : d.canLay0 = true
  sh : d.showable = true
  de : d.depth ≤ n
  we : d.weight ≤ w
  it : d.intsShort 13 = true
theorem gd_str {l : List Nat} {w : Nat} (h : ∀ c ∈ l, c < 1114112) (hl : l.length ≤ w) : Gd w 0 (.str (S l)) := by
  refine ⟨?_, rfl, Nat.le_refl 0, ?_, rfl⟩
  · show (l.toArray : Array Nat).all (fun d => decide (d < 1114112)) = true
    rw [List.all_toArray]
    exact List.all_eq_true.mpr fun c hc => decide_eq_true (h c hc)
  · show (S l).length ≤ w
    rw [SX.S_len]
    exact hl
theorem gd_int {k : Nat} (h : k ≤ 1000) : Gd 20 0 (.int (k : Nat)) := by
  obtain ⟨a, b, c⟩ := small_short k h
  exact ⟨rfl, b, Nat.le_refl 0, c, by show decide _ = true; exact decide_eq_true a⟩
theorem Gd.mono {w n w' n' : Nat} {d : PyData} (h : Gd w n d) (hw : w ≤ w') (hn : n ≤ n') : Gd w' n' d := ⟨h.cl, h.sh, Nat.le_trans h.de hn, Nat.le_trans h.we hw, h.it⟩
theorem gd_all {w n : Nat} : ∀ {ds : List PyData}, (∀ d ∈ ds, Gd w n d) → PyData.canLayAll0 ds = true ∧ PyData.showableAll ds = true ∧ PyData.depthAll ds ≤ n ∧ PyData.weightAll ds ≤ ds.length * (w + 1) ∧ PyData.intsShortAll 13 ds = true
  | [], _ => ⟨rfl, rfl, Nat.zero_le _, Nat.zero_le _, rfl⟩
  | d :: ds, h => by
    obtain ⟨a, b, c, e, f⟩ := gd_all fun x hx => h x (List.mem_cons_of_mem _ hx)
    have g := h d List.mem_cons_self
    refine ⟨?_, ?_, ?_, ?_, ?_⟩
    · show (d.canLay0 && PyData.canLayAll0 ds) = true
      rw [g.cl, a]
      rfl
    · show (d.showable && PyData.showableAll ds) = true
      rw [g.sh, b]
      rfl
    · exact Nat.max_le.mpr ⟨g.de, c⟩
    · show d.weight + 1 + PyData.weightAll ds ≤ (ds.length + 1) * (w + 1)
      have := g.we
      rw [Nat.add_mul, Nat.one_mul]
      omega
    · show (d.intsShort 13 && PyData.intsShortAll 13 ds) = true
      rw [g.it, f]
      rfl
theorem gd_tup {w n m : Nat} {ds : List PyData} (h : ∀ d ∈ ds, Gd w n d) (hl : ds.length ≤ m) : Gd (m * (w + 1)) (n + 1) (.tuple ds) := by
  obtain ⟨a, b, c, e, f⟩ := gd_all h
  exact ⟨a, b, Nat.succ_le_succ c, Nat.le_trans e (Nat.mul_le_mul_right _ hl), f⟩
theorem gd_lst {w n m : Nat} {ds : List PyData} (h : ∀ d ∈ ds, Gd w n d) (hl : ds.length ≤ m) : Gd (m * (w + 1)) (n + 1) (.list ds) := by
  obtain ⟨a, b, c, e, f⟩ := gd_all h
  exact ⟨a, b, Nat.succ_le_succ c, Nat.le_trans e (Nat.mul_le_mul_right _ hl), f⟩
theorem Gd.ok {w n : Nat} {d : PyData} (h : Gd w n d) (hw : w ≤ 1000000) (hn : n ≤ 40) : ShowOk d :=
  ⟨h.sh, Nat.le_trans h.de hn, shown_fits h.cl (Nat.le_trans h.de (Nat.le_trans hn (by decide))) (Nat.le_trans h.we hw) h.it⟩
end Mq

namespace Lw
open PySem PySem.Spec PyProof.Rows L2 Mq
open SX (S)
/-! ### what becomes of each letter -/
def ledM (fs : List Fd) (w row : List Nat) : List Nat := row.foldl (laidM fs) w
structure Spot where
  lay : Bool
  no : Nat
def kindS (b : Bool) : Str := if b then "lay" else "web"
def spD (p : Spot) : PyData := .tuple [.str (kindS p.lay), .int (p.no : Nat)]
def itD (q : Nat × Spot) : PyData := .tuple [.str (S [q.1]), spD q.2]
inductive Ev where
  | st
  | go (p : Spot)
  | tu (p : Spot)
def evD : Ev → PyData
  | .st => .tuple [.str "stands"]
  | .go p => .tuple [.str "goes", spD p]
  | .tu p => .tuple [.str "turns", spD p]
structure Run where
  ev : List Ev
  st : List (Nat × Spot)
def stepM (fs : List Fd) (k y : Nat) (r : Run) : Run :=
  match r.st.getLast? with
  | .none => ⟨r.ev ++ [.st], r.st ++ [(y, ⟨true, k⟩)]⟩
  | .some (x, p) => match leftM fs x y with
    | .none => ⟨r.ev ++ [.st], r.st ++ [(y, ⟨true, k⟩)]⟩
    | .some [] => ⟨r.ev ++ [.go p], r.st.dropLast⟩
    | .some (c :: _) => ⟨r.ev ++ [.tu p], r.st.dropLast ++ [(c, ⟨true, k⟩)]⟩
def webSt (w : List Nat) : List (Nat × Spot) := (List.range w.length).map fun i => (w.getD i 0, ⟨false, i⟩)
def runM (fs : List Fd) (w row : List Nat) : Nat → Run
  | 0 => ⟨[], webSt w⟩
  | i + 1 => stepM fs i (row.getD i 0) (runM fs w row i)
def zOk (gs : List Fd) : Prop := ∀ g ∈ gs, g.z.length ≤ 1
theorem leftz {gs : List Fd} (h : zOk gs) {x y : Nat} {z : List Nat} (e : leftM gs x y = .some z) : z.length ≤ 1 := by
  unfold leftM at e
  cases hf : gs.find? fun f => decide (f.x = x) && decide (f.y = y) with
  | none => rw [hf] at e; cases e
  | some f =>
    rw [hf] at e
    cases e
    exact h f (List.mem_of_find?_eq_some hf)
theorem FsOk.z {sg : List Nat} {fs : List Fd} (h : FsOk sg fs) : zOk fs := by
  intro g hg
  rcases (h.ok g hg).2.2 with e | ⟨c, _, e⟩
  · rw [e]
    exact Nat.zero_le _
  · rw [e]
    exact Nat.le_refl 1
theorem webSt_fst (w : List Nat) : (webSt w).map (·.1) = w := by
  unfold webSt
  rw [List.map_map]
  refine List.ext_getElem (by simp) fun i h1 h2 => ?_
  rw [List.getElem_map, List.getElem_range]
  show w.getD i 0 = _
  rw [List.getD_eq_getElem?_getD, List.getElem?_eq_getElem h2]
  rfl
theorem step_fst {fs : List Fd} (h : zOk fs) (k y : Nat) (r : Run) : (stepM fs k y r).st.map (·.1) = laidM fs (r.st.map (·.1)) y := by
  unfold stepM laidM
  rw [List.getLast?_map]
  cases r.st.getLast? with
  | none =>
    rw [List.map_append]
    rfl
  | some q =>
    obtain ⟨x, p⟩ := q
    show List.map _ (match leftM fs x y with | .none => _ | .some [] => _ | .some (c :: _) => _ : Run).st = match leftM fs x y with | .none => _ | .some z => _
    cases e : leftM fs x y with
    | none =>
      rw [List.map_append]
      rfl
    | some z =>
      have hz := leftz h e
      match z, hz with
      | [], _ =>
        show List.map _ r.st.dropLast = (List.map _ r.st).dropLast ++ []
        rw [List.append_nil, List.map_dropLast]
      | [c], _ =>
        show List.map _ (r.st.dropLast ++ [(c, _)]) = (List.map _ r.st).dropLast ++ [c]
        rw [List.map_append, List.map_dropLast]
        rfl
theorem led_snoc (fs : List Fd) (w row : List Nat) (y : Nat) : ledM fs w (row ++ [y]) = laidM fs (ledM fs w row) y := by
  unfold ledM
  rw [List.foldl_append]
  rfl
theorem take_snoc {row : List Nat} {i : Nat} (h : i < row.length) : row.take (i + 1) = row.take i ++ [row.getD i 0] := by
  rw [List.take_add_one, List.getD_eq_getElem?_getD, List.getElem?_eq_getElem h]
  rfl
theorem run_fst {fs : List Fd} (h : zOk fs) (w row : List Nat) : ∀ i, i ≤ row.length → (runM fs w row i).st.map (·.1) = ledM fs w (row.take i)
  | 0, _ => webSt_fst w
  | i + 1, hi => by
    show (stepM fs i (row.getD i 0) (runM fs w row i)).st.map (·.1) = _
    rw [step_fst h, run_fst h w row i (by omega), take_snoc (by omega), led_snoc]
theorem step_ev (fs : List Fd) (k y : Nat) (r : Run) : (stepM fs k y r).ev.length = r.ev.length + 1 := by
  unfold stepM
  split
  · exact List.length_append
  · split <;> exact List.length_append
theorem step_st (fs : List Fd) (k y : Nat) (r : Run) : (stepM fs k y r).st.length ≤ r.st.length + 1 := by
  unfold stepM
  split
  · exact Nat.le_of_eq List.length_append
  · split
    · exact Nat.le_of_eq List.length_append
    · show r.st.dropLast.length ≤ _
      rw [List.length_dropLast]
      omega
    · show (r.st.dropLast ++ [_]).length ≤ _
      rw [List.length_append, List.length_dropLast]
      show r.st.length - 1 + 1 ≤ _
      omega
theorem run_len (fs : List Fd) (w row : List Nat) : ∀ i, (runM fs w row i).ev.length = i ∧ (runM fs w row i).st.length ≤ w.length + i
  | 0 => ⟨rfl, by show (webSt w).length ≤ _; unfold webSt; rw [List.length_map, List.length_range]; exact Nat.le_refl _⟩
  | i + 1 => by
    obtain ⟨a, b⟩ := run_len fs w row i
    have h1 := step_ev fs i (row.getD i 0) (runM fs w row i)
    have h2 := step_st fs i (row.getD i 0) (runM fs w row i)
    exact ⟨by show (stepM _ _ _ _).ev.length = _; omega, by show (stepM _ _ _ _).st.length ≤ _; omega⟩
/-- numbers of spots stay small -/
def Low (n : Nat) (r : Run) : Prop := (∀ q ∈ r.st, q.2.no < n) ∧ ∀ e ∈ r.ev, match e with | .st => True | .go p => p.no < n | .tu p => p.no < n
theorem step_low {fs : List Fd} {n k y : Nat} {r : Run} (h : Low n r) (hk : k < n) : Low n (stepM fs k y r) := by
  obtain ⟨h1, h2⟩ := h
  have add : ∀ (l : List (Nat × Spot)) (c : Nat), (∀ q ∈ l, q.2.no < n) → ∀ q ∈ l ++ [(c, (⟨true, k⟩ : Spot))], q.2.no < n := by
    intro l c hl q hq
    rcases List.mem_append.mp hq with hq | hq
    · exact hl q hq
    · rw [List.mem_singleton.mp hq]
      exact hk
  have addE : ∀ (e : Ev), (match e with | .st => True | .go p => p.no < n | .tu p => p.no < n) → ∀ x ∈ r.ev ++ [e], match x with | .st => True | .go p => p.no < n | .tu p => p.no < n := by
    intro e he x hx
    rcases List.mem_append.mp hx with hx | hx
    · exact h2 x hx
    · rw [List.mem_singleton.mp hx]
      exact he
  have dr : ∀ q ∈ r.st.dropLast, q.2.no < n := fun q hq => h1 q ((List.dropLast_sublist _).subset hq)
  unfold stepM
  split
  · exact ⟨add _ _ h1, addE _ trivial⟩
  · rename_i x p e
    have hp : p.no < n := h1 _ (List.mem_of_getLast? e)
    split
    · exact ⟨add _ _ h1, addE _ trivial⟩
    · exact ⟨dr, addE (.go p) hp⟩
    · exact ⟨add _ _ dr, addE (.tu p) hp⟩
theorem run_low (fs : List Fd) (w row : List Nat) {n : Nat} (hw : w.length ≤ n) : ∀ i, i ≤ n → Low n (runM fs w row i)
  | 0, _ => ⟨fun q hq => by
      obtain ⟨i, hi, rfl⟩ := List.mem_map.mp hq
      have := List.mem_range.mp hi
      show i < n
      omega, fun e he => by cases he⟩
  | i + 1, hi => step_low (run_low fs w row hw i (by omega)) (by omega)
theorem gd_sp {n : Nat} {p : Spot} (h : p.no < n) (hn : n ≤ 1000) : Gd 50 1 (spD p) := by
  have h1 : Gd 20 0 (.str (kindS p.lay)) := by
    cases p.lay
    · exact ⟨by decide +kernel, rfl, Nat.le_refl 0, by decide +kernel, rfl⟩
    · exact ⟨by decide +kernel, rfl, Nat.le_refl 0, by decide +kernel, rfl⟩
  refine Gd.mono (gd_tup (w := 20) (n := 0) (m := 2) (fun d hd => ?_) (Nat.le_refl 2)) (by decide) (Nat.le_refl 1)
  simp only [List.mem_cons, List.not_mem_nil, or_false] at hd
  rcases hd with rfl | rfl
  · exact h1
  · exact gd_int (by omega)
theorem gd_ev {n : Nat} {e : Ev} (h : match e with | .st => True | .go p => p.no < n | .tu p => p.no < n) (hn : n ≤ 1000) : Gd 102 2 (evD e) := by
  cases e with
  | st => exact Gd.mono (gd_tup (w := 50) (n := 1) (m := 1) (fun d hd => by rw [List.mem_singleton.mp hd]; exact ⟨by decide +kernel, rfl, by decide, by decide +kernel, rfl⟩) (Nat.le_refl 1)) (by decide) (Nat.le_refl 2)
  | go p =>
    refine gd_tup (w := 50) (n := 1) (m := 2) (fun d hd => ?_) (Nat.le_refl 2)
    simp only [List.mem_cons, List.not_mem_nil, or_false] at hd
    rcases hd with rfl | rfl
    · exact ⟨by decide +kernel, rfl, by decide, by decide +kernel, rfl⟩
    · exact gd_sp h hn
  | tu p =>
    refine gd_tup (w := 50) (n := 1) (m := 2) (fun d hd => ?_) (Nat.le_refl 2)
    simp only [List.mem_cons, List.not_mem_nil, or_false] at hd
    rcases hd with rfl | rfl
    · exact ⟨by decide +kernel, rfl, by decide, by decide +kernel, rfl⟩
    · exact gd_sp h hn
/-- the three answers -/
def websM (fs : List Fd) (w row : List Nat) : List (List Nat) := (List.range (row.length + 1)).map fun i => ledM fs w (row.take i)
def ansM (fs : List Fd) (w row : List Nat) : Nat → PyData
  | 0 => .tuple ((websM fs w row).map fun l => .str (S l))
  | 1 => .tuple ((runM fs w row row.length).ev.map evD)
  | _ => .tuple ((runM fs w row row.length).st.map fun q => spD q.2)
end Lw

namespace Lw
open PySem PySem.Spec PyProof.Rows L2 Mq
open SX (S)
/-! ### rows are looked at; the webs along a row -/
/-- x(e, ..), x a def that is known by what it says of its arguments -/
theorem pe_callR {X : Cx} {CX : CXT} {k : Nat} {f : Addr} {sp : Sp} {E : XK} {x : Str} {e : Expr} {es : List Expr} {t : TA} {p pos : Pos} (F : FnR X.prog X.w X.K X.mg X.base CX k f sp) (hr : Room k X.A)
    (hg : Gl X x) (hm : X.mg x = some (.ref f)) (hk : PySem.W.keepIn X.K (.ref f) = true) (hx : Passes CX X E) (ha : PA X (e :: es) t) (hd : (x == ("__debug__" : Str)) = false := by decide)
    (he : starEach (e :: es) X.env = (false, eval e X.env) :: starEach es X.env := by rfl) (hpl : (backTo pos (starEach es X.env)).any (·.1) = false := by rfl) :
    PE X (.Call (.Name x p) (e :: es) [] pos) (fun σ H Q => t σ H fun vs H1 => sp vs H1 Q E) := by
  refine ⟨fun pins s σ H Q I h => ?_⟩
  refine wpAny_Call_Name_kw (ld_glob I hg hm ?_ hd)
  refine PySem.W.callWith_K (h₀ := X.base) I.ok.mod.kin hk (thn (ha.run pos pins s σ H _ I h) fun us s1 ⟨vs, H1, I1, r, q⟩ => ⟨I1.kIn, ?_⟩) he hpl
  exact wpAny_call (run_fnR F hr hx I1 r q)
def BadS (K : PySem.W.Frag) (H : Hp) (sg : List Nat) (v : V) : Prop := ∀ H', Same H H' → WebBad K H' sg v
theorem BadS.same {K : PySem.W.Frag} {H H' : Hp} {sg : List Nat} {v : V} (h : BadS K H sg v) (e : Same H H') : BadS K H' sg v := fun H2 s => h H2 (e.trans s)
theorem led_len {sg : List Nat} {fs : List Fd} (h : FsOk sg fs) : ∀ (row w : List Nat), (ledM fs w row).length ≤ w.length + row.length
  | [], w => Nat.le_refl _
  | y :: row, w => by
    have h1 := led_len h row (laidM fs w y)
    have h2 : (laidM fs w y).length ≤ w.length + 1 := by
      unfold laidM
      split
      · rw [List.length_append]
        exact Nat.le_refl _
      · split
        · rw [List.length_append]
          exact Nat.le_refl _
        · rename_i z e
          have := left_len h e
          rw [List.length_append, List.length_dropLast]
          omega
    show (ledM fs (laidM fs w y) row).length ≤ w.length + (row.length + 1)
    omega
def spRowsIn (K : PySem.W.Frag) (C CR : Addr) : Sp := fun vs H Q E => ∃ (r fa ta p : Addr) (sg : List Nat) (fs : List Fd) (u : V), vs = [.ref r, .ref p] ∧ SqT K H p [u] ∧ BkAt H C r sg fs fa ta ∧
  ((∃ l, WebGood sg u l ∧ ∀ H', Same H H' → Q .non H') ∨ (BadS K H sg u ∧ ∀ H' d, Same H H' → H' d = none → E (.ref CR) (some d) (upd H' d (.xd [("thing", u)]))))
def spRows (K : PySem.W.Frag) (C CR : Addr) : Sp := fun vs H Q E => ∃ (r fa ta : Addr) (sg : List Nat) (fs : List Fd) (u : V), vs = [.ref r, u] ∧ BkAt H C r sg fs fa ta ∧
  ((∃ l, WebGood sg u l ∧ ∀ H', Same H H' → Q .non H') ∨ (BadS K H sg u ∧ ∀ H' d, Same H H' → H' d = none → E (.ref CR) (some d) (upd H' d (.xd [("thing", u)]))))
/-- what a book, a web and a row are refused for, ahead of an answer -/
def Woven (K : PySem.W.Frag) (CW CR : Addr) (sg : List Nat) (v u : V) (H : Hp) (E : XK) (good : List Nat → List Nat → Prop) : Prop :=
  (∃ l row, WebGood sg v l ∧ WebGood sg u row ∧ good l row) ∨
  (BadS K H sg v ∧ ∀ H' d, Same H H' → H' d = none → E (.ref CW) (some d) (upd H' d (.xd [("thing", v)]))) ∨
  ((∃ l, WebGood sg v l) ∧ BadS K H sg u ∧ ∀ H' d, Same H H' → H' d = none → E (.ref CR) (some d) (upd H' d (.xd [("thing", u)])))
def spWoven (K : PySem.W.Frag) (C CW CR : Addr) : Sp := fun vs H Q E => ∃ (r fa ta : Addr) (sg : List Nat) (fs : List Fd) (v u : V), vs = [.ref r, v, u] ∧ BkAt H C r sg fs fa ta ∧
  Woven K CW CR sg v u H E fun _ _ => ∀ H', Same H H' → Q .non H'
def spWebs (C : Addr) : Sp := fun vs H Q _ => ∃ (r fa ta : Addr) (sg w row : List Nat) (fs : List Fd), vs = [.ref r, .str (S w), .str (S row)] ∧ BkAt H C r sg fs fa ta ∧ FsOk sg fs ∧ w.length ≤ 1000 ∧ row.length ≤ 1000 ∧
  ∀ H' L, Same H H' → H' L = some (.lst ((websM fs w row).map fun l => .str (S l))) → Q (.ref L) H'
/-- an answer: 0 webs_along, 1 events, 2 sources -/
def spAns (K : PySem.W.Frag) (C CW CR : Addr) (way : Nat) : Sp := fun vs H Q E => ∃ (r fa ta : Addr) (sg : List Nat) (fs : List Fd) (v u : V), vs = [.ref r, v, u] ∧ BkAt H C r sg fs fa ta ∧ FsOk sg fs ∧
  Woven K CW CR sg v u H E fun l row => ∀ H' x, Same H H' → Td K H' x (ansM fs l row way) → Q x H'
section
variable {P : Program} {w : World} {K : PySem.W.Frag} {mg : Str → Option Value} {base : Heap} {C CW CR : Addr}
theorem ok_check_rows {f fW fB : Addr} {fd fdW : FuncData} (F : Fun K "check_rows" "check_rows" s_check_rows f fd) (B : Blt mg) (R : BkC K C)
    (FW : Fun K "is_word" "is_word" s_is_word fW fdW) (gW : mg "is_word" = some (.ref fW)) (bW : Binds K fdW ["letters", "thing"] [])
    (GW : FnOk P w K mg base CX0 1 fW fdW ["letters", "thing"] (spWord K)) (T : MqE_thing.Txt K mg "BadRow" "BadRow.__init__" CR fB) :
    FnR P w K mg base (L2.CX P w) 3 f (spRows K C CR) := by
  obtain ⟨oc, od, kV, doc, pm, an, cdv, ct, osl, rfl, lk, hcd⟩ := F.ex
  have G := StX.fn_star (P := P) (w := w) (mg := mg) (base := base) (k := 2) (sp := spRowsIn K C CR) (ps := ["book"]) (pv := "rows") (CX := L2.CX P w) lk hcd sc_check_rows StX.cxUp
    (StX.bind_star1 (B := fun us => bindArgs (PySem.W.fnOf "check_rows" "check_rows" (defArgs s_check_rows) (defBody s_check_rows) (defScope s_check_rows) .none kV doc pm an cdv ct) ⟨us, []⟩) (p1 := "book") (pv := "rows") (fun a => by rfl) (fun a r rs => by rfl)) (fun A outer s H vs Q E hr h => ?_)
  · intro A outer s H us vs Q E hr e0 rv h
    obtain ⟨r, fa, ta, sg, fs, u, rfl, hb, h⟩ := h
    refine G A outer s H us _ Q E hr e0 rv ⟨[.ref r], [u], rfl, rfl, sz_le (n := 1) (by decide), fun p hp => ?_⟩
    have s1 := same_new (o := HO.tup [u]) hp
    refine ⟨r, fa, ta, p, sg, fs, u, rfl, Or.inl (Or.inl upd_same), hb.same s1, ?_⟩
    rcases h with ⟨l, hg, q⟩ | ⟨hbad, q⟩
    · exact Or.inl ⟨l, hg, fun H' s' => q H' (s1.trans s')⟩
    · exact Or.inr ⟨hbad.same s1, fun H' d s' hd => q H' d (s1.trans s') hd⟩
  · obtain ⟨r, fa, ta, p, sg, fs, u, rfl, hp, hb, h⟩ := h
    refine ⟨_, (pss_one (ps_for (passes_of rfl) rfl (pi_tup (pv 1)) (pg_name (i := 2) sc_check_rows.nd rfl (Or.inl rfl))
      (pss_one (ps_if (pt_not (pt_val (pe_call GW (hr.mono (by decide)) (by rfl) gW FW.kp bW .nil pass0 (pa_cons (pe_fld (pv 0) rfl) (pa_cons (pv 2) pa_nil))))) (pss_one (MqE_thing.ps_raise rfl T hr (takes_of rfl rfl rfl rfl) (pa_cons (pv 2) pa_nil))) pss_nil)))), ?_⟩
    obtain ⟨⟨dx, h1⟩, h2⟩ := hb
    refine ⟨_, rfl, p, rfl, ⟨_, hp⟩, ?_⟩
    refine for_tup (xs := [u]) (fun i σ H' => Same H H' ∧ (∃ o, σ = [some (.ref r), some (.ref p), o]) ∧ (i = 0 ∨ ∃ l, WebGood sg u l ∧ ∀ H', Same H H' → Q .non H')) ⟨Same.refl H, ⟨_, rfl⟩, Or.inl rfl⟩ (fun i σ H' _ q => Same.tup q.1 hp) ?_ ?_
    · rintro i x σ H2 hx ⟨s2, ⟨o, rfl⟩, _⟩
      obtain rfl : u = x := by
        match i, hx with
        | 0, hx => exact Option.some.inj hx
      refine ⟨_, rfl, r, C, dx, _, _, rfl, s2 _ _ h1, R.cls, R.nL, rfl, _, rfl, sg, u, rfl, ?_⟩
      rcases h with ⟨l, hg, q⟩ | ⟨hbad, q⟩
      · refine Or.inl ⟨l, hg.1, by have := hg.2.2; omega, fun H3 s3 => ⟨_, rfl, ?_⟩⟩
        rw [allB_of hg.2.1]
        exact ifF rfl ⟨s2.trans s3, ⟨_, rfl⟩, Or.inr ⟨l, hg, q⟩⟩
      · have raise : ∀ H3, Same H2 H3 → (∃ v', [u] = [v'] ∧ ∀ d, H3 d = none → E (.ref CR) (some d) (upd H3 d (.xd [("thing", v')]))) := fun H3 s3 => ⟨u, rfl, fun d hd => q H3 d (s2.trans s3) hd⟩
        rcases hbad H2 s2 with ⟨l, hv, hl, ha⟩ | hn
        · refine Or.inl ⟨l, hv, by omega, fun H3 s3 => ⟨_, rfl, ?_⟩⟩
          rw [ha]
          exact ifT rfl ⟨_, rfl, raise H3 s3⟩
        · exact Or.inr ⟨hn, fun H3 s3 => ⟨_, rfl, ifT rfl ⟨_, rfl, raise H3 s3⟩⟩⟩
    · rintro σ H2 ⟨s2, _, z | ⟨l, hg, q⟩⟩
      · cases z
      · exact q H2 s2
theorem ok_check_woven {f fK fR : Addr} {fd fdK fdR : FuncData} (F : Fun K "check_woven" "check_woven" s_check_woven f fd) (R : BkC K C)
    (FK : Fun K "check_web" "check_web" s_check_web fK fdK) (gK : mg "check_web" = some (.ref fK)) (bK : Binds K fdK ["letters", "thing"] []) (GK : FnOk P w K mg base (L2.CX P w) 3 fK fdK ["letters", "thing"] (spCheck K CW))
    (FR : Fun K "check_rows" "check_rows" s_check_rows fR fdR) (gR : mg "check_rows" = some (.ref fR)) (GR : FnR P w K mg base (L2.CX P w) 3 fR (spRows K C CR)) :
    FnOk P w K mg base (L2.CX P w) 4 f fd ["book", "web", "row"] (spWoven K C CW CR) := by
  refine F.okX sc_check_woven (fun vs H Q E h => ?_) (fun cdv A outer s H vs Q E hr h => ?_)
  · obtain ⟨_, _, _, _, _, _, _, rfl, _⟩ := h
    rfl
  · obtain ⟨r, fa, ta, sg, fs, v, u, rfl, hb, h⟩ := h
    refine ⟨_, (pss_cons (ps_expr (pe_call GK (hr.mono (by decide)) (by rfl) gK FK.kp bK .nil (passes_call (takes_of rfl rfl rfl rfl) (fun _ _ _ _ z => z)) (pa_cons (pe_fld (pv 0) rfl) (pa_cons (pv 1) pa_nil))))
      (pss_one (ps_expr (pe_callR GR (hr.mono (by decide)) (by rfl) gR FR.kp (passes_call (takes_of rfl rfl rfl rfl) (fun _ _ _ _ z => z)) (pa_cons (pv 0) (pa_cons (pv 2) pa_nil)))))), ?_⟩
    obtain ⟨dx, h1⟩ := hb.1
    refine ⟨_, rfl, r, C, dx, _, _, rfl, h1, R.cls, R.nL, rfl, _, rfl, sg, v, rfl, ?_⟩
    rcases h with ⟨l, row, hg, hgr, q⟩ | ⟨hbad, q⟩ | ⟨⟨l, hg⟩, hbad, q⟩
    · refine Or.inl ⟨l, hg, fun H1 s1 => ?_⟩
      exact ⟨_, rfl, _, rfl, r, fa, ta, sg, fs, u, rfl, hb.same s1, Or.inl ⟨row, hgr, fun H2 s2 => q H2 (s1.trans s2)⟩⟩
    · exact Or.inr ⟨hbad H (Same.refl H), q⟩
    · refine Or.inl ⟨l, hg, fun H1 s1 => ?_⟩
      exact ⟨_, rfl, _, rfl, r, fa, ta, sg, fs, u, rfl, hb.same s1, Or.inr ⟨hbad.same s1, fun H2 d s2 hd => q H2 d (s1.trans s2) hd⟩⟩
theorem webs_snoc (fs : List Fd) (w row : List Nat) (i : Nat) : ((List.range (i + 1)).map fun k => V.str (S (ledM fs w (row.take k)))) = ((List.range i).map fun k => V.str (S (ledM fs w (row.take k)))) ++ [V.str (S (ledM fs w (row.take i)))] := by
  rw [List.range_succ, List.map_append]
  rfl
theorem ok_webs_behind {f fB : Addr} {fd fdB : FuncData} (F : Fun K "webs_behind" "webs_behind" s_webs_behind f fd)
    (FB : Fun K "laid_behind" "laid_behind" s_laid_behind fB fdB) (gB : mg "laid_behind" = some (.ref fB)) (bB : Binds K fdB ["book", "web", "letter"] []) (GB : FnOk P w K mg base CX0 2 fB fdB ["book", "web", "letter"] (spBehind C)) :
    FnOk P w K mg base CX0 3 f fd ["book", "web", "row"] (spWebs C) := by
  refine F.ok sc_webs_behind (fun vs H Q E h => ?_) (fun cdv A outer s H vs Q E hr h => ?_)
  · obtain ⟨_, _, _, _, _, _, _, rfl, _⟩ := h
    rfl
  · obtain ⟨r, fa, ta, sg, l, row, fs, rfl, hb, hfs, hl, hrl, q⟩ := h
    refine ⟨_, (pss_cons (ps_set (i := 3) sc_webs_behind.nd rfl (Or.inl rfl) (Mq.pe_ls (pa_cons (pv 1) pa_nil)))
      (pss_cons (ps_for PassesOwn.never rfl (pi_str (pv 2)) (pg_name (i := 4) sc_webs_behind.nd rfl (Or.inl rfl))
        (pss_one (ps_expr (pe_bm PySem.F.plainAttrs_list PySem.F.slot_list_append PySem.F.type_list_append mt_append (pv 3) (pa_cons (pe_call GB (hr.mono (by decide)) (by rfl) gB FB.kp bB .nil pass0 (pa_cons (pv 0) (pa_cons (pe_ix ix_list (pv 3) (pe_un un_neg pe_int) (fun _ _ => rfl)) (pa_cons (pv 4) pa_nil)))) pa_nil)))))
      (pss_one (ps_ret (pv 3))))), ?_⟩
    refine ⟨_, rfl, sz_le (n := 1) (by decide), fun L hL _ => ?_⟩
    have s1 := same_new (o := HO.lst [V.str (S l)]) hL
    have hL1 : upd H L (.lst [V.str (S l)]) L = some (.lst ((List.range (0 + 1)).map fun k => V.str (S (ledM fs l (row.take k))))) := upd_same
    generalize upd H L (.lst [V.str (S l)]) = H1 at s1 hL1 ⊢
    refine ⟨_, rfl, S row, rfl, ?_⟩
    refine for_it (walk_S row) (fun i σ H' => Same H H' ∧ H' L = some (.lst ((List.range (i + 1)).map fun k => V.str (S (ledM fs l (row.take k))))) ∧ ∃ o, σ = [some (.ref r), some (.str (S l)), some (.str (S row)), some (.ref L), o]) ⟨s1, hL1, _, rfl⟩ (fun _ _ _ _ _ => trivial) ?_ ?_
    · rintro i x σ H2 H2' hi ⟨s2, hL2, o, rfl⟩ ⟨rfl, rfl⟩
      have hlen := led_len hfs (row.take i) l
      rw [List.length_take] at hlen
      rw [webs_snoc] at hL2
      refine ⟨_, rfl, Or.inl ⟨rfl, _, SqL.of hL2⟩, _, rfl, _, rfl, _, rfl, L, _, -1, _, rfl, rfl, SqL.of hL2, atI_last _ _, _, rfl, r, fa, ta, sg, ledM fs l (row.take i), fs, row.getD i 0, rfl, hb.same s2, hfs, by omega, fun H4 s4 => ?_⟩
      have hL4 := s4 _ _ hL2
      refine ⟨L, _, _, rfl, rfl, hL4, sz_lt (by rw [List.length_append, List.length_map, List.length_range]; show i + 1 ≤ _; omega), ?_, ?_, _, rfl⟩
      · intro b o e
        rw [upd_ne (ne_of_none e hL)]
        exact s4 b o (s2 b o e)
      · rw [upd_same, webs_snoc fs l row (i + 1), webs_snoc fs l row i, take_snoc hi, led_snoc]
    · rintro σ H2 ⟨s2, hL2, o, rfl⟩
      refine ⟨_, rfl, q H2 L s2 ?_⟩
      rw [hL2]
      unfold websM
      rw [List.map_map]
      rfl
theorem ok_webs_along {f fV fB : Addr} {fd fdV fdB : FuncData} (F : Fun K "webs_along" "webs_along" s_webs_along f fd) (B : Blt mg)
    (FV : Fun K "check_woven" "check_woven" s_check_woven fV fdV) (gV : mg "check_woven" = some (.ref fV)) (bV : Binds K fdV ["book", "web", "row"] []) (GV : FnOk P w K mg base (L2.CX P w) 4 fV fdV ["book", "web", "row"] (spWoven K C CW CR))
    (FB : Fun K "webs_behind" "webs_behind" s_webs_behind fB fdB) (gB : mg "webs_behind" = some (.ref fB)) (bB : Binds K fdB ["book", "web", "row"] []) (GB : FnOk P w K mg base CX0 3 fB fdB ["book", "web", "row"] (spWebs C)) :
    FnOk P w K mg base (L2.CX P w) 5 f fd ["book", "web", "row"] (spAns K C CW CR 0) := by
  refine F.okX sc_webs_along (fun vs H Q E h => ?_) (fun cdv A outer s H vs Q E hr h => ?_)
  · obtain ⟨_, _, _, _, _, _, _, rfl, _⟩ := h
    rfl
  · obtain ⟨r, fa, ta, sg, fs, v, u, rfl, hb, hfs, h⟩ := h
    refine ⟨_, (pss_cons (ps_expr (pe_call GV (hr.mono (by decide)) (by rfl) gV FV.kp bV .nil (passes_call (takes_of rfl rfl rfl rfl) (fun _ _ _ _ z => z)) (pa_cons (pv 0) (pa_cons (pv 1) (pa_cons (pv 2) pa_nil)))))
      (pss_one (ps_ret (pe_callTy call_tuple_of (by rfl) B.tuple (by decide +kernel) (pa_cons (pe_call GB (hr.mono (by decide)) (by rfl) gB FB.kp bB .nil pass0 (pa_cons (pv 0) (pa_cons (pv 1) (pa_cons (pv 2) pa_nil)))) pa_nil))))), ?_⟩
    refine ⟨_, rfl, _, rfl, _, rfl, r, fa, ta, sg, fs, v, u, rfl, hb, ?_⟩
    rcases h with ⟨l, row, hg, hgr, q⟩ | h | h
    · refine Or.inl ⟨l, row, hg, hgr, fun H1 s1 => ?_⟩
      have e1 := hg.1
      have e2 := hgr.1
      subst e1 e2
      refine ⟨_, rfl, _, rfl, _, rfl, r, fa, ta, sg, l, row, fs, rfl, hb.same s1, hfs, hg.2.2, hgr.2.2, fun H2 L s2 hL => ?_⟩
      refine ⟨L, _, rfl, Or.inl ⟨SqL.of hL, fun t ht => ?_⟩⟩
      have s3 := same_new (o := HO.tup ((websM fs l row).map fun l => V.str (S l))) ht
      refine q _ _ ((s1.trans s2).trans s3) ?_
      have z : SqT K (upd H2 t (.tup ((websM fs l row).map fun l => V.str (S l)))) t ((websM fs l row).map fun l => V.str (S l)) := Or.inl (Or.inl upd_same)
      refine .tup z ?_
      have := TdAll.of_strs (K := K) (H := upd H2 t (.tup ((websM fs l row).map fun l => V.str (S l)))) (xs := (websM fs l row).map S)
      rw [List.map_map, List.map_map] at this
      exact this
    · exact Or.inr (Or.inl h)
    · exact Or.inr (Or.inr h)
end
end Lw

namespace Mq
open PySem PySem.Spec PyProof.Rows L2
/-! ### enumerate(v), v a text -/
def Ies (x : Str) : It :=
  ⟨fun i _ => i < x.cps.size, fun i H v H' => ∃ T c, v = .ref T ∧ H T = none ∧ x.cps[i]? = some c ∧ H' = upd H T (.tup [.int (i : Nat), .str ⟨#[c]⟩]), fun i _ => x.cps.size ≤ i⟩
theorem draws_of {prog : Program} {w : World} {A : Around} (hh : A.handled = none) (it : Addr) (x : Str) (t : Tok) {ty : String} (hty : ty = "str_ascii_iterator" ∨ ty = "str_iterator") :
    Draws prog w A it [it] x.cps.size (fun i v => ∃ c u, x.cps[i]? = some c ∧ v = .str ⟨#[c]⟩ u) (fun i h => h.IsStrIter it ty x t i) := by
  rcases hty with e | e
  · rw [e]
    exact Draws.strAscii hh it x t
  · rw [e]
    exact Draws.strWide hh it x t
theorem turn_enumS {P : Program} {w : World} {K : PySem.W.Frag} {elts : List Expr} {kk : Nat} {tpos : Pos} (x : Str) (t : Tok) (e it : Addr) {ty : String} (hty : ty = "str_ascii_iterator" ∨ ty = "str_iterator") :
    Turn P w K (.Tuple elts kk tpos) (Ies x) [e, it] e (fun i h => (∃ old, IsEnum h e it ((i : Nat) : Int) old) ∧ h.IsStrIter it ty x t i ∧ e ≠ it) where
  mem := by simp
  obj := fun i h st b hb => by
    obtain ⟨⟨old, he⟩, ⟨o, ho, hc, hd⟩, _⟩ := st
    have e' : b = e ∨ b = it := by simpa using hb
    rcases e' with z | z
    · rw [z]
      exact ⟨_, he, fun v q => nomatch q⟩
    · rw [z]
      exact ⟨o, ho, fun v q => by rw [hd] at q; cases q⟩
  keep := fun i h h' st k => let ⟨⟨old, he⟩, ⟨o, ho, r⟩, hne⟩ := st; ⟨⟨old, k e (by simp) _ he⟩, ⟨o, k it (by simp) o ho, r⟩, hne⟩
  item := by
    intro X hP hw hK hc i pins s σ H E I hf st hg
    subst hP hw hK
    obtain ⟨⟨old, he⟩, hit, hne⟩ := st
    have hel : e < s.heap.objs.size := Heap.lt_size he
    have hil : it < s.heap.objs.size := by
      obtain ⟨_, q, _⟩ := hit
      exact Heap.lt_size q
    refine wpAny_pyNext_enum_itemD (n := x.cps.size) (draws_of (show X.A.in1.handled = none from I.ok.hd hc) it x t hty) he hit hg hne (by simpa using hne) fun x' h' tk hP' ho hst' hT hsz hk => ?_
    obtain ⟨c, u, hcx, rfl⟩ := hP'
    refine ⟨_, rfl, wpAny_letOwnedTupleGo_enum (s := { s with heap := h', toks := tk + 1 }) ho fun h'' he' sb => ?_⟩
    have hT2 : h''.get? s.heap.objs.size = some { cls := .type "tuple", data := .seq #[.int i tk, .str ⟨#[c]⟩ u] } := (sb.2 _ (Nat.ne_of_gt hel)).trans hT
    have new : ObjOk X.prog X.w (upd H s.heap.objs.size (.tup [.int (i : Nat), .str ⟨#[c]⟩])) h'' s.heap.objs.size (.tup [.int (i : Nat), .str ⟨#[c]⟩]) :=
      ⟨by show 2 ≤ sizeLine; decide, [.int i tk, .str ⟨#[c]⟩ u], .cons ⟨_, rfl⟩ (.cons ⟨_, rfl⟩ .nil), ⟨_, hT2, rfl, _, rfl⟩⟩
    have I1 : Inv X pins σ (upd H s.heap.objs.size (.tup [.int (i : Nat), .str ⟨#[c]⟩])) { s with heap := h'', toks := tk + 1 } :=
      I.turnedNew (ch := [e, it]) (fun b ob hb q => (sb.2 b (fun z => hb (by simp [z]))).trans (hk b ob (fun z => hb (by simp [z])) (fun z => hb (by simp [z])) q)) hf (Nat.le_refl _) new
    refine ⟨.ref s.heap.objs.size, _, I1, rfl, ⟨_, c, rfl, I.hok.fresh (Nat.le_refl _), hcx, rfl⟩, ⟨⟨.str ⟨#[c]⟩ u, ?_⟩, ?_, hne⟩, fun b hb => ?_⟩
    · have e1 : ((i + 1 : Nat) : Int) = (i : Int) + 1 := by omega
      rw [e1]
      exact he'
    · obtain ⟨o, ho2, r⟩ := hst'
      exact ⟨o, (sb.2 it (Ne.symm hne)).trans ho2, r⟩
    · have hb' : b < s.heap.objs.size := by
        have e' : b = e ∨ b = it := by simpa using hb
        rcases e' with z | z
        · rw [z]; exact hel
        · rw [z]; exact hil
      rw [upd_ne (Nat.ne_of_lt hb')]
      exact (hf b hb).1
  done := by
    intro X hP hw hK hc i pins s σ H E I hf st hg
    subst hP hw hK
    obtain ⟨⟨old, he⟩, hit, hne⟩ := st
    obtain ⟨f0, f1, f2, f3, f4, f5⟩ := hf it (by simp)
    have hp : X.A.in1.handled = none := I.ok.hd hc
    have hx : x.cps[i]? = none := Array.getElem?_eq_none hg
    have D : Draws X.prog X.w X.A.in1 it [it] i (fun _ _ => False) (fun j h => j = i ∧ h.IsStrIter it ty x t i) :=
      { live := fun _ _ st => let ⟨o, ho, _⟩ := st.2; ⟨o, ho⟩
        frame := fun _ _ _ st hk => ⟨st.1, let ⟨o, ho, r⟩ := st.2; ⟨o, hk it (by simp) o ho, r⟩⟩
        item := fun j s Q E hi st hQ => absurd hi (by rw [st.1]; exact Nat.lt_irrefl i)
        done := fun s Q E st hE => by
          obtain ⟨_, st⟩ := st
          rcases hty with z | z
          · rw [z] at st
            exact wpAny_nextOf_ascii_end hp st hx hE
          · rw [z] at st
            exact wpAny_nextOf_wide_end hp st hx hE }
    exact wpAny_pyNext_enum_endD D he ⟨rfl, hit⟩ fun h' eb => ⟨rfl, I.turned (t' := s.toks) (fun b o hb q => eb b o hb q) f0 f1 f3 f4 f5⟩
  self := fun A i s Q E st h => let ⟨⟨_, he⟩, _⟩ := st; wpAny_pyIter_enum he h
def iEnumS (ta : TA) : TI := fun σ H R => ta σ H fun vs H1 => ∃ x, vs = [.str x] ∧ R (Ies x) H1
theorem pi_enumS {X : Cx} {e : Expr} {ta : TA} {p pos tpos : Pos} {elts : List Expr} {kk : Nat} (hg : Gl X "enumerate") (hm : X.mg "enumerate" = none) (ha : PA X [e] ta) (hs : starEach [e] X.env = [(false, eval e X.env)] := by rfl) :
    PI X (.Tuple elts kk tpos) (.Call (.Name "enumerate" p) [e] [] pos) (iEnumS ta) := by
  refine ⟨fun pins s σ H R I h => ?_⟩
  refine Call_ (ld_blt I hg hm boot_enumerate (PyProof.Rows.callWith_type1 (thn (ha.run pos pins s σ H _ I h) fun us s1 ⟨vs, H1, I1, r1, q1⟩ => ?_) hs rfl))
  obtain ⟨x, ex, q⟩ := q1
  subst ex
  cases r1 with
  | cons r rr =>
    cases rr
    obtain ⟨t, rfl⟩ := r
    refine call_enumerate_str fun h' he hit hsz hk => wpAny_pyIter_enum he ?_
    have I2 : Inv X pins σ H1 { s1 with heap := h' } := I1.kept (t' := s1.toks) hk
    have hty : strIterType x = "str_ascii_iterator" ∨ strIterType x = "str_iterator" := by
      unfold strIterType
      by_cases c : x.cps.all (· < 128) = true
      · exact Or.inl (if_pos c)
      · exact Or.inr (if_neg c)
    refine ⟨s1.heap.objs.size + 1, [s1.heap.objs.size + 1, s1.heap.objs.size], _, _, H1, rfl, I2, turn_enumS x t (s1.heap.objs.size + 1) s1.heap.objs.size hty, ⟨⟨.none, he⟩, hit, Nat.succ_ne_self _⟩, fun b hb => ?_, q⟩
    have e' : b = s1.heap.objs.size + 1 ∨ b = s1.heap.objs.size := by simpa using hb
    have hle : s1.heap.objs.size ≤ b := by
      rcases e' with z | z
      · rw [z]; exact Nat.le_add_right _ _
      · rw [z]; exact Nat.le_refl _
    exact I1.fpOk hle (I1.hok.fresh hle)
theorem walk_enumS (x : Str) : Walk (Ies x) x.cps.size (fun _ => True) (YPair (fun i => some (.int (i : Nat))) (fun i => x.cps[i]?.map fun c => .str ⟨#[c]⟩)) := by
  refine ⟨fun i _ hi _ => hi, fun _ _ => Nat.le_refl _, fun i H v H' _ _ y => ?_⟩
  obtain ⟨T, c, h1, h2, h3, h4⟩ := y
  exact ⟨T, .int (i : Nat), .str ⟨#[c]⟩, h1, h2, h4, rfl, by show Option.map _ x.cps[i]? = _; rw [h3]; rfl⟩
end Mq

namespace Lw
open PySem PySem.Spec PyProof.Rows L2 Mq
open SX (S)
/-! ### what is told along a row -/
theorem walk_en (l : List Nat) : Walk (Ies (S l)) l.length (fun _ => True) (fun i H v H' => ∃ T, v = .ref T ∧ H T = none ∧ H' = upd H T (.tup [.int (i : Nat), .str (S [l.getD i 0])])) := by
  refine (walk_enumS (S l)).mono (fun _ h => h) (fun i H x H' hi _ y => ?_)
  obtain ⟨T, a, b, h1, h2, h3, h4, h5⟩ := y
  have ha : V.int (i : Nat) = a := Option.some.inj h4
  have hc : (S l).cps[i]? = some (l.getD i 0) := by
    show l.toArray[i]? = _
    rw [List.getElem?_toArray, List.getD_eq_getElem?_getD, List.getElem?_eq_getElem hi]
    rfl
  have hb : V.str (S [l.getD i 0]) = b := by
    have h6 : Option.map (fun c => V.str ⟨#[c]⟩) (S l).cps[i]? = some b := h5
    rw [hc] at h6
    exact Option.some.inj h6
  subst ha hb
  exact ⟨T, h1, h2, h3⟩
theorem push_same {H H2 : Hp} {L : Addr} {o : HO} (hL : H L = none) (s : Same H H2) : Same H (upd H2 L o) := fun b u e => (upd_ne (ne_of_none e hL)).trans (s b u e)
section
variable {fs : List Fd} {k y x c : Nat} {p : Spot} {r : Run} {st : List (Nat × Spot)}
theorem step_nil (h : r.st = []) : stepM fs k y r = ⟨r.ev ++ [.st], r.st ++ [(y, ⟨true, k⟩)]⟩ := by
  unfold stepM
  rw [h]
  rfl
theorem step_no (h : r.st = st ++ [(x, p)]) (e : leftM fs x y = .none) : stepM fs k y r = ⟨r.ev ++ [.st], r.st ++ [(y, ⟨true, k⟩)]⟩ := by
  unfold stepM
  rw [h, List.getLast?_concat]
  show (match leftM fs x y with | .none => _ | .some [] => _ | .some (c :: _) => _ : Run) = _
  rw [e]
theorem step_go (h : r.st = st ++ [(x, p)]) (e : leftM fs x y = .some []) : stepM fs k y r = ⟨r.ev ++ [.go p], st⟩ := by
  unfold stepM
  rw [h, List.getLast?_concat, List.dropLast_concat]
  show (match leftM fs x y with | .none => _ | .some [] => _ | .some (c :: _) => _ : Run) = _
  rw [e]
theorem step_tu (h : r.st = st ++ [(x, p)]) (e : leftM fs x y = .some [c]) : stepM fs k y r = ⟨r.ev ++ [.tu p], st ++ [(c, ⟨true, k⟩)]⟩ := by
  unfold stepM
  rw [h, List.getLast?_concat, List.dropLast_concat]
  show (match leftM fs x y with | .none => _ | .some [] => _ | .some (c :: _) => _ : Run) = _
  rw [e]
end
theorem webSt_snoc (l : List Nat) (i : Nat) : ((List.range (i + 1)).map fun k => itD (l.getD k 0, ⟨false, k⟩)) = ((List.range i).map fun k => itD (l.getD k 0, ⟨false, k⟩)) ++ [itD (l.getD i 0, ⟨false, i⟩)] := by
  rw [List.range_succ, List.map_append]
  rfl
theorem webSt_it (l : List Nat) : (webSt l).map itD = (List.range l.length).map fun k => itD (l.getD k 0, ⟨false, k⟩) := by
  unfold webSt
  rw [List.map_map]
  rfl
/-- a letter with its spot, laid -/
theorem td_it {K : PySem.W.Frag} {H : Hp} {p q : Addr} {c n : Nat} {b : Bool} (h1 : SqT K H p [.str (S [c]), .ref q]) (h2 : SqT K H q [.str (kindS b), .int (n : Nat)]) : Td K H (.ref p) (itD (c, ⟨b, n⟩)) :=
  Td.two' h1 (.str _) (Td.two' h2 (.str _) (.int _))
/-- what is told of the letters and of what became of them, as two lists -/
def spTold (K : PySem.W.Frag) (C : Addr) : Sp := fun vs H Q _ => ∃ (r fa ta : Addr) (sg w row : List Nat) (fs : List Fd), vs = [.ref r, .str (S w), .str (S row)] ∧ BkAt H C r sg fs fa ta ∧ FsOk sg fs ∧ w.length ≤ 1000 ∧ row.length ≤ 1000 ∧
  ∀ H' T L1 L2 xs ys, Same H H' → SqT K H' T [.ref L1, .ref L2] → H' L1 = some (.lst xs) → TdAll K H' xs ((runM fs w row row.length).ev.map evD) → H' L2 = some (.lst ys) → TdAll K H' ys ((runM fs w row row.length).st.map fun q => spD q.2) → Q (.ref T) H'
section
variable {P : Program} {w : World} {K : PySem.W.Frag} {mg : Str → Option Value} {base : Heap} {C : Addr}
theorem ok_told {f fL : Addr} {fd fdL : FuncData} (F : Fun K "told_along" "told_along" s_told_along f fd) (B : Blt mg) (R : BkC K C)
    (FL : Fun K "left_of" "Book.left_of" s_Book_left_of fL fdL) (mL : Meth K C "left_of" fL) (bL : Binds K fdL ["self", "last", "laid"] []) :
    FnOk P w K mg base CX0 2 f fd ["book", "web", "row"] (spTold K C) := by
  have GL : FnOk P w K mg base CX0 1 fL fdL ["self", "last", "laid"] (spLeft C) := ok_left FL R
  refine F.ok sc_told_along (fun vs H Q E h => ?_) (fun cdv A outer s H vs Q E hr h => ?_)
  · obtain ⟨_, _, _, _, _, _, _, rfl, _⟩ := h
    rfl
  · obtain ⟨r, fa, ta, sg, l, row, fs, rfl, hb, hfs, hl, hrl, q⟩ := h
    have hr1 : Room 1 (A.deeper (envOfC "told_along" (defScope s_told_along) s.heap.objs.size f cdv)) := hr
    refine ⟨_, (pss_cons (ps_set (i := 3) sc_told_along.nd rfl (Or.inl rfl) (Mq.pe_ls pa_nil))
      (pss_cons (ps_setLc (i := 5) (own := [("at", 4), ("letter", 10)]) (g := gTup K 2 (gCons (gName 4) (gCons (gName 10) gNil))) (tt := tYes) rfl sc_told_along.nd rfl rfl (sw_true rfl rfl rfl (by decide +kernel)) (pi_enumS (by rfl) B.enumerate (pa_cons (pv 1) pa_nil)) (blkOk_by (own := [("at", 4), ("letter", 10)]) (N := ["book", "web", "row", "found", "at", "standing", "laid", "left", "_", "source", "letter"]) (sc := defScope s_told_along) (by decide +kernel)) (fun _ _ _ _ _ => pg_tup rfl (pgs_cons (pg_name (i := 4) sc_told_along.nd rfl (Or.inl rfl)) (pgs_cons (pg_name (i := 10) sc_told_along.nd rfl (Or.inl rfl)) pgs_nil))) (fun _ _ _ _ _ => pts_nil) (fun _ _ _ _ _ => (pe_tup (pa_cons (pv 10) (pa_cons (pe_tup (pa_cons pe_str (pa_cons (pv 4) pa_nil))) pa_nil)))))
      (pss_cons (ps_for PassesOwn.never rfl (pi_enumS (by rfl) B.enumerate (pa_cons (pv 2) pa_nil)) (pg_tup rfl (pgs_cons (pg_name (i := 4) sc_told_along.nd rfl (Or.inl rfl)) (pgs_cons (pg_name (i := 6) sc_told_along.nd rfl (Or.inl rfl)) pgs_nil)))
        (pss_cons (ps_set (i := 7) sc_told_along.nd rfl (Or.inl rfl) (pe_ifExp (pt_truth (pv 5) (by intro _; rfl)) (pe_methT (E := fun _ _ _ _ => False) (pv 0) R.cls mL GL hr1 bL (fun _ => cx0_at) (pa_cons (pe_ix ix_tup (pe_ix ix_list (pv 5) (pe_un un_neg pe_int) (fun _ _ => rfl)) pe_int (fun _ _ => rfl)) (pa_cons (pv 6) pa_nil))) pe_non))
        (pss_cons (ps_if (pt_cmpR op_isN (pv 7) pe_non (nomark _)) (pss_cons (ps_expr (pe_bm PySem.F.plainAttrs_list PySem.F.slot_list_append PySem.F.type_list_append mt_append (pv 3) (pa_cons (pe_tup (pa_cons pe_str pa_nil)) pa_nil)))
          (pss_cons (ps_expr (pe_bm PySem.F.plainAttrs_list PySem.F.slot_list_append PySem.F.type_list_append mt_append (pv 5) (pa_cons (pe_tup (pa_cons (pv 6) (pa_cons (pe_tup (pa_cons pe_str (pa_cons (pv 4) pa_nil))) pa_nil))) pa_nil)))
          (pss_one ps_continue))) pss_nil)
        (pss_cons (ps_asg (pe_bm0 PySem.F.plainAttrs_list PySem.F.slot_list_pop PySem.F.type_list_pop mt_pop (pv 5)) (pg_tup rfl (pgs_cons (pg_name (i := 8) sc_told_along.nd rfl (Or.inl rfl)) (pgs_cons (pg_name (i := 9) sc_told_along.nd rfl (Or.inl rfl)) pgs_nil))))
        (pss_cons (ps_expr (pe_bm PySem.F.plainAttrs_list PySem.F.slot_list_append PySem.F.type_list_append mt_append (pv 3) (pa_cons (pe_tup (pa_cons (pe_ifExp (pt_truth (pv 7) (by intro _; rfl)) pe_str pe_str) (pa_cons (pv 9) pa_nil))) pa_nil)))
        (pss_one (ps_if (pt_truth (pv 7) (by intro _; rfl)) (pss_one (ps_expr (pe_bm PySem.F.plainAttrs_list PySem.F.slot_list_append PySem.F.type_list_append mt_append (pv 5) (pa_cons (pe_tup (pa_cons (pv 7) (pa_cons (pe_tup (pa_cons pe_str (pa_cons (pv 4) pa_nil))) pa_nil))) pa_nil)))) pss_nil)))))))
      (pss_one (ps_ret (pe_tup (pa_cons (pv 3) (pa_cons (pe_lc (own := [("_", 8), ("source", 9)]) (g := gTup K 2 (gCons (gName 8) (gCons (gName 9) gNil))) (tt := tYes) rfl sc_told_along.nd (pi_list (pv 5)) (blkOk_by (own := [("_", 8), ("source", 9)]) (N := ["book", "web", "row", "found", "at", "standing", "laid", "left", "_", "source", "letter"]) (sc := defScope s_told_along) (by decide +kernel)) (fun _ _ _ _ _ => pg_tup rfl (pgs_cons (pg_name (i := 8) sc_told_along.nd rfl (Or.inl rfl)) (pgs_cons (pg_name (i := 9) sc_told_along.nd rfl (Or.inl rfl)) pgs_nil))) (fun _ _ _ _ _ => pts_nil) (fun _ _ _ _ _ => (pv 9))) pa_nil)))))))), ?_⟩
    refine ⟨sz_le (n := 0) (by decide), fun L1 hL1 _ => ?_⟩
    have s1 := same_new (o := HO.lst []) hL1
    have z1 : upd H L1 (.lst []) L1 = some (.lst []) := upd_same
    generalize upd H L1 (.lst []) = H1 at s1 z1 ⊢
    refine ⟨_, rfl, S l, rfl, fun L2 hL2 => ?_⟩
    have hL2H : H L2 = none := s1.free hL2
    have hne : L1 ≠ L2 := by
      rintro rfl
      rw [z1] at hL2
      cases hL2
    refine lc_yes (walk_en l) (fun i H' => Same H1 H' ∧ ∃ ys, H' L2 = some (.lst ys) ∧ TdAll K H' ys ((List.range i).map fun k => itD (l.getD k 0, ⟨false, k⟩))) ⟨same_new hL2, [], upd_same, .nil⟩ (fun _ _ _ _ => trivial) ?_ ?_
    · rintro i x H2 H3 hi ⟨s2, ys, hy, td⟩ ⟨T, rfl, hT, rfl⟩
      have s3 := same_new (o := HO.tup [V.int (i : Nat), V.str (S [l.getD i 0])]) hT
      refine ⟨T, _, rfl, Or.inl (Or.inl upd_same), rfl, _, _, rfl, _, _, rfl, rfl, rfl, ?_⟩
      have hy3 := s3 _ _ hy
      have td3 := td.same s3
      have s23 := s2.trans s3
      generalize upd H2 T (.tup [V.int (i : Nat), V.str (S [l.getD i 0])]) = H3 at hy3 td3 s23 ⊢
      refine ⟨_, rfl, _, rfl, sz_le (n := 2) (by decide), fun q1 hq1 => ?_⟩
      have s4 := same_new (o := HO.tup [V.str "web", V.int (i : Nat)]) hq1
      have zq : SqT K (upd H3 q1 (.tup [V.str "web", V.int (i : Nat)])) q1 [V.str "web", V.int (i : Nat)] := Or.inl (Or.inl upd_same)
      generalize upd H3 q1 (.tup [V.str "web", V.int (i : Nat)]) = H4 at s4 zq ⊢
      refine ⟨sz_le (n := 2) (by decide), fun q2 hq2 => ?_⟩
      have s5 := same_new (o := HO.tup [V.str (S [l.getD i 0]), V.ref q1]) hq2
      have zp : SqT K (upd H4 q2 (.tup [V.str (S [l.getD i 0]), V.ref q1])) q2 [V.str (S [l.getD i 0]), V.ref q1] := Or.inl (Or.inl upd_same)
      have zq := Same.tup s5 zq
      generalize upd H4 q2 (.tup [V.str (S [l.getD i 0]), V.ref q1]) = H5 at s5 zp zq ⊢
      have s35 := s4.trans s5
      have hy5 := s35 _ _ hy3
      have td5 := (td3.same s35).snoc (td_it (b := false) (n := i) zp zq)
      have kp : KpT K H5 (upd H5 L2 (.lst (ys ++ [V.ref q2]))) := KpT.lst hy5
      have hle : ys.length = i := by
        rw [td.len, List.length_map, List.length_range]
      refine ⟨ys, hy5, sz_lt (by omega), push_same hL2 (s23.trans s35), _, upd_same, ?_⟩
      rw [webSt_snoc]
      exact td5.kp kp
    · rintro H2 ⟨s2, ys, hy, td⟩
      have z2 := s2 _ _ z1
      have s02 := s1.trans s2
      refine ⟨_, rfl, S row, rfl, ?_⟩
      refine for_it (walk_en row) (fun i σ H' => Same H H' ∧ ∃ xs ys, H' L1 = some (.lst xs) ∧ TdAll K H' xs ((runM fs l row i).ev.map evD) ∧ H' L2 = some (.lst ys) ∧ TdAll K H' ys ((runM fs l row i).st.map itD) ∧
        ∃ o4 o6 o7 o8 o9 o10, σ = [some (.ref r), some (.str (S l)), some (.str (S row)), some (.ref L1), o4, some (.ref L2), o6, o7, o8, o9, o10]) ⟨s02, [], ys, z2, .nil, hy, ?_, _, _, _, _, _, _, rfl⟩ (fun _ _ _ _ _ => trivial) ?_ ?_
      · show TdAll K H2 ys ((webSt l).map itD)
        rw [webSt_it]
        exact td
      · rintro i x σ H3 H3' hi ⟨s3, xs, ys, hx, tx, hy, ty, o4, o6, o7, o8, o9, o10, rfl⟩ ⟨T, rfl, hT, rfl⟩
        have t4 := same_new (o := HO.tup [V.int (i : Nat), V.str (S [row.getD i 0])]) hT
        refine ⟨T, _, rfl, Or.inl (Or.inl upd_same), rfl, _, _, rfl, _, _, rfl, rfl, ?_⟩
        have hx := t4 _ _ hx
        have hy := t4 _ _ hy
        have tx := tx.same t4
        have ty := ty.same t4
        have s4 := s3.trans t4
        generalize upd H3 T (.tup [V.int (i : Nat), V.str (S [row.getD i 0])]) = H4 at s4 hx hy tx ty ⊢
        clear t4 s3 hT
        obtain ⟨len1, len2⟩ := run_len fs l row i
        have lx : xs.length = i := by rw [tx.len, List.length_map, len1]
        have ly : ys.length ≤ l.length + i := by rw [ty.len, List.length_map]; exact len2
        have est : runM fs l row (i + 1) = stepM fs i (row.getD i 0) (runM fs l row i) := rfl
        rw [est]
        generalize runM fs l row i = rn at len1 len2 tx ty
        rcases List.eq_nil_or_concat rn.st with e0 | ⟨st, ⟨c, p⟩, e0⟩
        · rw [step_nil e0]
          have ey : ys = [] := by
            have := ty.len
            rw [e0] at this
            exact List.eq_nil_of_length_eq_zero this
          subst ey
          refine ⟨_, rfl, false, Or.inl ⟨[], SqL.of hy, rfl⟩, ifF rfl ?_⟩
          refine ⟨_, rfl, rfl, _, rfl, ifT rfl ?_⟩
          refine ⟨_, rfl, Or.inl ⟨rfl, _, SqL.of hx⟩, sz_le (n := 1) (by decide), fun e1 he1 => ?_⟩
          have t5 := same_new (o := HO.tup [V.str "stands"]) he1
          have ze : SqT K (upd H4 e1 (.tup [V.str "stands"])) e1 [V.str "stands"] := Or.inl (Or.inl upd_same)
          have hx5 := t5 _ _ hx
          have hy5 := t5 _ _ hy
          have tx5 := (tx.same t5).snoc (Td.tup ze (.cons (.str _) .nil))
          have ty5 := ty.same t5
          have s5 := s4.trans t5
          generalize upd H4 e1 (.tup [V.str "stands"]) = H5 at hx5 hy5 tx5 ty5 s5 ⊢
          refine ⟨L1, _, _, rfl, rfl, hx5, sz_lt (by omega), ?_⟩
          have kp1 : KpT K H5 (upd H5 L1 (.lst (xs ++ [V.ref e1]))) := KpT.lst hx5
          have hx6 : upd H5 L1 (.lst (xs ++ [V.ref e1])) L1 = some (.lst (xs ++ [V.ref e1])) := upd_same
          have hy6 : upd H5 L1 (.lst (xs ++ [V.ref e1])) L2 = some (.lst []) := (upd_ne (Ne.symm hne)).trans hy5
          have tx6 := tx5.kp kp1
          have ty6 := ty5.kp kp1
          have s6 := push_same (o := .lst (xs ++ [V.ref e1])) hL1 s5
          generalize upd H5 L1 (.lst (xs ++ [V.ref e1])) = H6 at hx6 hy6 tx6 ty6 s6 ⊢
          refine ⟨_, rfl, Or.inl ⟨rfl, _, SqL.of hy6⟩, _, rfl, _, rfl, sz_le (n := 2) (by decide), fun q1 hq1 => ?_⟩
          have t7 := same_new (o := HO.tup [V.str "lay", V.int (i : Nat)]) hq1
          have zq : SqT K (upd H6 q1 (.tup [V.str "lay", V.int (i : Nat)])) q1 [V.str "lay", V.int (i : Nat)] := Or.inl (Or.inl upd_same)
          generalize upd H6 q1 (.tup [V.str "lay", V.int (i : Nat)]) = H7 at t7 zq ⊢
          refine ⟨sz_le (n := 2) (by decide), fun q2 hq2 => ?_⟩
          have t8 := same_new (o := HO.tup [V.str (S [row.getD i 0]), V.ref q1]) hq2
          have zp : SqT K (upd H7 q2 (.tup [V.str (S [row.getD i 0]), V.ref q1])) q2 [V.str (S [row.getD i 0]), V.ref q1] := Or.inl (Or.inl upd_same)
          have zq := Same.tup t8 zq
          generalize upd H7 q2 (.tup [V.str (S [row.getD i 0]), V.ref q1]) = H8 at t8 zp zq ⊢
          have t68 := t7.trans t8
          have hy8 := t68 _ _ hy6
          have hx8 := t68 _ _ hx6
          have ty8 := (ty6.same t68).snoc (td_it (b := true) (n := i) zp zq)
          have kp2 : KpT K H8 (upd H8 L2 (.lst ([] ++ [V.ref q2]))) := KpT.lst hy8
          refine ⟨L2, _, _, rfl, rfl, hy8, sz_lt (by decide), ?_⟩
          refine ⟨push_same hL2H (s6.trans t68), _, _, (upd_ne hne).trans hx8, ?_, upd_same, ?_, _, _, _, _, _, _, rfl⟩
          · show TdAll K _ _ ((rn.ev ++ [Ev.st]).map evD)
            rw [List.map_append]
            exact (tx6.same t68).kp kp2
          · show TdAll K _ _ ((rn.st ++ [(row.getD i 0, (⟨true, i⟩ : Spot))]).map itD)
            rw [List.map_append]
            exact ty8.kp kp2
        · rw [List.concat_eq_append] at e0
          have ty' := ty
          rw [e0, List.map_append] at ty'
          obtain ⟨us, v, rfl, tus, tv⟩ := TdAll.unsnoc (d := itD (c, p)) ty'
          obtain ⟨pa, x1, x2, rfl, hpa, tx1, tx2⟩ := Td.two tv
          cases tx1.isStr
          rw [List.length_append] at ly
          have ly' : us.length + 1 ≤ l.length + i := ly
          refine ⟨_, rfl, true, Or.inl ⟨_, SqL.of hy, by cases us <;> rfl⟩, ifT rfl ?_⟩
          obtain ⟨⟨dx, b1⟩, b2⟩ := hb
          refine ⟨_, rfl, r, dx, _, rfl, s4 _ _ b1, rfl, _, rfl, _, rfl, L2, _, -1, _, rfl, rfl, SqL.of hy, atI_last _ _, pa, _, 0, _, rfl, rfl, hpa, atI_nat (j := 0) rfl, _, rfl, ?_⟩
          refine ⟨r, fa, ta, sg, fs, c, row.getD i 0, rfl, ⟨⟨dx, s4 _ _ b1⟩, s4 _ _ b2⟩, fun H5 t5 => ?_⟩
          have hx := t5 _ _ hx
          have hy := t5 _ _ hy
          have tx := tx.same t5
          have ty := ty.same t5
          have tus := tus.same t5
          have tx2 := tx2.same t5
          have hpa := Same.tup t5 hpa
          have s5 := s4.trans t5
          clear t5 s4 tv tx1 ty'
          cases e : leftM fs c (row.getD i 0) with
          | none =>
            rw [step_no e0 e]
            refine ⟨_, rfl, rfl, _, rfl, ifT rfl ?_⟩
            refine ⟨_, rfl, Or.inl ⟨rfl, _, SqL.of hx⟩, sz_le (n := 1) (by decide), fun e1 he1 => ?_⟩
            have t6 := same_new (o := HO.tup [V.str "stands"]) he1
            have ze : SqT K (upd H5 e1 (.tup [V.str "stands"])) e1 [V.str "stands"] := Or.inl (Or.inl upd_same)
            have hx6 := t6 _ _ hx
            have hy6 := t6 _ _ hy
            have tx6 := (tx.same t6).snoc (Td.tup ze (.cons (.str _) .nil))
            have ty6 := ty.same t6
            have s6 := s5.trans t6
            generalize upd H5 e1 (.tup [V.str "stands"]) = H6 at hx6 hy6 tx6 ty6 s6 ⊢
            refine ⟨L1, _, _, rfl, rfl, hx6, sz_lt (by omega), ?_⟩
            have kp1 : KpT K H6 (upd H6 L1 (.lst (xs ++ [V.ref e1]))) := KpT.lst hx6
            have hx7 : upd H6 L1 (.lst (xs ++ [V.ref e1])) L1 = some (.lst (xs ++ [V.ref e1])) := upd_same
            have hy7 : upd H6 L1 (.lst (xs ++ [V.ref e1])) L2 = some (.lst (us ++ [V.ref pa])) := (upd_ne (Ne.symm hne)).trans hy6
            have tx7 := tx6.kp kp1
            have ty7 := ty6.kp kp1
            have s7 := push_same (o := .lst (xs ++ [V.ref e1])) hL1 s6
            generalize upd H6 L1 (.lst (xs ++ [V.ref e1])) = H7 at hx7 hy7 tx7 ty7 s7 ⊢
            refine ⟨_, rfl, Or.inl ⟨rfl, _, SqL.of hy7⟩, _, rfl, _, rfl, sz_le (n := 2) (by decide), fun q1 hq1 => ?_⟩
            have t8 := same_new (o := HO.tup [V.str "lay", V.int (i : Nat)]) hq1
            have zq : SqT K (upd H7 q1 (.tup [V.str "lay", V.int (i : Nat)])) q1 [V.str "lay", V.int (i : Nat)] := Or.inl (Or.inl upd_same)
            generalize upd H7 q1 (.tup [V.str "lay", V.int (i : Nat)]) = H8 at t8 zq ⊢
            refine ⟨sz_le (n := 2) (by decide), fun q2 hq2 => ?_⟩
            have t9 := same_new (o := HO.tup [V.str (S [row.getD i 0]), V.ref q1]) hq2
            have zp : SqT K (upd H8 q2 (.tup [V.str (S [row.getD i 0]), V.ref q1])) q2 [V.str (S [row.getD i 0]), V.ref q1] := Or.inl (Or.inl upd_same)
            have zq := Same.tup t9 zq
            generalize upd H8 q2 (.tup [V.str (S [row.getD i 0]), V.ref q1]) = H9 at t9 zp zq ⊢
            have t79 := t8.trans t9
            have hy9 := t79 _ _ hy7
            have hx9 := t79 _ _ hx7
            have ty9 := (ty7.same t79).snoc (td_it (b := true) (n := i) zp zq)
            have kp2 : KpT K H9 (upd H9 L2 (.lst (us ++ [V.ref pa] ++ [V.ref q2]))) := KpT.lst hy9
            refine ⟨L2, _, _, rfl, rfl, hy9, sz_lt (by rw [List.length_append]; show us.length + 1 ≤ _; omega), ?_⟩
            refine ⟨push_same hL2H (s7.trans t79), _, _, (upd_ne hne).trans hx9, ?_, upd_same, ?_, _, _, _, _, _, _, rfl⟩
            · show TdAll K _ _ ((rn.ev ++ [Ev.st]).map evD)
              rw [List.map_append]
              exact (tx7.same t79).kp kp2
            · show TdAll K _ _ ((rn.st ++ [(row.getD i 0, (⟨true, i⟩ : Spot))]).map itD)
              rw [List.map_append]
              exact ty9.kp kp2
          | some z =>
            have hz := left_len hfs e
            have hlz : (S z).length ≤ sizeLine := by
              rw [SX.S_len]
              exact sz_le (by omega)
            refine ⟨_, rfl, rfl, _, rfl, ifF rfl ?_⟩
            have hlast : (us ++ [V.ref pa])[(us ++ [V.ref pa]).length - 1]? = some (.ref pa) := by simp
            refine ⟨_, rfl, Or.inl ⟨rfl, _, SqL.of hy⟩, L2, _, _, rfl, rfl, hy, hlast, ?_⟩
            rw [List.dropLast_concat]
            have kp1 : KpT K H5 (upd H5 L2 (.lst us)) := KpT.lst hy
            have hx6 : upd H5 L2 (.lst us) L1 = some (.lst xs) := (upd_ne hne).trans hx
            have hy6 : upd H5 L2 (.lst us) L2 = some (.lst us) := upd_same
            have tx6 := tx.kp kp1
            have tus6 := tus.kp kp1
            have tx26 := tx2.kp kp1
            have hpa6 := kp1 _ _ hpa
            have s6 := push_same (o := .lst us) hL2H s5
            generalize upd H5 L2 (.lst us) = H6 at hx6 hy6 tx6 tus6 tx26 hpa6 s6 ⊢
            refine ⟨pa, _, rfl, hpa6, rfl, _, _, rfl, _, _, rfl, rfl, ?_⟩
            refine ⟨_, rfl, Or.inl ⟨rfl, _, SqL.of hx6⟩, _, rfl, ((S z).length : Int) != 0, ⟨hlz, rfl⟩, ?_⟩
            match z, hz, e, hlz with
            | [], _, e, hlz =>
              rw [step_go e0 e]
              refine ifF (by decide) ?_
              refine ⟨_, rfl, sz_le (n := 2) (by decide), fun e1 he1 => ?_⟩
              have t7 := same_new (o := HO.tup [V.str "goes", x2]) he1
              have ze : SqT K (upd H6 e1 (.tup [V.str "goes", x2])) e1 [V.str "goes", x2] := Or.inl (Or.inl upd_same)
              have hx7 := t7 _ _ hx6
              have hy7 := t7 _ _ hy6
              have tx7 := (tx6.same t7).snoc (Td.two' ze (.str _) (tx26.same t7))
              have tus7 := tus6.same t7
              have s7 := s6.trans t7
              generalize upd H6 e1 (.tup [V.str "goes", x2]) = H7 at hx7 hy7 tx7 tus7 s7 ⊢
              refine ⟨L1, _, _, rfl, rfl, hx7, sz_lt (by omega), ?_⟩
              have kp2 : KpT K H7 (upd H7 L1 (.lst (xs ++ [V.ref e1]))) := KpT.lst hx7
              refine ⟨_, rfl, ((S ([] : List Nat)).length : Int) != 0, ⟨hlz, rfl⟩, ifF (by decide) ?_⟩
              refine ⟨push_same hL1 s7, _, _, upd_same, ?_, (upd_ne (Ne.symm hne)).trans hy7, tus7.kp kp2, _, _, _, _, _, _, rfl⟩
              show TdAll K _ _ ((rn.ev ++ [Ev.go p]).map evD)
              rw [List.map_append]
              exact tx7.kp kp2
            | [d], _, e, hlz =>
              rw [step_tu e0 e]
              have hn : (((S [d]).length : Int) != 0) = true := by
                rw [SX.S_len]
                show ((((1 : Nat) : Int)) != 0) = true
                decide
              refine ifT hn ?_
              refine ⟨_, rfl, sz_le (n := 2) (by decide), fun e1 he1 => ?_⟩
              have t7 := same_new (o := HO.tup [V.str "turns", x2]) he1
              have ze : SqT K (upd H6 e1 (.tup [V.str "turns", x2])) e1 [V.str "turns", x2] := Or.inl (Or.inl upd_same)
              have hx7 := t7 _ _ hx6
              have hy7 := t7 _ _ hy6
              have tx7 := (tx6.same t7).snoc (Td.two' ze (.str _) (tx26.same t7))
              have tus7 := tus6.same t7
              have s7 := s6.trans t7
              generalize upd H6 e1 (.tup [V.str "turns", x2]) = H7 at hx7 hy7 tx7 tus7 s7 ⊢
              refine ⟨L1, _, _, rfl, rfl, hx7, sz_lt (by omega), ?_⟩
              have kp2 : KpT K H7 (upd H7 L1 (.lst (xs ++ [V.ref e1]))) := KpT.lst hx7
              have hx8 : upd H7 L1 (.lst (xs ++ [V.ref e1])) L1 = some (.lst (xs ++ [V.ref e1])) := upd_same
              have hy8 : upd H7 L1 (.lst (xs ++ [V.ref e1])) L2 = some (.lst us) := (upd_ne (Ne.symm hne)).trans hy7
              have tx8 := tx7.kp kp2
              have tus8 := tus7.kp kp2
              have s8 := push_same (o := .lst (xs ++ [V.ref e1])) hL1 s7
              generalize upd H7 L1 (.lst (xs ++ [V.ref e1])) = H8 at hx8 hy8 tx8 tus8 s8 ⊢
              refine ⟨_, rfl, ((S [d]).length : Int) != 0, ⟨hlz, rfl⟩, ifT hn ?_⟩
              refine ⟨_, rfl, Or.inl ⟨rfl, _, SqL.of hy8⟩, _, rfl, _, rfl, sz_le (n := 2) (by decide), fun q1 hq1 => ?_⟩
              have t9 := same_new (o := HO.tup [V.str "lay", V.int (i : Nat)]) hq1
              have zq : SqT K (upd H8 q1 (.tup [V.str "lay", V.int (i : Nat)])) q1 [V.str "lay", V.int (i : Nat)] := Or.inl (Or.inl upd_same)
              generalize upd H8 q1 (.tup [V.str "lay", V.int (i : Nat)]) = H9 at t9 zq ⊢
              refine ⟨sz_le (n := 2) (by decide), fun q2 hq2 => ?_⟩
              have t10 := same_new (o := HO.tup [optZ (.some [d]), V.ref q1]) hq2
              have zp : SqT K (upd H9 q2 (.tup [optZ (.some [d]), V.ref q1])) q2 [optZ (.some [d]), V.ref q1] := Or.inl (Or.inl upd_same)
              have zq := Same.tup t10 zq
              generalize upd H9 q2 (.tup [optZ (.some [d]), V.ref q1]) = H10 at t10 zp zq ⊢
              have t810 := t9.trans t10
              have hy10 := t810 _ _ hy8
              have hx10 := t810 _ _ hx8
              have tus10 := (tus8.same t810).snoc (td_it (b := true) (n := i) zp zq)
              have kp3 : KpT K H10 (upd H10 L2 (.lst (us ++ [V.ref q2]))) := KpT.lst hy10
              refine ⟨L2, _, _, rfl, rfl, hy10, sz_lt (by omega), ?_⟩
              refine ⟨push_same hL2H (s8.trans t810), _, _, (upd_ne hne).trans hx10, ?_, upd_same, ?_, _, _, _, _, _, _, rfl⟩
              · show TdAll K _ _ ((rn.ev ++ [Ev.tu p]).map evD)
                rw [List.map_append]
                exact (tx8.same t810).kp kp3
              · show TdAll K _ _ ((st ++ [(d, (⟨true, i⟩ : Spot))]).map itD)
                rw [List.map_append]
                exact tus10.kp kp3
      · rintro σ H3 ⟨s3, xs, ys, hx, tx, hy, ty, o4, o6, o7, o8, o9, o10, rfl⟩
        obtain ⟨len1, len2⟩ := run_len fs l row row.length
        refine ⟨_, rfl, _, rfl, L2, rfl, ⟨_, SqL.of hy⟩, fun L3 hL3 => ?_⟩
        refine lc_yes (walk_list (K := K) (a := L2) (xs := ys)) (fun i H' => Same H3 H' ∧ ∃ zs, H' L3 = some (.lst zs) ∧ TdAll K H' zs (((runM fs l row row.length).st.take i).map fun q => spD q.2)) ⟨same_new hL3, [], upd_same, .nil⟩ (fun i H' _ q => SqL.of (q.1 _ _ hy)) ?_ ?_
        · rintro i x H4 H5 hi ⟨s4, zs, hz, tz⟩ ⟨rfl, hxi⟩
          obtain ⟨d, hd, tdx⟩ := ty.at hxi
          rw [List.getElem?_map] at hd
          obtain ⟨⟨c, p⟩, hcp, rfl⟩ := Option.map_eq_some_iff.mp hd
          obtain ⟨pa, x1, x2, rfl, hpa, tx1, tx2⟩ := Td.two tdx
          refine ⟨pa, _, rfl, Same.tup s4 hpa, rfl, _, _, rfl, _, _, rfl, rfl, rfl, ?_⟩
          have kp : KpT K H5 (upd H5 L3 (.lst (zs ++ [x2]))) := KpT.lst hz
          have lz : zs.length ≤ i := by
            rw [tz.len, List.length_map, List.length_take]
            omega
          have li : i < l.length + row.length := by
            have := ty.len
            rw [List.length_map] at this
            omega
          refine ⟨_, rfl, zs, hz, sz_lt (by omega), push_same hL3 s4, _, upd_same, ?_⟩
          rw [List.take_add_one, hcp, List.map_append]
          exact (tz.kp kp).snoc ((tx2.same s4).kp kp)
        · rintro H4 ⟨s4, zs, hz, tz⟩
          have elen : ys.length = (runM fs l row row.length).st.length := by
            rw [ty.len, List.length_map]
          rw [elen, List.take_length] at tz
          refine ⟨sz_le (n := 2) (by decide), fun T hT => ?_⟩
          have t5 := same_new (o := HO.tup [V.ref L1, V.ref L3]) hT
          exact q _ T L1 L3 xs zs ((s3.trans s4).trans t5) (Or.inl (Or.inl upd_same)) (t5 _ _ (s4 _ _ hx)) ((tx.same s4).same t5) (t5 _ _ hz) (tz.same t5)
end
end Lw

namespace Lw
open PySem PySem.Spec PyProof.Rows L2 Mq
open SX (S)
section
variable {P : Program} {w : World} {K : PySem.W.Frag} {mg : Str → Option Value} {base : Heap} {C CW CR : Addr}
theorem ok_events {f fV fT : Addr} {fd fdV fdT : FuncData} (F : Fun K "events" "events" s_events f fd) (B : Blt mg)
    (FV : Fun K "check_woven" "check_woven" s_check_woven fV fdV) (gV : mg "check_woven" = some (.ref fV)) (bV : Binds K fdV ["book", "web", "row"] []) (GV : FnOk P w K mg base (L2.CX P w) 4 fV fdV ["book", "web", "row"] (spWoven K C CW CR))
    (FT : Fun K "told_along" "told_along" s_told_along fT fdT) (gT : mg "told_along" = some (.ref fT)) (bT : Binds K fdT ["book", "web", "row"] []) (GT : FnOk P w K mg base CX0 2 fT fdT ["book", "web", "row"] (spTold K C)) :
    FnOk P w K mg base (L2.CX P w) 5 f fd ["book", "web", "row"] (spAns K C CW CR 1) := by
  refine F.okX sc_events (fun vs H Q E h => ?_) (fun cdv A outer s H vs Q E hr h => ?_)
  · obtain ⟨_, _, _, _, _, _, _, rfl, _⟩ := h
    rfl
  · obtain ⟨r, fa, ta, sg, fs, v, u, rfl, hb, hfs, h⟩ := h
    refine ⟨_, (pss_cons (ps_expr (pe_call GV (hr.mono (by decide)) (by rfl) gV FV.kp bV .nil (passes_call (takes_of rfl rfl rfl rfl) (fun _ _ _ _ z => z)) (pa_cons (pv 0) (pa_cons (pv 1) (pa_cons (pv 2) pa_nil)))))
      (pss_one (ps_ret (pe_callTy call_tuple_of (by rfl) B.tuple (by decide +kernel) (pa_cons (pe_ix ix_tup (pe_call GT (hr.mono (by decide)) (by rfl) gT FT.kp bT .nil pass0 (pa_cons (pv 0) (pa_cons (pv 1) (pa_cons (pv 2) pa_nil)))) pe_int (fun _ _ => rfl)) pa_nil))))), ?_⟩
    refine ⟨_, rfl, _, rfl, _, rfl, r, fa, ta, sg, fs, v, u, rfl, hb, ?_⟩
    rcases h with ⟨l, row, hg, hgr, q⟩ | h | h
    · refine Or.inl ⟨l, row, hg, hgr, fun H1 s1 => ?_⟩
      have e1 := hg.1
      have e2 := hgr.1
      subst e1 e2
      refine ⟨_, rfl, _, rfl, _, rfl, r, fa, ta, sg, l, row, fs, rfl, hb.same s1, hfs, hg.2.2, hgr.2.2, fun H2 T L1 L2 xs ys s2 hT hx tx hy ty => ?_⟩
      refine ⟨T, _, 0, _, rfl, rfl, hT, atI_nat (j := 0) rfl, L1, _, rfl, Or.inl ⟨SqL.of hx, fun t ht => ?_⟩⟩
      have s3 := same_new (o := HO.tup xs) ht
      exact q _ _ ((s1.trans s2).trans s3) (.tup (Or.inl (Or.inl upd_same)) (tx.same s3))
    · exact Or.inr (Or.inl h)
    · exact Or.inr (Or.inr h)
theorem ok_sources {f fV fT : Addr} {fd fdV fdT : FuncData} (F : Fun K "sources" "sources" s_sources f fd) (B : Blt mg)
    (FV : Fun K "check_woven" "check_woven" s_check_woven fV fdV) (gV : mg "check_woven" = some (.ref fV)) (bV : Binds K fdV ["book", "web", "row"] []) (GV : FnOk P w K mg base (L2.CX P w) 4 fV fdV ["book", "web", "row"] (spWoven K C CW CR))
    (FT : Fun K "told_along" "told_along" s_told_along fT fdT) (gT : mg "told_along" = some (.ref fT)) (bT : Binds K fdT ["book", "web", "row"] []) (GT : FnOk P w K mg base CX0 2 fT fdT ["book", "web", "row"] (spTold K C)) :
    FnOk P w K mg base (L2.CX P w) 5 f fd ["book", "web", "row"] (spAns K C CW CR 2) := by
  refine F.okX sc_sources (fun vs H Q E h => ?_) (fun cdv A outer s H vs Q E hr h => ?_)
  · obtain ⟨_, _, _, _, _, _, _, rfl, _⟩ := h
    rfl
  · obtain ⟨r, fa, ta, sg, fs, v, u, rfl, hb, hfs, h⟩ := h
    refine ⟨_, (pss_cons (ps_expr (pe_call GV (hr.mono (by decide)) (by rfl) gV FV.kp bV .nil (passes_call (takes_of rfl rfl rfl rfl) (fun _ _ _ _ z => z)) (pa_cons (pv 0) (pa_cons (pv 1) (pa_cons (pv 2) pa_nil)))))
      (pss_one (ps_ret (pe_callTy call_tuple_of (by rfl) B.tuple (by decide +kernel) (pa_cons (pe_ix ix_tup (pe_call GT (hr.mono (by decide)) (by rfl) gT FT.kp bT .nil pass0 (pa_cons (pv 0) (pa_cons (pv 1) (pa_cons (pv 2) pa_nil)))) pe_int (fun _ _ => rfl)) pa_nil))))), ?_⟩
    refine ⟨_, rfl, _, rfl, _, rfl, r, fa, ta, sg, fs, v, u, rfl, hb, ?_⟩
    rcases h with ⟨l, row, hg, hgr, q⟩ | h | h
    · refine Or.inl ⟨l, row, hg, hgr, fun H1 s1 => ?_⟩
      have e1 := hg.1
      have e2 := hgr.1
      subst e1 e2
      refine ⟨_, rfl, _, rfl, _, rfl, r, fa, ta, sg, l, row, fs, rfl, hb.same s1, hfs, hg.2.2, hgr.2.2, fun H2 T L1 L2 xs ys s2 hT hx tx hy ty => ?_⟩
      refine ⟨T, _, 1, _, rfl, rfl, hT, atI_nat (j := 1) rfl, L2, _, rfl, Or.inl ⟨SqL.of hy, fun t ht => ?_⟩⟩
      have s3 := same_new (o := HO.tup ys) ht
      exact q _ _ ((s1.trans s2).trans s3) (.tup (Or.inl (Or.inl upd_same)) (ty.same s3))
    · exact Or.inr (Or.inl h)
    · exact Or.inr (Or.inr h)
end
end Lw

namespace Lw
open PySem PySem.Spec PyProof.Rows L2 Mq
open SX (S)
/-! ### the law's own book and trace -/
def wKv (sg : List Nat) (ld : Addr) : List (Key × V) := [(.inr "signs", .str (S sg)), (.inr "folds", .ref ld)]
structure WAt (H : Hp) (wd ld : Addr) (sg : List Nat) (gs : List Fd) : Prop where
  w : H wd = some (.dK (wKv sg ld))
  l : H ld = some (.dT (tabF gs))
theorem WAt.same {H H' : Hp} {wd ld : Addr} {sg : List Nat} {gs : List Fd} (h : WAt H wd ld sg gs) (e : Same H H') : WAt H' wd ld sg gs := ⟨e _ _ h.w, e _ _ h.l⟩
theorem WAt.off {D C : Addr} {T : Nat} {H H' : Hp} {wd ld : Addr} {sg : List Nat} {gs : List Fd} (h : WAt H wd ld sg gs) (f : Off D C H H') (k : DeckAt D C T H) : WAt H' wd ld sg gs := by
  refine ⟨f wd _ ?_ ?_ h.w, f.at k h.l ⟨(fun _ z => nomatch z), (fun _ z => nomatch z)⟩⟩
  · rintro rfl
    obtain ⟨m, t, js, e, _⟩ := k.ex
    rw [h.w] at e
    have e2 := Option.some.inj e
    injection e2 with e2
    have e3 := congrArg List.length e2
    exact absurd e3 (by show ¬ 2 = 3; decide)
  · rintro rfl
    obtain ⟨m, t, js, _, e, _⟩ := k.ex
    rw [h.w] at e
    cases e
theorem joinW_one : ∀ l : List Nat, TL.joinL [] (l.map fun c => [c]) = l
  | [] => rfl
  | [c] => rfl
  | c :: d :: l => by
    show [c] ++ ([] ++ TL.joinL [] ((d :: l).map fun c => [c])) = _
    rw [joinW_one (d :: l)]
    rfl
theorem ones_sum (l : List Nat) : (((l.map fun c => [c]).map S).map (·.length)).sum = l.length := by
  induction l with
  | nil => rfl
  | cons c l ih =>
    rw [List.map_cons, List.map_cons, List.map_cons, List.sum_cons, ih, SX.S_len]
    show 1 + l.length = l.length + 1
    omega
theorem ledz_len {gs : List Fd} (h : zOk gs) : ∀ (row w : List Nat), (ledM gs w row).length ≤ w.length + row.length
  | [], w => Nat.le_refl _
  | y :: row, w => by
    have h1 := ledz_len h row (laidM gs w y)
    have h2 : (laidM gs w y).length ≤ w.length + 1 := by
      unfold laidM
      split
      · rw [List.length_append]
        exact Nat.le_refl _
      · split
        · rw [List.length_append]
          exact Nat.le_refl _
        · rename_i z e
          have := leftz h e
          rw [List.length_append, List.length_dropLast]
          omega
    show (ledM gs (laidM gs w y) row).length ≤ w.length + (row.length + 1)
    omega
def traceD (gs : List Fd) (w row : List Nat) : PyData := .tuple [ansM gs w row 0, ansM gs w row 1, ansM gs w row 2]
def spTrace (K : PySem.W.Frag) : Sp := fun vs H Q _ => ∃ (wd ld : Addr) (sg w row : List Nat) (gs : List Fd), vs = [.ref wd, .str (S w), .str (S row)] ∧ WAt H wd ld sg gs ∧ zOk gs ∧ w.length ≤ 1000 ∧ row.length ≤ 1000 ∧
  ∀ H' x, Same H H' → Td K H' x (traceD gs w row) → Q x H'
section
variable {P : Program} {w : World} {K : PySem.W.Frag} {mg : Str → Option Value} {base : Heap} {C : Addr}
theorem ok_trace {f : Addr} {fd : FuncData} (F : Fun K "_law_trace" "_law_trace" s__law_trace f fd) (B : Blt mg) : FnOk P w K mg base CX0 1 f fd ["_law_f", "_law_cloth", "_law_lays_here"] (spTrace K) := by
  refine F.ok sc__law_trace (fun vs H Q E h => ?_) (fun cdv A outer s H vs Q E hr h => ?_)
  · obtain ⟨_, _, _, _, _, _, rfl, _⟩ := h
    rfl
  · obtain ⟨wd, ld, sg, l, row, gs, rfl, hw, hz, hl, hrl, q⟩ := h
    have hu1 : (A.deeper (envOfC "_law_trace" (defScope s__law_trace) s.heap.objs.size f cdv)).units + 1 < cLine := by
      have := hr.units
      omega
    refine ⟨_, (pss_cons (ps_par3 (i := 4) (j := 5) (l := 6) rfl sc__law_trace.nd rfl rfl rfl (by decide) (by decide) (by decide) rfl rfl rfl (pa_cons (pe_lc (own := [("_law_k", 3), ("_law_x", 9)]) (g := gTup K 2 (gCons (gName 3) (gCons (gName 9) gNil))) (tt := tYes) rfl sc__law_trace.nd (pi_enumS (by rfl) B.enumerate (pa_cons (pv 1) pa_nil)) (blkOk_by (own := [("_law_k", 3), ("_law_x", 9)]) (N := ["_law_f", "_law_cloth", "_law_lays_here", "_law_k", "_law_stack", "_law_found", "_law_along", "_law_y", "_law_far", "_law_x", "_law_spot"]) (sc := defScope s__law_trace) (by decide +kernel)) (fun _ _ _ _ _ => pg_tup rfl (pgs_cons (pg_name (i := 3) sc__law_trace.nd rfl (Or.inl rfl)) (pgs_cons (pg_name (i := 9) sc__law_trace.nd rfl (Or.inl rfl)) pgs_nil))) (fun _ _ _ _ _ => pts_nil) (fun _ _ _ _ _ => (pe_tup (pa_cons (pv 9) (pa_cons (pe_tup (pa_cons pe_str (pa_cons (pv 3) pa_nil))) pa_nil))))) (pa_cons (Mq.pe_ls pa_nil) (pa_cons (Mq.pe_ls (pa_cons (pv 1) pa_nil)) pa_nil))) (by rfl))
      (pss_cons (ps_for PassesOwn.never rfl (pi_enumS (by rfl) B.enumerate (pa_cons (pv 2) pa_nil)) (pg_tup rfl (pgs_cons (pg_name (i := 3) sc__law_trace.nd rfl (Or.inl rfl)) (pgs_cons (pg_name (i := 7) sc__law_trace.nd rfl (Or.inl rfl)) pgs_nil)))
        (pss_cons (ps_set (i := 8) sc__law_trace.nd rfl (Or.inl rfl) (pe_dget1 hu1 (pe_dget hu1 (pv 0) pe_str (fun _ _ => rfl)) (pe_tup (pa_cons (pe_slice C8.sl_txt (pv 1) (po_some (pe_un un_neg pe_int)) po_none) (pa_cons (pv 7) pa_nil))) ⟨rfl, rfl, rfl, rfl⟩))
        (pss_cons (ps_if (pt_cmpR op_isN (pv 8) pe_non (nomark _)) (pss_one (ps_expr (pe_bm PySem.F.plainAttrs_list PySem.F.slot_list_append PySem.F.type_list_append mt_append (pv 5) (pa_cons (pe_tup (pa_cons pe_str pa_nil)) pa_nil)))) (pss_one (ps_expr (pe_bm PySem.F.plainAttrs_list PySem.F.slot_list_append PySem.F.type_list_append mt_append (pv 5) (pa_cons (pe_tup (pa_cons (pe_ifExp (pt_cmpR op_eq (pv 8) pe_str (nomark _)) pe_str pe_str) (pa_cons (pe_ix ix_tup (pe_bm0 PySem.F.plainAttrs_list PySem.F.slot_list_pop PySem.F.type_list_pop mt_pop (pv 4)) pe_int (fun _ _ => rfl)) pa_nil))) pa_nil)))))
        (pss_cons (ps_if (pt_cmpR op_ne (pv 8) pe_str (nomark _)) (pss_one (ps_expr (pe_bm PySem.F.plainAttrs_list PySem.F.slot_list_append PySem.F.type_list_append mt_append (pv 4) (pa_cons (pe_tup (pa_cons (pe_ifExp (pt_cmpR op_isN (pv 8) pe_non (nomark _)) (pv 7) (pv 8)) (pa_cons (pe_tup (pa_cons pe_str (pa_cons (pv 3) pa_nil))) pa_nil))) pa_nil)))) pss_nil)
        (pss_cons (ps_set (i := 1) sc__law_trace.nd rfl (Or.inl rfl) (pe_join pe_str (pe_lc (own := [("_law_x", 9), ("_law_spot", 10)]) (g := gTup K 2 (gCons (gName 9) (gCons (gName 10) gNil))) (tt := tYes) rfl sc__law_trace.nd (pi_list (pv 4)) (blkOk_by (own := [("_law_x", 9), ("_law_spot", 10)]) (N := ["_law_f", "_law_cloth", "_law_lays_here", "_law_k", "_law_stack", "_law_found", "_law_along", "_law_y", "_law_far", "_law_x", "_law_spot"]) (sc := defScope s__law_trace) (by decide +kernel)) (fun _ _ _ _ _ => pg_tup rfl (pgs_cons (pg_name (i := 9) sc__law_trace.nd rfl (Or.inl rfl)) (pgs_cons (pg_name (i := 10) sc__law_trace.nd rfl (Or.inl rfl)) pgs_nil))) (fun _ _ _ _ _ => pts_nil) (fun _ _ _ _ _ => (pv 9)))))
        (pss_one (ps_expr (pe_bm PySem.F.plainAttrs_list PySem.F.slot_list_append PySem.F.type_list_append mt_append (pv 6) (pa_cons (pv 1) pa_nil)))))))))
      (pss_one (ps_ret (pe_tup (pa_cons (pe_callTy call_tuple_of (by rfl) B.tuple (by decide +kernel) (pa_cons (pv 6) pa_nil)) (pa_cons (pe_callTy call_tuple_of (by rfl) B.tuple (by decide +kernel) (pa_cons (pv 5) pa_nil)) (pa_cons (pe_callTy call_tuple_of (by rfl) B.tuple (by decide +kernel) (pa_cons (pe_lc (own := [("_law_x", 9), ("_law_spot", 10)]) (g := gTup K 2 (gCons (gName 9) (gCons (gName 10) gNil))) (tt := tYes) rfl sc__law_trace.nd (pi_list (pv 4)) (blkOk_by (own := [("_law_x", 9), ("_law_spot", 10)]) (N := ["_law_f", "_law_cloth", "_law_lays_here", "_law_k", "_law_stack", "_law_found", "_law_along", "_law_y", "_law_far", "_law_x", "_law_spot"]) (sc := defScope s__law_trace) (by decide +kernel)) (fun _ _ _ _ _ => pg_tup rfl (pgs_cons (pg_name (i := 9) sc__law_trace.nd rfl (Or.inl rfl)) (pgs_cons (pg_name (i := 10) sc__law_trace.nd rfl (Or.inl rfl)) pgs_nil))) (fun _ _ _ _ _ => pts_nil) (fun _ _ _ _ _ => (pv 10))) pa_nil)) pa_nil)))))))), ?_⟩
    refine ⟨_, rfl, S l, rfl, fun L4 hL4 => ?_⟩
    refine lc_yes (walk_en l) (fun i H' => Same H H' ∧ ∃ ys, H' L4 = some (.lst ys) ∧ TdAll K H' ys ((List.range i).map fun k => itD (l.getD k 0, ⟨false, k⟩))) ⟨same_new hL4, [], upd_same, .nil⟩ (fun _ _ _ _ => trivial) ?_ ?_
    · rintro i x H2 H3 hi ⟨s2, ys, hy, td⟩ ⟨T, rfl, hT, rfl⟩
      have s3 := same_new (o := HO.tup [V.int (i : Nat), V.str (S [l.getD i 0])]) hT
      refine ⟨T, _, rfl, Or.inl (Or.inl upd_same), rfl, _, _, rfl, _, _, rfl, rfl, rfl, ?_⟩
      have hy3 := s3 _ _ hy
      have td3 := td.same s3
      have s23 := s2.trans s3
      generalize upd H2 T (.tup [V.int (i : Nat), V.str (S [l.getD i 0])]) = H3 at hy3 td3 s23 ⊢
      refine ⟨_, rfl, _, rfl, sz_le (n := 2) (by decide), fun q1 hq1 => ?_⟩
      have s4 := same_new (o := HO.tup [V.str "web", V.int (i : Nat)]) hq1
      have zq : SqT K (upd H3 q1 (.tup [V.str "web", V.int (i : Nat)])) q1 [V.str "web", V.int (i : Nat)] := Or.inl (Or.inl upd_same)
      generalize upd H3 q1 (.tup [V.str "web", V.int (i : Nat)]) = H4 at s4 zq ⊢
      refine ⟨sz_le (n := 2) (by decide), fun q2 hq2 => ?_⟩
      have s5 := same_new (o := HO.tup [V.str (S [l.getD i 0]), V.ref q1]) hq2
      have zp : SqT K (upd H4 q2 (.tup [V.str (S [l.getD i 0]), V.ref q1])) q2 [V.str (S [l.getD i 0]), V.ref q1] := Or.inl (Or.inl upd_same)
      have zq := Same.tup s5 zq
      generalize upd H4 q2 (.tup [V.str (S [l.getD i 0]), V.ref q1]) = H5 at s5 zp zq ⊢
      have s35 := s4.trans s5
      have hy5 := s35 _ _ hy3
      have td5 := (td3.same s35).snoc (td_it (b := false) (n := i) zp zq)
      have kp : KpT K H5 (upd H5 L4 (.lst (ys ++ [V.ref q2]))) := KpT.lst hy5
      have hle : ys.length = i := by
        rw [td.len, List.length_map, List.length_range]
      refine ⟨ys, hy5, sz_lt (by omega), push_same hL4 (s23.trans s35), _, upd_same, ?_⟩
      rw [webSt_snoc]
      exact td5.kp kp
    · rintro H2 ⟨s2, ys, hy, td⟩
      refine ⟨sz_le (n := 0) (by decide), fun L5 hL5 _ => ?_⟩
      have hL5H : H L5 = none := s2.free hL5
      have n45 : L4 ≠ L5 := by
        rintro rfl
        rw [hy] at hL5
        cases hL5
      have t3 := same_new (o := HO.lst []) hL5
      have z5 : upd H2 L5 (.lst []) L5 = some (.lst []) := upd_same
      have hy := t3 _ _ hy
      have td := td.same t3
      have s3 := s2.trans t3
      generalize upd H2 L5 (.lst []) = H3 at s3 z5 hy td ⊢
      refine ⟨_, rfl, sz_le (n := 1) (by decide), fun L6 hL6 _ => ?_⟩
      have hL6H : H L6 = none := s3.free hL6
      have n46 : L4 ≠ L6 := by
        rintro rfl
        rw [hy] at hL6
        cases hL6
      have n56 : L5 ≠ L6 := by
        rintro rfl
        rw [z5] at hL6
        cases hL6
      have t4 := same_new (o := HO.lst [V.str (S l)]) hL6
      have z6 : upd H3 L6 (.lst [V.str (S l)]) L6 = some (.lst ((List.range (0 + 1)).map fun k => V.str (S (ledM gs l (row.take k))))) := upd_same
      have hy := t4 _ _ hy
      have z5 := t4 _ _ z5
      have td := td.same t4
      have s4 := s3.trans t4
      generalize upd H3 L6 (.lst [V.str (S l)]) = H4 at s4 z5 z6 hy td ⊢
      refine ⟨_, _, _, rfl, ?_⟩
      refine ⟨_, rfl, S row, rfl, ?_⟩
      refine for_it (walk_en row) (fun i σ H' => Same H H' ∧ ∃ xs ys, H' L5 = some (.lst xs) ∧ TdAll K H' xs ((runM gs l row i).ev.map evD) ∧ H' L4 = some (.lst ys) ∧ TdAll K H' ys ((runM gs l row i).st.map itD) ∧
        H' L6 = some (.lst ((List.range (i + 1)).map fun k => V.str (S (ledM gs l (row.take k))))) ∧
        ∃ o3 o7 o8 o9 o10, σ = [some (.ref wd), some (.str (S (ledM gs l (row.take i)))), some (.str (S row)), o3, some (.ref L4), some (.ref L5), some (.ref L6), o7, o8, o9, o10]) ⟨s4, [], ys, z5, .nil, hy, ?_, z6, _, _, _, _, _, rfl⟩ (fun _ _ _ _ _ => trivial) ?_ ?_
      · show TdAll K H4 ys ((webSt l).map itD)
        rw [webSt_it]
        exact td
      · rintro i x σ H5 H5' hi ⟨s5, xs, ys, hx, tx, hy, ty, hv, o3, o7, o8, o9, o10, rfl⟩ ⟨T, rfl, hT, rfl⟩
        have t6 := same_new (o := HO.tup [V.int (i : Nat), V.str (S [row.getD i 0])]) hT
        refine ⟨T, _, rfl, Or.inl (Or.inl upd_same), rfl, _, _, rfl, _, _, rfl, rfl, ?_⟩
        have hx := t6 _ _ hx
        have hy := t6 _ _ hy
        have hv := t6 _ _ hv
        have tx := tx.same t6
        have ty := ty.same t6
        have s6 := s5.trans t6
        generalize upd H5 T (.tup [V.int (i : Nat), V.str (S [row.getD i 0])]) = H6 at s6 hx hy hv tx ty ⊢
        clear t6 s5 hT
        obtain ⟨len1, len2⟩ := run_len gs l row i
        have lx : xs.length = i := by rw [tx.len, List.length_map, len1]
        have ly : ys.length ≤ l.length + i := by rw [ty.len, List.length_map]; exact len2
        have hlen := ledz_len hz (row.take i) l
        rw [List.length_take] at hlen
        have hlz : (S (ledM gs l (row.take i))).length ≤ sizeLine := by
          rw [SX.S_len]
          exact sz_le (by omega)
        have efst := run_fst hz l row i (by omega)
        have efst' := run_fst hz l row (i + 1) (by omega)
        have est : runM gs l row (i + 1) = stepM gs i (row.getD i 0) (runM gs l row i) := rfl
        have hlen' := ledz_len hz (row.take (i + 1)) l
        rw [List.length_take] at hlen'
        rw [est] at efst' ⊢
        generalize hcl : ledM gs l (row.take i) = cl at efst hlen hlz ⊢
        generalize hcl' : ledM gs l (row.take (i + 1)) = cl' at efst' hlen' ⊢
        generalize runM gs l row i = rn at len1 len2 tx ty efst efst' ⊢
        have hw6 := hw.same s6
        have g1 : DGet H6 wd (.str "folds") (some (.ref ld)) := DGet.k (k := .inr "folds") hw6.w
        refine ⟨_, rfl, wd, _, rfl, g1, ld, rfl, Or.inr ⟨_, .inl hw6.l⟩, ?_⟩
        rcases List.eq_nil_or_concat rn.st with e0 | ⟨st, ⟨c, p⟩, e0⟩
        · have ecl : cl = [] := by
            rw [← efst, e0]
            rfl
          subst ecl
          rw [step_nil e0] at efst' ⊢
          have ey : ys = [] := by
            have := ty.len
            rw [e0] at this
            exact List.eq_nil_of_length_eq_zero this
          subst ey
          refine ⟨_, rfl, _, rfl, _, rfl, S [], rfl, hlz, _, rfl, sz_le (n := 2) (by decide), fun pk hpk => ?_⟩
          rw [show Txt.slice (S []) (some (-1)) none = S [] by decide +kernel]
          have tk := same_new (o := HO.tup [V.str (S []), V.str (S [row.getD i 0])]) hpk
          have hnone : valV (tabF gs) [Sum.inr (S []), Sum.inr (S [row.getD i 0])] = none := by
            unfold valV tabF
            rw [List.find?_eq_none.mpr]
            · rfl
            · intro g hg
              obtain ⟨g', _, rfl⟩ := List.mem_map.mp hg
              intro z
              have z' := of_decide_eq_true z
              injection z' with z1 _
              have z2 := SX.S_inj (Sum.inr.inj z1)
              cases z2
          refine ⟨_, DGet.t (k := [Sum.inr (S []), Sum.inr (S [row.getD i 0])]) (tk _ _ hw6.l) upd_same, ?_⟩
          rw [hnone]
          have hx := tk _ _ hx
          have hy := tk _ _ hy
          have hv := tk _ _ hv
          have tx := tx.same tk
          have ty := ty.same tk
          have s6 := s6.trans tk
          generalize upd H6 pk (.tup [V.str (S []), V.str (S [row.getD i 0])]) = H6 at hx hy hv tx ty s6 ⊢
          clear tk hnone
          refine ⟨_, rfl, rfl, _, rfl, ifT rfl ?_⟩
          refine ⟨_, rfl, Or.inl ⟨rfl, _, SqL.of hx⟩, sz_le (n := 1) (by decide), fun e1 he1 => ?_⟩
          have t6 := same_new (o := HO.tup [V.str "stands"]) he1
          have ze : SqT K (upd H6 e1 (.tup [V.str "stands"])) e1 [V.str "stands"] := Or.inl (Or.inl upd_same)
          have hx6 := t6 _ _ hx
          have hy6 := t6 _ _ hy
          have hv6 := t6 _ _ hv
          have tx6 := (tx.same t6).snoc (Td.tup ze (.cons (.str _) .nil))
          have ty6 := ty.same t6
          have s6 := s6.trans t6
          generalize upd H6 e1 (.tup [V.str "stands"]) = H6' at hx6 hy6 hv6 tx6 ty6 s6 ⊢
          refine ⟨L5, _, _, rfl, rfl, hx6, sz_lt (by omega), ?_⟩
          have kp1 : KpT K H6' (upd H6' L5 (.lst (xs ++ [V.ref e1]))) := KpT.lst hx6
          have hx7 : upd H6' L5 (.lst (xs ++ [V.ref e1])) L5 = some (.lst (xs ++ [V.ref e1])) := upd_same
          have hy7 : upd H6' L5 (.lst (xs ++ [V.ref e1])) L4 = some (.lst []) := (upd_ne n45).trans hy6
          have hv7 := (upd_ne (o := .lst (xs ++ [V.ref e1])) (Ne.symm n56)).trans hv6
          have tx7 := tx6.kp kp1
          have ty7 := ty6.kp kp1
          have s7 := push_same (o := .lst (xs ++ [V.ref e1])) hL5H s6
          generalize upd H6' L5 (.lst (xs ++ [V.ref e1])) = H7 at hx7 hy7 hv7 tx7 ty7 s7 ⊢
          refine ⟨_, rfl, rfl, _, rfl, ifT (by decide) ?_⟩
          refine ⟨_, rfl, Or.inl ⟨rfl, _, SqL.of hy7⟩, _, rfl, rfl, _, rfl, ifT rfl ⟨_, rfl, _, rfl, sz_le (n := 2) (by decide), fun q1 hq1 => ?_⟩⟩
          have t8 := same_new (o := HO.tup [V.str "lay", V.int (i : Nat)]) hq1
          have zq : SqT K (upd H7 q1 (.tup [V.str "lay", V.int (i : Nat)])) q1 [V.str "lay", V.int (i : Nat)] := Or.inl (Or.inl upd_same)
          generalize upd H7 q1 (.tup [V.str "lay", V.int (i : Nat)]) = H8 at t8 zq ⊢
          refine ⟨sz_le (n := 2) (by decide), fun q2 hq2 => ?_⟩
          have t9 := same_new (o := HO.tup [V.str (S [row.getD i 0]), V.ref q1]) hq2
          have zp : SqT K (upd H8 q2 (.tup [V.str (S [row.getD i 0]), V.ref q1])) q2 [V.str (S [row.getD i 0]), V.ref q1] := Or.inl (Or.inl upd_same)
          have zq := Same.tup t9 zq
          generalize upd H8 q2 (.tup [V.str (S [row.getD i 0]), V.ref q1]) = H9 at t9 zp zq ⊢
          have t79 := t8.trans t9
          have hy9 := t79 _ _ hy7
          have hx9 := t79 _ _ hx7
          have hv9 := t79 _ _ hv7
          have ty9 := (ty7.same t79).snoc (td_it (b := true) (n := i) zp zq)
          have tx9 := tx7.same t79
          have kp2 : KpT K H9 (upd H9 L4 (.lst ([] ++ [V.ref q2]))) := KpT.lst hy9
          refine ⟨L4, _, _, rfl, rfl, hy9, sz_lt (by decide), ?_⟩
          have hy10 : upd H9 L4 (.lst ([] ++ [V.ref q2])) L4 = some (.lst ([] ++ [V.ref q2])) := upd_same
          have hx10 := (upd_ne (o := .lst ([] ++ [V.ref q2])) (Ne.symm n45)).trans hx9
          have hv10 := (upd_ne (o := .lst ([] ++ [V.ref q2])) (Ne.symm n46)).trans hv9
          have ty10 := ty9.kp kp2
          have tx10 := tx9.kp kp2
          have s10 := push_same (o := .lst ([] ++ [V.ref q2])) hL4 (s7.trans t79)
          generalize upd H9 L4 (.lst ([] ++ [V.ref q2])) = H10 at hy10 hx10 hv10 ty10 tx10 s10 ⊢
          clear tx9 ty9 hv9 hx9 hy9 t79 zq zp t9 t8 s7 ty7 tx7 hv7 hy7 hx7 kp1 kp2 s6 ty6 tx6 hv6 hy6 hx6 t6 ze
          have tx7 : TdAll K H10 (xs ++ [V.ref e1]) ((rn.ev ++ [Ev.st]).map evD) := by
            rw [List.map_append]
            exact tx10
          have ty7 : TdAll K H10 ([] ++ [V.ref q2]) ((rn.st ++ [(row.getD i 0, (⟨true, i⟩ : Spot))]).map itD) := by
            rw [List.map_append]
            exact ty10
          have hlz7 : (rn.st ++ [(row.getD i 0, (⟨true, i⟩ : Spot))]).length ≤ l.length + i + 1 := by
            rw [List.length_append]
            exact Nat.succ_le_succ len2

          refine ⟨⟨_, rfl⟩, _, rfl, L4, rfl, ⟨_, SqL.of hy10⟩, fun L hL => ?_⟩
          refine lc_yes (walk_list (K := K) (a := L4) (xs := ([] ++ [V.ref q2]))) (fun j H' => Same H10 H' ∧ H' L = some (.lst (((rn.st ++ [(row.getD i 0, (⟨true, i⟩ : Spot))]).take j).map fun q => V.str (S [q.1])))) ⟨same_new hL, upd_same⟩ (fun j H' _ q => SqL.of (q.1 _ _ hy10)) ?_ ?_
          · rintro j x G8 G9 hj ⟨g8, hz8⟩ ⟨rfl, hxi⟩
            obtain ⟨d, hd, tdx⟩ := ty7.at hxi
            rw [List.getElem?_map] at hd
            obtain ⟨⟨c, p⟩, hcp, rfl⟩ := Option.map_eq_some_iff.mp hd
            obtain ⟨pa, x1, x2, rfl, hpa, tx1, tx2⟩ := Td.two tdx
            cases tx1.isStr
            refine ⟨pa, _, rfl, Same.tup g8 hpa, rfl, _, _, rfl, _, _, rfl, rfl, rfl, ?_⟩
            refine ⟨_, rfl, _, hz8, sz_lt (by rw [List.length_map, List.length_take]; omega), push_same hL g8, upd_same.trans ?_⟩
            rw [List.take_add_one, hcp, List.map_append]
            rfl
          · rintro G8 ⟨g8, hz8⟩
            have elen : ([] ++ [V.ref q2]).length = (rn.st ++ [(row.getD i 0, (⟨true, i⟩ : Spot))]).length := by
              have := ty7.len
              rwa [List.length_map] at this
            rw [elen, List.take_length] at hz8
            refine ⟨S [], L, (((rn.st ++ [(row.getD i 0, (⟨true, i⟩ : Spot))]).map (·.1)).map fun c => [c]).map S, rfl, rfl, Or.inl (SqL.of (hz8.trans ?_)), ?_, ?_⟩
            · rw [List.map_map, List.map_map, List.map_map]
              rfl
            · rw [ones_sum, SX.S_len, List.length_map, List.length_map, List.length_map]
              show (rn.st ++ [(row.getD i 0, (⟨true, i⟩ : Spot))]).length + (rn.st ++ [(row.getD i 0, (⟨true, i⟩ : Spot))]).length * 0 ≤ _
              omega
            · rw [SX.join_S, joinW_one, efst']
              have gv8 := g8 _ _ hv10
              rw [webs_snoc] at gv8
              refine ⟨_, rfl, Or.inl ⟨rfl, _, SqL.of gv8⟩, _, rfl, L6, _, _, rfl, rfl, gv8, sz_lt (by rw [List.length_append, List.length_map, List.length_range]; show i + 1 ≤ _; omega), ?_⟩
              have kp : KpT K G8 (upd G8 L6 (.lst (((List.range i).map fun k => V.str (S (ledM gs l (row.take k)))) ++ [V.str (S (ledM gs l (row.take i)))] ++ [V.str (S cl')]))) := KpT.lst gv8
              refine ⟨push_same hL6H (s10.trans g8), _, _, (upd_ne n56).trans (g8 _ _ hx10), (tx7.same g8).kp kp, (upd_ne n46).trans (g8 _ _ hy10), (ty7.same g8).kp kp, upd_same.trans ?_, _, _, _, _, _, rfl⟩
              rw [webs_snoc gs l row (i + 1), webs_snoc gs l row i, hcl']
        · rw [List.concat_eq_append] at e0
          have ecl : cl = st.map (·.1) ++ [c] := by
            rw [← efst, e0, List.map_append]
            rfl
          subst ecl
          refine ⟨_, rfl, _, rfl, _, rfl, S (st.map (·.1) ++ [c]), rfl, hlz, _, rfl, sz_le (n := 2) (by decide), fun pk hpk => ?_⟩
          rw [show Txt.slice (S (st.map (·.1) ++ [c])) (some (-1)) none = S [c] from SX.last_snoc _ c]
          have tk := same_new (o := HO.tup [V.str (S [c]), V.str (S [row.getD i 0])]) hpk
          refine ⟨_, DGet.t (k := [Sum.inr (S [c]), Sum.inr (S [row.getD i 0])]) (tk _ _ hw6.l) upd_same, ?_⟩
          rw [tab_val]
          have hx := tk _ _ hx
          have hy := tk _ _ hy
          have hv := tk _ _ hv
          have tx := tx.same tk
          have ty := ty.same tk
          have s6 := s6.trans tk
          generalize upd H6 pk (.tup [V.str (S [c]), V.str (S [row.getD i 0])]) = H6 at hx hy hv tx ty s6 ⊢
          clear tk
          have ty' := ty
          rw [e0, List.map_append] at ty'
          obtain ⟨us, v, rfl, tus, tv⟩ := TdAll.unsnoc (d := itD (c, p)) ty'
          obtain ⟨pa, x1, x2, rfl, hpa, tx1, tx2⟩ := Td.two tv
          rw [List.length_append] at ly
          have ly' : us.length + 1 ≤ l.length + i := ly
          cases e : leftM gs c (row.getD i 0) with
          | none =>
            rw [step_no e0 e] at efst' ⊢
            refine ⟨_, rfl, rfl, _, rfl, ifT rfl ?_⟩
            refine ⟨_, rfl, Or.inl ⟨rfl, _, SqL.of hx⟩, sz_le (n := 1) (by decide), fun e1 he1 => ?_⟩
            have t6 := same_new (o := HO.tup [V.str "stands"]) he1
            have ze : SqT K (upd H6 e1 (.tup [V.str "stands"])) e1 [V.str "stands"] := Or.inl (Or.inl upd_same)
            have hx6 := t6 _ _ hx
            have hy6 := t6 _ _ hy
            have hv6 := t6 _ _ hv
            have tx6 := (tx.same t6).snoc (Td.tup ze (.cons (.str _) .nil))
            have ty6 := ty.same t6
            have s6 := s6.trans t6
            generalize upd H6 e1 (.tup [V.str "stands"]) = H6' at hx6 hy6 hv6 tx6 ty6 s6 ⊢
            refine ⟨L5, _, _, rfl, rfl, hx6, sz_lt (by omega), ?_⟩
            have kp1 : KpT K H6' (upd H6' L5 (.lst (xs ++ [V.ref e1]))) := KpT.lst hx6
            have hx7 : upd H6' L5 (.lst (xs ++ [V.ref e1])) L5 = some (.lst (xs ++ [V.ref e1])) := upd_same
            have hy7 : upd H6' L5 (.lst (xs ++ [V.ref e1])) L4 = some (.lst (us ++ [V.ref pa])) := (upd_ne n45).trans hy6
            have hv7 := (upd_ne (o := .lst (xs ++ [V.ref e1])) (Ne.symm n56)).trans hv6
            have tx7 := tx6.kp kp1
            have ty7 := ty6.kp kp1
            have s7 := push_same (o := .lst (xs ++ [V.ref e1])) hL5H s6
            generalize upd H6' L5 (.lst (xs ++ [V.ref e1])) = H7 at hx7 hy7 hv7 tx7 ty7 s7 ⊢
            refine ⟨_, rfl, rfl, _, rfl, ifT (by decide) ?_⟩
            refine ⟨_, rfl, Or.inl ⟨rfl, _, SqL.of hy7⟩, _, rfl, rfl, _, rfl, ifT rfl ⟨_, rfl, _, rfl, sz_le (n := 2) (by decide), fun q1 hq1 => ?_⟩⟩
            have t8 := same_new (o := HO.tup [V.str "lay", V.int (i : Nat)]) hq1
            have zq : SqT K (upd H7 q1 (.tup [V.str "lay", V.int (i : Nat)])) q1 [V.str "lay", V.int (i : Nat)] := Or.inl (Or.inl upd_same)
            generalize upd H7 q1 (.tup [V.str "lay", V.int (i : Nat)]) = H8 at t8 zq ⊢
            refine ⟨sz_le (n := 2) (by decide), fun q2 hq2 => ?_⟩
            have t9 := same_new (o := HO.tup [V.str (S [row.getD i 0]), V.ref q1]) hq2
            have zp : SqT K (upd H8 q2 (.tup [V.str (S [row.getD i 0]), V.ref q1])) q2 [V.str (S [row.getD i 0]), V.ref q1] := Or.inl (Or.inl upd_same)
            have zq := Same.tup t9 zq
            generalize upd H8 q2 (.tup [V.str (S [row.getD i 0]), V.ref q1]) = H9 at t9 zp zq ⊢
            have t79 := t8.trans t9
            have hy9 := t79 _ _ hy7
            have hx9 := t79 _ _ hx7
            have hv9 := t79 _ _ hv7
            have ty9 := (ty7.same t79).snoc (td_it (b := true) (n := i) zp zq)
            have tx9 := tx7.same t79
            have kp2 : KpT K H9 (upd H9 L4 (.lst ((us ++ [V.ref pa]) ++ [V.ref q2]))) := KpT.lst hy9
            refine ⟨L4, _, _, rfl, rfl, hy9, sz_lt (by rw [List.length_append]; show us.length + 1 ≤ _; omega), ?_⟩
            have hy10 : upd H9 L4 (.lst ((us ++ [V.ref pa]) ++ [V.ref q2])) L4 = some (.lst ((us ++ [V.ref pa]) ++ [V.ref q2])) := upd_same
            have hx10 := (upd_ne (o := .lst ((us ++ [V.ref pa]) ++ [V.ref q2])) (Ne.symm n45)).trans hx9
            have hv10 := (upd_ne (o := .lst ((us ++ [V.ref pa]) ++ [V.ref q2])) (Ne.symm n46)).trans hv9
            have ty10 := ty9.kp kp2
            have tx10 := tx9.kp kp2
            have s10 := push_same (o := .lst ((us ++ [V.ref pa]) ++ [V.ref q2])) hL4 (s7.trans t79)
            generalize upd H9 L4 (.lst ((us ++ [V.ref pa]) ++ [V.ref q2])) = H10 at hy10 hx10 hv10 ty10 tx10 s10 ⊢
            clear tx9 ty9 hv9 hx9 hy9 t79 zq zp t9 t8 s7 ty7 tx7 hv7 hy7 hx7 kp1 kp2 s6 ty6 tx6 hv6 hy6 hx6 t6 ze
            have tx7 : TdAll K H10 (xs ++ [V.ref e1]) ((rn.ev ++ [Ev.st]).map evD) := by
              rw [List.map_append]
              exact tx10
            have ty7 : TdAll K H10 ((us ++ [V.ref pa]) ++ [V.ref q2]) ((rn.st ++ [(row.getD i 0, (⟨true, i⟩ : Spot))]).map itD) := by
              rw [List.map_append]
              exact ty10
            have hlz7 : (rn.st ++ [(row.getD i 0, (⟨true, i⟩ : Spot))]).length ≤ l.length + i + 1 := by
              rw [List.length_append]
              exact Nat.succ_le_succ len2

            refine ⟨⟨_, rfl⟩, _, rfl, L4, rfl, ⟨_, SqL.of hy10⟩, fun L hL => ?_⟩
            refine lc_yes (walk_list (K := K) (a := L4) (xs := (us ++ [V.ref pa] ++ [V.ref q2]))) (fun j H' => Same H10 H' ∧ H' L = some (.lst (((rn.st ++ [(row.getD i 0, (⟨true, i⟩ : Spot))]).take j).map fun q => V.str (S [q.1])))) ⟨same_new hL, upd_same⟩ (fun j H' _ q => SqL.of (q.1 _ _ hy10)) ?_ ?_
            · rintro j x G8 G9 hj ⟨g8, hz8⟩ ⟨rfl, hxi⟩
              obtain ⟨d, hd, tdx⟩ := ty7.at hxi
              rw [List.getElem?_map] at hd
              obtain ⟨⟨c, p⟩, hcp, rfl⟩ := Option.map_eq_some_iff.mp hd
              obtain ⟨pa, x1, x2, rfl, hpa, tx1, tx2⟩ := Td.two tdx
              cases tx1.isStr
              refine ⟨pa, _, rfl, Same.tup g8 hpa, rfl, _, _, rfl, _, _, rfl, rfl, rfl, ?_⟩
              refine ⟨_, rfl, _, hz8, sz_lt (by rw [List.length_map, List.length_take]; omega), push_same hL g8, upd_same.trans ?_⟩
              rw [List.take_add_one, hcp, List.map_append]
              rfl
            · rintro G8 ⟨g8, hz8⟩
              have elen : (us ++ [V.ref pa] ++ [V.ref q2]).length = (rn.st ++ [(row.getD i 0, (⟨true, i⟩ : Spot))]).length := by
                have := ty7.len
                rwa [List.length_map] at this
              rw [elen, List.take_length] at hz8
              refine ⟨S [], L, (((rn.st ++ [(row.getD i 0, (⟨true, i⟩ : Spot))]).map (·.1)).map fun c => [c]).map S, rfl, rfl, Or.inl (SqL.of (hz8.trans ?_)), ?_, ?_⟩
              · rw [List.map_map, List.map_map, List.map_map]
                rfl
              · rw [ones_sum, SX.S_len, List.length_map, List.length_map, List.length_map]
                show (rn.st ++ [(row.getD i 0, (⟨true, i⟩ : Spot))]).length + (rn.st ++ [(row.getD i 0, (⟨true, i⟩ : Spot))]).length * 0 ≤ _
                omega
              · rw [SX.join_S, joinW_one, efst']
                have gv8 := g8 _ _ hv10
                rw [webs_snoc] at gv8
                refine ⟨_, rfl, Or.inl ⟨rfl, _, SqL.of gv8⟩, _, rfl, L6, _, _, rfl, rfl, gv8, sz_lt (by rw [List.length_append, List.length_map, List.length_range]; show i + 1 ≤ _; omega), ?_⟩
                have kp : KpT K G8 (upd G8 L6 (.lst (((List.range i).map fun k => V.str (S (ledM gs l (row.take k)))) ++ [V.str (S (ledM gs l (row.take i)))] ++ [V.str (S cl')]))) := KpT.lst gv8
                refine ⟨push_same hL6H (s10.trans g8), _, _, (upd_ne n56).trans (g8 _ _ hx10), (tx7.same g8).kp kp, (upd_ne n46).trans (g8 _ _ hy10), (ty7.same g8).kp kp, upd_same.trans ?_, _, _, _, _, _, rfl⟩
                rw [webs_snoc gs l row (i + 1), webs_snoc gs l row i, hcl']
          | some z =>
            have hz1 := leftz hz e
            refine ⟨_, rfl, rfl, _, rfl, ifF rfl ?_⟩
            refine ⟨_, rfl, Or.inl ⟨rfl, _, SqL.of hx⟩, _, rfl, rfl, _, rfl, ?_⟩
            have hlast : (us ++ [V.ref pa])[(us ++ [V.ref pa]).length - 1]? = some (.ref pa) := by simp
            have kp1 : KpT K H6 (upd H6 L4 (.lst us)) := KpT.lst hy
            have hx6 : upd H6 L4 (.lst us) L5 = some (.lst xs) := (upd_ne (Ne.symm n45)).trans hx
            have hv6 := (upd_ne (o := .lst us) (Ne.symm n46)).trans hv
            have hy6 : upd H6 L4 (.lst us) L4 = some (.lst us) := upd_same
            have tx6 := tx.kp kp1
            have tus6 := tus.kp kp1
            have tx26 := tx2.kp kp1
            have hpa6 := kp1 _ _ hpa
            have s6 := push_same (o := .lst us) hL4 s6
            match z, hz1, e with
            | [], _, e =>
              rw [step_go e0 e] at efst' ⊢
              refine ifT (by decide +kernel) ?_
              refine ⟨_, rfl, Or.inl ⟨rfl, _, SqL.of hy⟩, L4, _, _, rfl, rfl, hy, hlast, ?_⟩
              rw [List.dropLast_concat]
              generalize upd H6 L4 (.lst us) = H6 at hx6 hv6 hy6 tx6 tus6 tx26 hpa6 s6 ⊢
              refine ⟨pa, _, 1, _, rfl, rfl, hpa6, atI_nat (j := 1) rfl, ?_⟩
              refine ⟨sz_le (n := 2) (by decide), fun e1 he1 => ?_⟩
              have t7 := same_new (o := HO.tup [V.str "goes", x2]) he1
              have ze : SqT K (upd H6 e1 (.tup [V.str "goes", x2])) e1 [V.str "goes", x2] := Or.inl (Or.inl upd_same)
              have hx7 := t7 _ _ hx6
              have hy7 := t7 _ _ hy6
              have hv7 := t7 _ _ hv6
              have tx7 := (tx6.same t7).snoc (Td.two' ze (.str _) (tx26.same t7))
              have tus7 := tus6.same t7
              have s7 := s6.trans t7
              generalize upd H6 e1 (.tup [V.str "goes", x2]) = H7 at hx7 hy7 hv7 tx7 tus7 s7 ⊢
              refine ⟨L5, _, _, rfl, rfl, hx7, sz_lt (by omega), ?_⟩
              have kp2 : KpT K H7 (upd H7 L5 (.lst (xs ++ [V.ref e1]))) := KpT.lst hx7
              have hx8 : upd H7 L5 (.lst (xs ++ [V.ref e1])) L5 = some (.lst (xs ++ [V.ref e1])) := upd_same
              have hy8 : upd H7 L5 (.lst (xs ++ [V.ref e1])) L4 = some (.lst us) := (upd_ne n45).trans hy7
              have hv8 := (upd_ne (o := .lst (xs ++ [V.ref e1])) (Ne.symm n56)).trans hv7
              have tx8 := tx7.kp kp2
              have tus8 := tus7.kp kp2
              have s8 := push_same (o := .lst (xs ++ [V.ref e1])) hL5H s7
              generalize upd H7 L5 (.lst (xs ++ [V.ref e1])) = H8 at hx8 hy8 hv8 tx8 tus8 s8 ⊢
              refine ⟨_, rfl, rfl, _, rfl, ifF (by decide +kernel) ?_⟩
              clear kp2 s7 tus7 tx7 hv7 hy7 hx7 kp1
              have tx7 : TdAll K H8 (xs ++ [V.ref e1]) ((rn.ev ++ [Ev.go p]).map evD) := by
                rw [List.map_append]
                exact tx8
              have hlz7 : st.length ≤ l.length + i + 1 := by
                have := len2
                rw [e0, List.length_append] at this
                omega
              refine ⟨⟨_, rfl⟩, _, rfl, L4, rfl, ⟨_, SqL.of hy8⟩, fun L hL => ?_⟩
              refine lc_yes (walk_list (K := K) (a := L4) (xs := (us))) (fun j H' => Same H8 H' ∧ H' L = some (.lst (((st).take j).map fun q => V.str (S [q.1])))) ⟨same_new hL, upd_same⟩ (fun j H' _ q => SqL.of (q.1 _ _ hy8)) ?_ ?_
              · rintro j x G8 G9 hj ⟨g8, hz8⟩ ⟨rfl, hxi⟩
                obtain ⟨d, hd, tdx⟩ := tus8.at hxi
                rw [List.getElem?_map] at hd
                obtain ⟨⟨c, p⟩, hcp, rfl⟩ := Option.map_eq_some_iff.mp hd
                obtain ⟨pa, x1, x2, rfl, hpa, tx1, tx2⟩ := Td.two tdx
                cases tx1.isStr
                refine ⟨pa, _, rfl, Same.tup g8 hpa, rfl, _, _, rfl, _, _, rfl, rfl, rfl, ?_⟩
                refine ⟨_, rfl, _, hz8, sz_lt (by rw [List.length_map, List.length_take]; omega), push_same hL g8, upd_same.trans ?_⟩
                rw [List.take_add_one, hcp, List.map_append]
                rfl
              · rintro G8 ⟨g8, hz8⟩
                have elen : (us).length = (st).length := by
                  have := tus8.len
                  rwa [List.length_map] at this
                rw [elen, List.take_length] at hz8
                refine ⟨S [], L, (((st).map (·.1)).map fun c => [c]).map S, rfl, rfl, Or.inl (SqL.of (hz8.trans ?_)), ?_, ?_⟩
                · rw [List.map_map, List.map_map, List.map_map]
                  rfl
                · rw [ones_sum, SX.S_len, List.length_map, List.length_map, List.length_map]
                  show (st).length + (st).length * 0 ≤ _
                  omega
                · rw [SX.join_S, joinW_one, efst']
                  have gv8 := g8 _ _ hv8
                  rw [webs_snoc] at gv8
                  refine ⟨_, rfl, Or.inl ⟨rfl, _, SqL.of gv8⟩, _, rfl, L6, _, _, rfl, rfl, gv8, sz_lt (by rw [List.length_append, List.length_map, List.length_range]; show i + 1 ≤ _; omega), ?_⟩
                  have kp : KpT K G8 (upd G8 L6 (.lst (((List.range i).map fun k => V.str (S (ledM gs l (row.take k)))) ++ [V.str (S (ledM gs l (row.take i)))] ++ [V.str (S cl')]))) := KpT.lst gv8
                  refine ⟨push_same hL6H (s8.trans g8), _, _, (upd_ne n56).trans (g8 _ _ hx8), (tx7.same g8).kp kp, (upd_ne n46).trans (g8 _ _ hy8), (tus8.same g8).kp kp, upd_same.trans ?_, _, _, _, _, _, rfl⟩
                  rw [webs_snoc gs l row (i + 1), webs_snoc gs l row i, hcl']
            | [d], _, e =>
              rw [step_tu e0 e] at efst' ⊢
              refine ifF (by rw [show (optZ (.some [d])) = V.str (S [d]) from rfl, str_is_nil]; rfl) ?_
              refine ⟨_, rfl, Or.inl ⟨rfl, _, SqL.of hy⟩, L4, _, _, rfl, rfl, hy, hlast, ?_⟩
              rw [List.dropLast_concat]
              generalize upd H6 L4 (.lst us) = H6 at hx6 hv6 hy6 tx6 tus6 tx26 hpa6 s6 ⊢
              refine ⟨pa, _, 1, _, rfl, rfl, hpa6, atI_nat (j := 1) rfl, ?_⟩
              refine ⟨sz_le (n := 2) (by decide), fun e1 he1 => ?_⟩
              have t7 := same_new (o := HO.tup [V.str "turns", x2]) he1
              have ze : SqT K (upd H6 e1 (.tup [V.str "turns", x2])) e1 [V.str "turns", x2] := Or.inl (Or.inl upd_same)
              have hx7 := t7 _ _ hx6
              have hy7 := t7 _ _ hy6
              have hv7 := t7 _ _ hv6
              have tx7 := (tx6.same t7).snoc (Td.two' ze (.str _) (tx26.same t7))
              have tus7 := tus6.same t7
              have s7 := s6.trans t7
              generalize upd H6 e1 (.tup [V.str "turns", x2]) = H7 at hx7 hy7 hv7 tx7 tus7 s7 ⊢
              refine ⟨L5, _, _, rfl, rfl, hx7, sz_lt (by omega), ?_⟩
              have kp2 : KpT K H7 (upd H7 L5 (.lst (xs ++ [V.ref e1]))) := KpT.lst hx7
              have hx8 : upd H7 L5 (.lst (xs ++ [V.ref e1])) L5 = some (.lst (xs ++ [V.ref e1])) := upd_same
              have hy8 : upd H7 L5 (.lst (xs ++ [V.ref e1])) L4 = some (.lst us) := (upd_ne n45).trans hy7
              have hv8 := (upd_ne (o := .lst (xs ++ [V.ref e1])) (Ne.symm n56)).trans hv7
              have tx8 := tx7.kp kp2
              have tus8 := tus7.kp kp2
              have s8 := push_same (o := .lst (xs ++ [V.ref e1])) hL5H s7
              generalize upd H7 L5 (.lst (xs ++ [V.ref e1])) = H8 at hx8 hy8 hv8 tx8 tus8 s8 ⊢
              refine ⟨_, rfl, rfl, _, rfl, ifT (by show (!decide (V.str (S [d]) = V.str "")) = true; rw [str_is_nil]; rfl) ?_⟩
              refine ⟨_, rfl, Or.inl ⟨rfl, _, SqL.of hy8⟩, _, rfl, rfl, _, rfl, ifF rfl ⟨_, rfl, _, rfl, sz_le (n := 2) (by decide), fun q1 hq1 => ?_⟩⟩
              have t9 := same_new (o := HO.tup [V.str "lay", V.int (i : Nat)]) hq1
              have zq : SqT K (upd H8 q1 (.tup [V.str "lay", V.int (i : Nat)])) q1 [V.str "lay", V.int (i : Nat)] := Or.inl (Or.inl upd_same)
              generalize upd H8 q1 (.tup [V.str "lay", V.int (i : Nat)]) = H9 at t9 zq ⊢
              refine ⟨sz_le (n := 2) (by decide), fun q2 hq2 => ?_⟩
              have t10 := same_new (o := HO.tup [optZ (.some [d]), V.ref q1]) hq2
              have zp : SqT K (upd H9 q2 (.tup [optZ (.some [d]), V.ref q1])) q2 [optZ (.some [d]), V.ref q1] := Or.inl (Or.inl upd_same)
              have zq := Same.tup t10 zq
              generalize upd H9 q2 (.tup [optZ (.some [d]), V.ref q1]) = H10 at t10 zp zq ⊢
              have t810 := t9.trans t10
              have hy10 := t810 _ _ hy8
              have hx10 := t810 _ _ hx8
              have hv10 := t810 _ _ hv8
              have tx10 := tx8.same t810
              have tus10 := (tus8.same t810).snoc (td_it (c := d) (b := true) (n := i) zp zq)
              have kp3 : KpT K H10 (upd H10 L4 (.lst (us ++ [V.ref q2]))) := KpT.lst hy10
              refine ⟨L4, _, _, rfl, rfl, hy10, sz_lt (by omega), ?_⟩
              have hy11 : upd H10 L4 (.lst (us ++ [V.ref q2])) L4 = some (.lst (us ++ [V.ref q2])) := upd_same
              have hx11 := (upd_ne (o := .lst (us ++ [V.ref q2])) (Ne.symm n45)).trans hx10
              have hv11 := (upd_ne (o := .lst (us ++ [V.ref q2])) (Ne.symm n46)).trans hv10
              have tx11 := tx10.kp kp3
              have tus11 := tus10.kp kp3
              have s11 := push_same (o := .lst (us ++ [V.ref q2])) hL4 (s8.trans t810)
              generalize upd H10 L4 (.lst (us ++ [V.ref q2])) = H11 at hy11 hx11 hv11 tx11 tus11 s11 ⊢
              clear kp3 tus10 tx10 hv10 hx10 hy10 t810 zq zp t10 t9 s8 tus8 tx8 hv8 hy8 hx8 kp2 s7 tus7 tx7 hv7 hy7 hx7 kp1
              have tx7 : TdAll K H11 (xs ++ [V.ref e1]) ((rn.ev ++ [Ev.tu p]).map evD) := by
                rw [List.map_append]
                exact tx11
              have ty7 : TdAll K H11 (us ++ [V.ref q2]) ((st ++ [(d, (⟨true, i⟩ : Spot))]).map itD) := by
                rw [List.map_append]
                exact tus11
              have hlz7 : (st ++ [(d, (⟨true, i⟩ : Spot))]).length ≤ l.length + i + 1 := by
                have := len2
                rw [e0, List.length_append] at this
                rw [List.length_append]
                show st.length + 1 ≤ _
                have h1 : st.length + 1 ≤ l.length + i := this
                omega
              refine ⟨⟨_, rfl⟩, _, rfl, L4, rfl, ⟨_, SqL.of hy11⟩, fun L hL => ?_⟩
              refine lc_yes (walk_list (K := K) (a := L4) (xs := (us ++ [V.ref q2]))) (fun j H' => Same H11 H' ∧ H' L = some (.lst (((st ++ [(d, (⟨true, i⟩ : Spot))]).take j).map fun q => V.str (S [q.1])))) ⟨same_new hL, upd_same⟩ (fun j H' _ q => SqL.of (q.1 _ _ hy11)) ?_ ?_
              · rintro j x G8 G9 hj ⟨g8, hz8⟩ ⟨rfl, hxi⟩
                obtain ⟨d, hd, tdx⟩ := ty7.at hxi
                rw [List.getElem?_map] at hd
                obtain ⟨⟨c, p⟩, hcp, rfl⟩ := Option.map_eq_some_iff.mp hd
                obtain ⟨pa, x1, x2, rfl, hpa, tx1, tx2⟩ := Td.two tdx
                cases tx1.isStr
                refine ⟨pa, _, rfl, Same.tup g8 hpa, rfl, _, _, rfl, _, _, rfl, rfl, rfl, ?_⟩
                refine ⟨_, rfl, _, hz8, sz_lt (by rw [List.length_map, List.length_take]; omega), push_same hL g8, upd_same.trans ?_⟩
                rw [List.take_add_one, hcp, List.map_append]
                rfl
              · rintro G8 ⟨g8, hz8⟩
                have elen : (us ++ [V.ref q2]).length = (st ++ [(d, (⟨true, i⟩ : Spot))]).length := by
                  have := ty7.len
                  rwa [List.length_map] at this
                rw [elen, List.take_length] at hz8
                refine ⟨S [], L, (((st ++ [(d, (⟨true, i⟩ : Spot))]).map (·.1)).map fun c => [c]).map S, rfl, rfl, Or.inl (SqL.of (hz8.trans ?_)), ?_, ?_⟩
                · rw [List.map_map, List.map_map, List.map_map]
                  rfl
                · rw [ones_sum, SX.S_len, List.length_map, List.length_map, List.length_map]
                  show (st ++ [(d, (⟨true, i⟩ : Spot))]).length + (st ++ [(d, (⟨true, i⟩ : Spot))]).length * 0 ≤ _
                  omega
                · rw [SX.join_S, joinW_one, efst']
                  have gv8 := g8 _ _ hv11
                  rw [webs_snoc] at gv8
                  refine ⟨_, rfl, Or.inl ⟨rfl, _, SqL.of gv8⟩, _, rfl, L6, _, _, rfl, rfl, gv8, sz_lt (by rw [List.length_append, List.length_map, List.length_range]; show i + 1 ≤ _; omega), ?_⟩
                  have kp : KpT K G8 (upd G8 L6 (.lst (((List.range i).map fun k => V.str (S (ledM gs l (row.take k)))) ++ [V.str (S (ledM gs l (row.take i)))] ++ [V.str (S cl')]))) := KpT.lst gv8
                  refine ⟨push_same hL6H (s11.trans g8), _, _, (upd_ne n56).trans (g8 _ _ hx11), (tx7.same g8).kp kp, (upd_ne n46).trans (g8 _ _ hy11), (ty7.same g8).kp kp, upd_same.trans ?_, _, _, _, _, _, rfl⟩
                  rw [webs_snoc gs l row (i + 1), webs_snoc gs l row i, hcl']
      · rintro σ H5 ⟨s5, xs, ys, hx, tx, hy, ty, hv, o3, o7, o8, o9, o10, rfl⟩
        obtain ⟨len1, len2⟩ := run_len gs l row row.length
        refine ⟨_, rfl, L6, _, rfl, Or.inl ⟨SqL.of hv, fun p0 hp0 => ?_⟩⟩
        have t6 := same_new (o := HO.tup ((List.range (row.length + 1)).map fun k => V.str (S (ledM gs l (row.take k))))) hp0
        have y0 : SqT K (upd H5 p0 (.tup ((List.range (row.length + 1)).map fun k => V.str (S (ledM gs l (row.take k)))))) p0 ((List.range (row.length + 1)).map fun k => V.str (S (ledM gs l (row.take k)))) := Or.inl (Or.inl upd_same)
        generalize upd H5 p0 (.tup ((List.range (row.length + 1)).map fun k => V.str (S (ledM gs l (row.take k))))) = H6 at t6 y0 ⊢
        refine ⟨_, rfl, L5, _, rfl, Or.inl ⟨SqL.of (t6 _ _ hx), fun p1 hp1 => ?_⟩⟩
        have t7 := same_new (o := HO.tup xs) hp1
        have y1 : SqT K (upd H6 p1 (.tup xs)) p1 xs := Or.inl (Or.inl upd_same)
        generalize upd H6 p1 (.tup xs) = H7 at t7 y1 ⊢
        have t57 := t6.trans t7
        have hy7 := t57 _ _ hy
        have ty7 := ty.same t57
        refine ⟨_, rfl, L4, rfl, ⟨_, SqL.of hy7⟩, fun L3 hL3 => ?_⟩
        refine lc_yes (walk_list (K := K) (a := L4) (xs := ys)) (fun i H' => Same H7 H' ∧ ∃ zs, H' L3 = some (.lst zs) ∧ TdAll K H' zs (((runM gs l row row.length).st.take i).map fun q => spD q.2)) ⟨same_new hL3, [], upd_same, .nil⟩ (fun i H' _ q => SqL.of (q.1 _ _ hy7)) ?_ ?_
        · rintro i x H8 H9 hi ⟨s8, zs, hz8, tz⟩ ⟨rfl, hxi⟩
          obtain ⟨d, hd, tdx⟩ := ty7.at hxi
          rw [List.getElem?_map] at hd
          obtain ⟨⟨c, p⟩, hcp, rfl⟩ := Option.map_eq_some_iff.mp hd
          obtain ⟨pa, x1, x2, rfl, hpa, tx1, tx2⟩ := Td.two tdx
          refine ⟨pa, _, rfl, Same.tup s8 hpa, rfl, _, _, rfl, _, _, rfl, rfl, rfl, ?_⟩
          have kp : KpT K H9 (upd H9 L3 (.lst (zs ++ [x2]))) := KpT.lst hz8
          have lz : zs.length ≤ i := by
            rw [tz.len, List.length_map, List.length_take]
            omega
          have li : i < l.length + row.length := by
            have := ty.len
            rw [List.length_map] at this
            omega
          refine ⟨_, rfl, zs, hz8, sz_lt (by omega), push_same hL3 s8, _, upd_same, ?_⟩
          rw [List.take_add_one, hcp, List.map_append]
          exact (tz.kp kp).snoc ((tx2.same s8).kp kp)
        · rintro H8 ⟨s8, zs, hz8, tz⟩
          have elen : ys.length = (runM gs l row row.length).st.length := by
            rw [ty.len, List.length_map]
          rw [elen, List.take_length] at tz
          refine ⟨L3, _, rfl, Or.inl ⟨SqL.of hz8, fun p2 hp2 => ?_⟩⟩
          have t9 := same_new (o := HO.tup zs) hp2
          have y2 : SqT K (upd H8 p2 (.tup zs)) p2 zs := Or.inl (Or.inl upd_same)
          generalize upd H8 p2 (.tup zs) = H9 at t9 y2 ⊢
          refine ⟨sz_le (n := 3) (by decide), fun T hT => ?_⟩
          have t10 := same_new (o := HO.tup [V.ref p0, V.ref p1, V.ref p2]) hT
          have t810 := t9.trans t10
          have t710 := s8.trans t810
          have t610 := t7.trans t710
          have t510 := t6.trans t610
          refine q _ _ (s5.trans t510) (.tup (Or.inl (Or.inl upd_same)) (.cons (.tup (Same.tup t610 y0) ?_) (.cons (.tup (Same.tup t710 y1) (tx.same t510)) (.cons (.tup (Same.tup t10 y2) ((tz.same t9).same t10)) .nil))))
          have := TdAll.of_strs (K := K) (H := upd H9 T (.tup [V.ref p0, V.ref p1, V.ref p2])) (xs := (websM gs l row).map S)
          unfold websM at this ⊢
          rw [List.map_map, List.map_map, List.map_map, List.map_map] at this
          rw [List.map_map]
          exact this
end
end Lw

namespace Mq
open PySem PySem.Spec PyProof.Rows L2
/-! ### sorted(xs), xs a list of tuples of three texts -/
def txt3 (x : Str × Str × Str) : List (Int ⊕ List Nat) := [.inr x.1.cps.toList, .inr x.2.1.cps.toList, .inr x.2.2.cps.toList]
def ltS3 (x y : Str × Str × Str) : Bool := (PyProof.Rows.listOrd PyProof.Rows.itemOrd).blt (txt3 x) (txt3 y)
def Is3 (H : Hp) (f : Addr → Str × Str × Str) (b : Addr) : Prop := H b = some (.tup [.str (f b).1, .str (f b).2.1, .str (f b).2.2])
def rSorted3 (K : PySem.W.Frag) : List V → Hp → VK → Prop := fun xs H Q => ∃ (a : Addr) (as : List Addr) (f : Addr → Str × Str × Str), xs = [.ref a] ∧ SqL K H a (as.map V.ref) ∧ (∀ b ∈ as, Is3 H f b) ∧
  ∀ (qs : List Addr) (p : Addr), qs.Perm as → (∀ i j, i ≤ j → j < qs.length → ltS3 (f (qs.getD j 0)) (f (qs.getD i 0)) = false) → H p = none → Q (.ref p) (upd H p (.lst (qs.map V.ref)))
theorem vals_refs : ∀ {as : List Addr} {us : List Value}, Vals (as.map V.ref) us → us = as.map Value.ref
  | [], _, .nil => rfl
  | b :: as, _, @Paired.cons _ _ _ _ y _ _ r rr => by
    have e : y = Value.ref b := r
    rw [e, vals_refs rr]
    rfl
section
variable {X : Cx}
theorem call_sorted3 : CallR X (.builtin "sorted") (rSorted3 X.K) := by
  intro pins s σ H xs us Q I r q
  obtain ⟨a, as, f, rfl, ha, h3, q⟩ := q
  obtain ⟨u, rfl, rx⟩ := vals1 r
  cases rx
  obtain ⟨its, rv, hl, hz⟩ := I.list ha
  have ei : its = as.map Value.ref := vals_refs rv
  subst ei
  have obj : ∀ b ∈ as, ∃ (ob : Obj) (n : Nat) (t1 t2 t3 : Tok), s.heap.get? b = some ob ∧ ob.cls = .type "tuple" ∧ ob.data = .seq #[.str (f b).1 t1, .str (f b).2.1 t2, .str (f b).2.2 t3] n := by
    intro b hb
    obtain ⟨_, its, r2, ob, h1, h2, n, h4⟩ := (show ObjOk X.prog X.w H s.heap b (.tup [.str (f b).1, .str (f b).2.1, .str (f b).2.2]) from I.hok b _ (h3 b hb))
    cases r2 with
    | cons a1 r2 =>
      cases r2 with
      | cons a2 r2 =>
        cases r2 with
        | cons a3 r2 =>
          cases r2
          obtain ⟨t1, rfl⟩ := a1
          obtain ⟨t2, rfl⟩ := a2
          obtain ⟨t3, rfl⟩ := a3
          exact ⟨ob, n, t1, t2, t3, h1, h2, h4⟩
  have tups : ∀ l : List Addr, (∀ b ∈ l, b ∈ as) → ∃ fs, PyProof.Rows.TupsOf s.heap (fun _ => true) (l.map Value.ref) fs := by
    intro l
    induction l with
    | nil => intro _; exact ⟨[], .nil⟩
    | cons b l ih =>
      intro hl
      obtain ⟨fs, hf⟩ := ih fun x hx => hl x (List.mem_cons_of_mem _ hx)
      obtain ⟨ob, n, t1, t2, t3, h1, h2, h4⟩ := obj b (hl b List.mem_cons_self)
      exact ⟨_, .cons ⟨b, ob, _, n, rfl, h1, h2, h4, rfl, fun z => (by cases z), fun _ => ⟨_, _, rfl⟩⟩ hf⟩
  obtain ⟨fs, hfs⟩ := tups as fun _ h => h
  have keyC : ∀ b ∈ as, PyProof.Rows.G.tupKeyC s.heap (fun _ => true) (.ref b) = some (txt3 (f b)) := by
    intro b hb
    obtain ⟨ob, n, t1, t2, t3, h1, h2, h4⟩ := obj b hb
    have hT : PyProof.Rows.G.isTupObj s.heap (.ref b) = true := by
      simp [PyProof.Rows.G.isTupObj, h1, h2]
    unfold PyProof.Rows.G.tupKeyC
    rw [if_pos hT]
    simp only [PyProof.Rows.tupKey, h1, h4]
    rfl
  refine PyProof.Rows.G.sorted_tups (vs := as.map Value.ref) hl.isList hfs (fun v hv => ?_) (by rw [List.length_map] at hz ⊢; exact hz) fun st' hp hs _ => ?_
  · obtain ⟨b, hb, rfl⟩ := List.mem_map.mp hv
    exact ⟨_, keyC b hb⟩
  obtain ⟨e', he'⟩ := PyProof.Rows.sortedAll_at s.heap (as.map Value.ref) ((arrOf st').map (·.2))
  have mem : ∀ p ∈ (arrOf st').toList, p.1 = p.2 ∧ p.1 ∈ as.map Value.ref := fun p hp' => by
    have h1 := (hp.toList.mem_iff (a := p)).mp hp'
    rw [PyProof.Rows.pairsOf_toList] at h1
    exact PyProof.Rows.mem_zip_self h1
  obtain ⟨qs, hq1, hq2⟩ : ∃ qs : List Addr, (arrOf st').toList.map (·.2) = qs.map Value.ref ∧ qs.Perm as := by
    have h1 : ((arrOf st').toList.map (·.2)).Perm (as.map Value.ref) := by
      have h2 := hp.toList.map (fun p : Keyed => p.2)
      rw [PyProof.Rows.pairsOf_toList] at h2
      rw [List.map_snd_zip (Nat.le_refl _)] at h2
      exact h2
    exact perm_back h1
  have hql : qs.length = as.length := hq2.length_eq
  have harr : (arrOf st').toList.length = qs.length := by
    have h1 := congrArg List.length hq1
    rw [List.length_map, List.length_map] at h1
    exact h1
  have hkk : ∀ i, i < qs.length → PyProof.Rows.KK (PyProof.Rows.G.tupKindC s.heap fun _ => true) (arrOf st') i = txt3 (f (qs.getD i 0)) := by
    intro i hi
    have hi' : i < (arrOf st').toList.length := by omega
    have e1 : (arrOf st')[i]? = some (arrOf st').toList[i] := by
      rw [← Array.getElem?_toList, List.getElem?_eq_getElem hi']
    obtain ⟨m1, m2⟩ := mem _ (List.getElem_mem hi')
    have e2 : (arrOf st').toList[i].2 = .ref (qs.getD i 0) := by
      have h1 := congrArg (fun l => l[i]?) hq1
      simp only [List.getElem?_map, List.getElem?_eq_getElem hi', List.getElem?_eq_getElem hi, Option.map_some, Option.some.injEq] at h1
      rw [h1, List.getD_eq_getElem?_getD, List.getElem?_eq_getElem hi]
      rfl
    have hin : qs.getD i 0 ∈ as := hq2.mem_iff.mp (by rw [List.getD_eq_getElem?_getD, List.getElem?_eq_getElem hi]; exact List.getElem_mem hi)
    unfold PyProof.Rows.KK
    rw [e1]
    show (PyProof.Rows.G.tupKeyC _ _ (arrOf st').toList[i].1).getD _ = _
    rw [m1, e2, keyC _ hin]
    rfl
  have srt : ∀ i j, i ≤ j → j < qs.length → ltS3 (f (qs.getD j 0)) (f (qs.getD i 0)) = false := by
    intro i j hij hj
    have h1 := hs i j hij (by rw [PyProof.Rows.pairsOf_size, List.length_map]; omega)
    rw [hkk i (by omega), hkk j hj] at h1
    exact h1
  have vals : ∀ l : List Addr, Vals (l.map V.ref) (l.map Value.ref) := fun l => by
    induction l with
    | nil => exact .nil
    | cons b l ih => exact .cons rfl ih
  have hout : ((arrOf st').map (·.2)).toList = qs.map Value.ref := by
    rw [Array.toList_map]
    exact hq1
  have hz2 : (qs.map V.ref).length ≤ sizeLine := by
    rw [List.length_map, hql]
    rw [List.length_map] at hz
    exact hz
  have fresh := I.hok.fresh (Nat.le_succ s.heap.objs.size)
  refine ⟨.ref (s.heap.objs.size + 1), upd H (s.heap.objs.size + 1) (.lst (qs.map V.ref)), ?_, rfl, q qs _ hq2 srt fresh⟩
  refine I.laid (t' := s.toks) (fun b u e => PyProof.Rows.sortedAll_old e) (Nat.le_succ _) ⟨hz2, qs.map Value.ref, e', vals qs, ?_⟩
  rw [← hout, Array.toArray_toList]
  exact he'
end
end Mq

namespace Lw
open PySem PySem.Spec PyProof.Rows L2 Mq
open SX (S)
/-! ### the book that is drawn -/
def menuW : List (List Nat) := [[97, 98], [97, 98], [97, 120], [97, 98, 99]]
theorem menu_ok : ∀ sg ∈ menuW, SgOk sg ∧ sg.Nodup ∧ sg.length ≤ 3 := by
  intro sg h
  have h1 : (menuW.all fun sg => decide (0 < sg.length) && (decide (sg.length ≤ 3) && (sg.all (fun c => decide (c < 128)) && (lettersB sg && decide sg.Nodup)))) = true := by decide +kernel
  have h2 := List.all_eq_true.mp h1 sg h
  obtain ⟨a, h2⟩ := Bool.and_eq_true_iff.mp h2
  obtain ⟨b, h2⟩ := Bool.and_eq_true_iff.mp h2
  obtain ⟨c, h2⟩ := Bool.and_eq_true_iff.mp h2
  obtain ⟨d, e⟩ := Bool.and_eq_true_iff.mp h2
  have b' := of_decide_eq_true b
  exact ⟨⟨of_decide_eq_true a, by omega, fun x hx => of_decide_eq_true (List.all_eq_true.mp c x hx), d⟩, of_decide_eq_true e, b'⟩
def keyN (g : Fd) : Nat × Nat := (g.x, g.y)
def Apart (gs : List Fd) : Prop := gs.Pairwise fun a b => keyN a ≠ keyN b
structure GsOk (sg : List Nat) (gs : List Fd) : Prop where
  few : gs.length ≤ 200
  ok : ∀ f ∈ gs, fdOk sg f
  nd : Apart gs
theorem nd_inj {l : List Nat} (h : l.Nodup) {a b : Nat} (ha : a < l.length) (hb : b < l.length) (e : l.getD a 0 = l.getD b 0) : a = b := by
  rw [List.getD_eq_getElem?_getD, List.getD_eq_getElem?_getD, List.getElem?_eq_getElem ha, List.getElem?_eq_getElem hb] at e
  refine (List.getElem?_inj ha h).mp ?_
  rw [List.getElem?_eq_getElem ha, List.getElem?_eq_getElem hb]
  exact congrArg some e
theorem getD_mem {l : List Nat} {a : Nat} (ha : a < l.length) : l.getD a 0 ∈ l := by
  rw [List.getD_eq_getElem?_getD, List.getElem?_eq_getElem ha]
  exact List.getElem_mem ha
/-- what is drawn ahead of row i, column j -/
structure Part (sg : List Nat) (i j : Nat) (gs : List Fd) : Prop where
  len : gs.length ≤ 3 * i + j
  ok : ∀ f ∈ gs, fdOk sg f
  nd : Apart gs
  low : ∀ g ∈ gs, ∃ a b, a < sg.length ∧ b < sg.length ∧ g.x = sg.getD a 0 ∧ g.y = sg.getD b 0 ∧ (a < i ∨ (a = i ∧ b < j))
theorem Part.start (sg : List Nat) : Part sg 0 0 [] := ⟨Nat.zero_le _, (fun _ h => by cases h), .nil, fun _ h => by cases h⟩
theorem Part.skip {sg : List Nat} {i j : Nat} {gs : List Fd} (p : Part sg i j gs) : Part sg i (j + 1) gs :=
  ⟨by have := p.len; omega, p.ok, p.nd, fun g hg => by
    obtain ⟨a, b, h1, h2, h3, h4, h5⟩ := p.low g hg
    exact ⟨a, b, h1, h2, h3, h4, by omega⟩⟩
theorem Part.row {sg : List Nat} {i : Nat} {gs : List Fd} (p : Part sg i sg.length gs) (h3 : sg.length ≤ 3) : Part sg (i + 1) 0 gs :=
  ⟨by have := p.len; omega, p.ok, p.nd, fun g hg => by
    obtain ⟨a, b, h1, h2, h3, h4, h5⟩ := p.low g hg
    exact ⟨a, b, h1, h2, h3, h4, by omega⟩⟩
theorem Part.other {sg : List Nat} {i j : Nat} {gs : List Fd} (p : Part sg i j gs) (hn : sg.Nodup) (hi : i < sg.length) (hj : j < sg.length) : ∀ g ∈ gs, keyN g ≠ (sg.getD i 0, sg.getD j 0) := by
  intro g hg e
  obtain ⟨a, b, h1, h2, h3, h4, h5⟩ := p.low g hg
  injection e with e1 e2
  have := nd_inj hn h1 hi (h3.symm.trans e1)
  have := nd_inj hn h2 hj (h4.symm.trans e2)
  omega
theorem Part.put {sg z : List Nat} {i j : Nat} {gs : List Fd} (p : Part sg i j gs) (hn : sg.Nodup) (hi : i < sg.length) (hj : j < sg.length) (hz : z = [] ∨ ∃ c ∈ sg, z = [c]) :
    Part sg i (j + 1) (gs ++ [⟨sg.getD i 0, sg.getD j 0, z⟩]) := by
  refine ⟨by have := p.len; rw [List.length_append]; show gs.length + 1 ≤ _; omega, fun f hf => ?_, ?_, fun g hg => ?_⟩
  · rcases List.mem_append.mp hf with hf | hf
    · exact p.ok f hf
    · rw [List.mem_singleton.mp hf]
      exact ⟨getD_mem hi, getD_mem hj, hz⟩
  · refine List.pairwise_append.mpr ⟨p.nd, List.pairwise_singleton _ _, fun a ha b hb => ?_⟩
    rw [List.mem_singleton.mp hb]
    exact p.other hn hi hj a ha
  · rcases List.mem_append.mp hg with hg | hg
    · exact p.skip.low g hg
    · rw [List.mem_singleton.mp hg]
      exact ⟨i, j, hi, hj, rfl, rfl, Or.inr ⟨rfl, Nat.lt_succ_self j⟩⟩
theorem tab_new {gs : List Fd} {x y : Nat} (h : ∀ g ∈ gs, keyN g ≠ (x, y)) : ∀ p ∈ tabF gs, p.1 ≠ [Sum.inr (S [x]), Sum.inr (S [y])] := by
  intro p hp e
  obtain ⟨g, hg, rfl⟩ := List.mem_map.mp hp
  injection e with e1 e2
  injection e2 with e2 _
  exact h g hg (Prod.ext (S_one.mp (Sum.inr.inj e1)) (S_one.mp (Sum.inr.inj e2)))
theorem new_ne {D C : Addr} {T : Nat} {H : Hp} {q : Addr} (k : DeckAt D C T H) (h : H q = none) : q ≠ D ∧ q ≠ C := by
  obtain ⟨_, _, _, e1, e2, _⟩ := k.ex
  refine ⟨?_, ?_⟩
  · rintro rfl
    rw [h] at e1
    cases e1
  · rintro rfl
    rw [h] at e2
    cases e2

def spBookL : Sp := fun vs H Q _ => ∃ (D C : Addr) (T : Nat) (sg : List Nat), vs = [.ref D, .str (S sg)] ∧ sg ∈ menuW ∧ DeckAt D C T H ∧ T ≤ 900000 ∧
  ∀ H' wd ld gs, GsOk sg gs → WAt H' wd ld sg gs → DeckAt D C (T + 40) H' → Off D C H H' → Q (.ref wd) H'
/-- where the inner loop stands -/
structure Bk (σ : L2.St) (sg : List Nat) (way x y : Nat) : Prop where
  h1 : σ[1]? = some (some (.str (S sg)))
  h2 : σ[2]? = some (some (.int (way : Nat)))
  h4 : σ[4]? = some (some (.str (S [x])))
  h5 : σ[5]? = some (some (.str (S [y])))
  pos : 0 < sg.length
  few : sg.length ≤ 10
def tGone : TE := fun σ H Q => (∃ sg way x y, Bk σ sg way x y) ∧ ∀ b, Q (.bl b) H
def tBook6 : TT := fun σ H Q => (∃ sg way x y, Bk σ sg way x y) ∧ (∃ b : Bool, σ[6]? = some (some (.bl b))) ∧ ∀ b, Q b H
def tBook5 : TT := fun σ H Q => (∃ sg way x y, Bk σ sg way x y) ∧ ∀ b, Q b H
def tBookD : TT := fun σ H Q => ∃ (D C : Addr) (T way : Nat), σ[0]? = some (some (.ref D)) ∧ σ[2]? = some (some (.int (way : Nat))) ∧ DeckAt D C T H ∧ T ≤ 1000000 ∧ (Q false H) ∧ ∀ H' b, DeckAt D C (T + 1) H' → Off D C H H' → Q b H'
section
variable {P : Program} {w : World} {K : PySem.W.Frag} {mg : Str → Option Value} {base : Heap}
theorem ok_law_book {f fD fP : Addr} {fd fdD fdP : FuncData} (F : Fun K "_law_book" "_law_book" s__law_book f fd)
    (FD : Fun K "_law_draw" "_law_draw" s__law_draw fD fdD) (gD : mg "_law_draw" = some (.ref fD)) (bD : Binds K fdD ["_law_deck_here", "_law_many"] []) (GD : FnOk P w K mg base CX0 1 fD fdD ["_law_deck_here", "_law_many"] spDraw)
    (FP : Fun K "_law_pick" "_law_pick" s__law_pick fP fdP) (gP : mg "_law_pick" = some (.ref fP)) (bP : Binds K fdP ["_law_deck_here", "_law_some"] []) (GP : FnOk P w K mg base CX0 2 fP fdP ["_law_deck_here", "_law_some"] spPick) :
    FnOk P w K mg base CX0 3 f fd ["_law_deck_here", "_law_signs"] spBookL := by
  refine F.ok sc__law_book (fun vs H Q E h => ?_) (fun cdv A outer s H vs Q E hr h => ?_)
  · obtain ⟨_, _, _, _, rfl, _⟩ := h
    rfl
  · obtain ⟨D, C, T, sg, rfl, hsg, hdk, hT, q⟩ := h
    obtain ⟨hs, hnd, h3⟩ := menu_ok sg hsg
    have hu1 : (A.deeper (envOfC "_law_book" (defScope s__law_book) s.heap.objs.size f cdv)).units + 1 < cLine := by
      have := hr.units
      omega
    refine ⟨_, (pss_cons (ps_par (i := 2) (j := 3) rfl sc__law_book.nd rfl rfl (by decide) rfl rfl (pa_cons (pe_call GD (hr.mono (by decide)) (by rfl) gD FD.kp bD .nil pass0 (pa_cons (pv 0) (pa_cons pe_int pa_nil))) (pa_cons pe_dnewT pa_nil)) (by rfl))
      (pss_cons (ps_for PassesOwn.never rfl (pi_str (pv 1)) (pg_name (i := 4) sc__law_book.nd rfl (Or.inl rfl))
        (pss_one (ps_for PassesOwn.never rfl (pi_str (pv 1)) (pg_name (i := 5) sc__law_book.nd rfl (Or.inl rfl))
          (pss_cons (ps_set (i := 6) sc__law_book.nd rfl (Or.inl rfl) (pe_or
              (PE_imp (t' := tGone) (pe_and (pe_cmpR op_eq (pv 2) pe_int (nomark _)) (pe_and (pe_cmpR op_ne (pv 4) (pv 5) (nomark _)) (pe_one (pe_cmpR op_eq (pv 5) (pe_ix ix_str (pv 1) (pe_un un_neg pe_int) (fun _ _ => rfl)) (nomark _))))) (fun σ H Q h => by
                obtain ⟨⟨sg, way, x, y, k⟩, q⟩ := h
                have hlz : (S sg).length ≤ sizeLine := by
                  rw [SX.S_len]
                  exact sz_le (by have := k.few; omega)
                obtain ⟨u, z, e⟩ : ∃ u z, sg = u ++ [z] := by
                  rcases List.eq_nil_or_concat sg with e | ⟨u, z, e⟩
                  · have := k.pos
                    rw [e] at this
                    cases this
                  · exact ⟨u, z, by rw [e, List.concat_eq_append]⟩
                refine ⟨_, k.h2, rfl, _, rfl, ite2 (fun _ => ⟨_, k.h4, _, k.h5, rfl, _, rfl, ite2 (fun _ => ⟨_, k.h5, _, k.h1, _, rfl, S sg, -1, z, rfl, rfl, hlz, by rw [e]; exact atI_last u z, rfl, q _⟩) (fun _ => q _)⟩) (fun _ => q _)⟩))
              (pe_one (PE_imp (t' := tGone) (pe_and (pe_cmpR op_eq (pv 2) pe_int (nomark _)) (pe_one (pe_cmpR op_eq (pe_op op_add_str (pv 4) (pv 5)) (pe_slice C8.sl_txt (pv 1) po_none (po_some pe_int)) (nomark _)))) (fun σ H Q h => by
                obtain ⟨⟨sg, way, x, y, k⟩, q⟩ := h
                have hlz : (S sg).length ≤ sizeLine := by
                  rw [SX.S_len]
                  exact sz_le (by have := k.few; omega)
                exact ⟨_, k.h2, rfl, _, rfl, ite2 (fun _ => ⟨_, k.h4, _, k.h5, S [x], S [y], rfl, rfl, sz_le (n := 2) (by decide), _, k.h1, 2, rfl, S sg, rfl, hlz, rfl, q _⟩) (fun _ => q _)⟩)))))
          (pss_one (ps_if (PT_imp (t' := tBook6) (PW.pt (pw_or (PW.pt (pw_and (pt_cmpR op_eq (pv 2) pe_int (nomark _)) (pw_and1 (pt_cmpR op_eq (pv 4) (pv 5) (nomark _))))) (pw_or1 (pt_val (pv 6))))) (fun σ H Q h => by
                obtain ⟨⟨sg, way, x, y, k⟩, ⟨b, h6⟩, q⟩ := h
                exact ⟨_, k.h2, rfl, _, rfl, ite2 (fun _ => ⟨_, k.h4, _, k.h5, rfl, _, rfl, ite2 (fun _ => q _) (fun _ => ⟨_, h6, _, rfl, q _⟩)⟩) (fun _ => ifF rfl ⟨_, h6, _, rfl, q _⟩)⟩))
              (pss_one (ps_dput hu1 (pv 3) (pe_tup (pa_cons (pv 4) (pa_cons (pv 5) pa_nil))) pe_str rfl))
              (pss_one (ps_if (PT_imp (t' := tBook5) (PW.pt (pw_or (PW.pt (pw_and (pt_cmpR op_eq (pv 2) pe_int (nomark _)) (pw_and (pt_cmpR op_eq (pv 4) (pv 5) (nomark _)) (pw_and1 (pt_cmpR op_ne (pv 4) (pe_ix ix_str (pv 1) pe_int (fun _ _ => rfl)) (nomark _)))))) (pw_or1 (PW.pt (pw_and (pt_cmpR op_eq (pv 2) pe_int (nomark _)) (pw_and1 (pt_cmpR op_ne (pv 4) (pv 5) (nomark _)))))))) (fun σ H Q h => by
                  obtain ⟨⟨sg, way, x, y, k⟩, q⟩ := h
                  have hlz : (S sg).length ≤ sizeLine := by
                    rw [SX.S_len]
                    exact sz_le (by have := k.few; omega)
                  exact ⟨_, k.h2, rfl, _, rfl, ite2 (fun _ => ⟨_, k.h4, _, k.h5, rfl, _, rfl, ite2
                      (fun _ => ⟨_, k.h4, _, k.h1, S sg, 0, sg.getD 0 0, rfl, rfl, hlz, at_get (k := 0) k.pos, rfl, _, rfl, ite2 (fun _ => q _) (fun _ => ⟨_, k.h2, rfl, _, rfl, ite2 (fun _ => ⟨_, k.h4, _, k.h5, rfl, _, rfl, q _⟩) (fun _ => q _)⟩)⟩)
                      (fun _ => ifF rfl ⟨_, k.h2, rfl, _, rfl, ite2 (fun _ => ⟨_, k.h4, _, k.h5, rfl, _, rfl, q _⟩) (fun _ => q _)⟩)⟩)
                    (fun _ => ifF rfl ⟨_, k.h2, rfl, _, rfl, ite2 (fun _ => ⟨_, k.h4, _, k.h5, rfl, _, rfl, q _⟩) (fun _ => q _)⟩)⟩))
                (pss_one (ps_dput hu1 (pv 3) (pe_tup (pa_cons (pv 4) (pa_cons (pv 5) pa_nil))) (pv 5) rfl))
                (pss_one (ps_if (PT_imp (t' := tBookD) (PW.pt (pw_and (pt_cmpR op_gt (pv 2) pe_int (nomark _)) (pw_and1 (pt_cmpR op_eq (pe_call GD (hr.mono (by decide)) (by rfl) gD FD.kp bD .nil pass0 (pa_cons (pv 0) (pa_cons pe_int pa_nil))) pe_int (nomark _))))) (fun σ H Q h => by
                    obtain ⟨D, C, T, way, h0, h2, dk, hT, q0, q⟩ := h
                    exact ⟨_, h2, _, _, rfl, rfl, _, rfl, ite2 (fun _ => ⟨_, h0, D, C, T, 2, rfl, dk, hT, by decide, by decide, fun H1 r hr dk1 off1 => ⟨rfl, _, rfl, q _ _ dk1 off1⟩⟩) (fun _ => q0)⟩))
                  (pss_one (ps_dput hu1 (pv 3) (pe_tup (pa_cons (pv 4) (pa_cons (pv 5) pa_nil))) (pe_call GP (hr.mono (by decide)) (by rfl) gP FP.kp bP .nil pass0 (pa_cons (pv 0) (pa_cons (Mq.pe_ls (pa_cons pe_str (pa_cons pe_str (pa_cons (pv 5) (pa_cons (pe_call GP (hr.mono (by decide)) (by rfl) gP FP.kp bP .nil pass0 (pa_cons (pv 0) (pa_cons (pv 1) pa_nil))) pa_nil))))) pa_nil))) rfl))
                  pss_nil))))))))))
      (pss_one (ps_ret (pe_disp (pps_cons pe_str (pv 1) (pps_cons pe_str (pv 3) pps_nil)) (by rfl) (by rfl) (fun z => by cases z) (by decide)))))), ?_⟩
    refine ⟨_, rfl, D, C, T, 11, rfl, hdk, by omega, by decide, by decide, fun H2 way hway dk2 off2 => ?_⟩
    refine fun ld hld => ?_
    have dk3 := dk2.same (same_new (o := HO.dT []) hld)
    have hneH : ∀ b o, b ≠ D → b ≠ C → H b = some o → b ≠ ld := fun b o h1 h2 e => ne_of_none (off2 b o h1 h2 e) hld
    have off03 : Off D C H (upd H2 ld (.dT [])) := off2.trans (Off.same (same_new hld))
    have hl3 : upd H2 ld (.dT []) ld = some (.dT (tabF [])) := upd_same
    generalize upd H2 ld (.dT []) = H3 at dk3 off03 hl3 ⊢
    refine ⟨_, _, rfl, ?_⟩
    refine ⟨_, rfl, S sg, rfl, ?_⟩
    refine for_it (walk_S sg) (fun i σ H' => DeckAt D C (T + 1 + 9 * i) H' ∧ Off D C H H' ∧ ∃ gs o4 o5 o6, Part sg i 0 gs ∧ H' ld = some (.dT (tabF gs)) ∧ σ = [some (.ref D), some (.str (S sg)), some (.int (way : Nat)), some (.ref ld), o4, o5, o6])
      ⟨dk3, off03, [], _, _, _, Part.start sg, hl3, rfl⟩ (fun _ _ _ _ _ => trivial) ?_ ?_
    · rintro i x σ H5 H5' hi ⟨dk5, off5, gs0, o4, o5, o6, hp0, hl5, rfl⟩ ⟨rfl, rfl⟩
      refine ⟨_, rfl, S sg, rfl, ?_⟩
      refine for_it (walk_S sg) (fun j σ H' => DeckAt D C (T + 1 + 9 * i + 3 * j) H' ∧ Off D C H H' ∧ ∃ gs o5 o6, Part sg i j gs ∧ H' ld = some (.dT (tabF gs)) ∧ σ = [some (.ref D), some (.str (S sg)), some (.int (way : Nat)), some (.ref ld), some (.str (S [sg.getD i 0])), o5, o6])
        ⟨dk5, off5, gs0, _, _, hp0, hl5, rfl⟩ (fun _ _ _ _ _ => trivial) ?_ ?_
      · rintro j x σ H6 H6' hj ⟨dk6, off6, gs, o5, o6, hp6, hl6, rfl⟩ ⟨rfl, rfl⟩
        have hlen : (tabF gs).length < sizeLine := by
          unfold tabF
          rw [List.length_map]
          have := hp6.len
          exact sz_lt (by omega)
        have put : ∀ (H8 : Hp) (z : List Nat) (T' : Nat), (z = [] ∨ ∃ c ∈ sg, z = [c]) → DeckAt D C T' H8 → T' ≤ T + 1 + 9 * i + 3 * (j + 1) → Off D C H H8 → H8 ld = some (.dT (tabF gs)) → ∀ p, H8 p = none →
            DPut (upd H8 p (.tup [.str (S [sg.getD i 0]), .str (S [sg.getD j 0])])) ld (.ref p) (.str (S z)) (upd (upd H8 p (.tup [.str (S [sg.getD i 0]), .str (S [sg.getD j 0])])) ld (.dT (tabF (gs ++ [⟨sg.getD i 0, sg.getD j 0, z⟩])))) ∧
            DeckAt D C (T + 1 + 9 * i + 3 * (j + 1)) (upd (upd H8 p (.tup [.str (S [sg.getD i 0]), .str (S [sg.getD j 0])])) ld (.dT (tabF (gs ++ [⟨sg.getD i 0, sg.getD j 0, z⟩])))) ∧
            Off D C H (upd (upd H8 p (.tup [.str (S [sg.getD i 0]), .str (S [sg.getD j 0])])) ld (.dT (tabF (gs ++ [⟨sg.getD i 0, sg.getD j 0, z⟩])))) := by
          intro H8 z T' hz dk8 hT8 off8 hl8 p hp
          have s9 := same_new (o := HO.tup [.str (S [sg.getD i 0]), .str (S [sg.getD j 0])]) hp
          have hl9 := s9 _ _ hl8
          have dk9 := (dk8.same s9).mono hT8
          have hk9 : upd H8 p (.tup [.str (S [sg.getD i 0]), .str (S [sg.getD j 0])]) p = some (.tup [.str (S [sg.getD i 0]), .str (S [sg.getD j 0])]) := upd_same
          have off9 := off8.trans (Off.same s9)
          generalize upd H8 p (.tup [.str (S [sg.getD i 0]), .str (S [sg.getD j 0])]) = H9 at hl9 dk9 hk9 off9 ⊢
          have hput : putK (tabF gs) [Sum.inr (S [sg.getD i 0]), Sum.inr (S [sg.getD j 0])] (V.str (S z)) = tabF (gs ++ [⟨sg.getD i 0, sg.getD j 0, z⟩]) := by
            rw [putK_new (tab_new (hp6.other hnd hi hj))]
            exact (tab_snoc gs ⟨sg.getD i 0, sg.getD j 0, z⟩).symm
          have nD : D ≠ ld := by
            rintro rfl
            obtain ⟨_, _, _, e, _⟩ := dk9.ex
            rw [hl9] at e
            cases e
          have nC : C ≠ ld := by
            rintro rfl
            obtain ⟨_, _, _, _, e, _⟩ := dk9.ex
            rw [hl9] at e
            cases e
          refine ⟨?_, ?_, ?_⟩
          · rw [← hput]
            exact DPut.t (k := [Sum.inr (S [sg.getD i 0]), Sum.inr (S [sg.getD j 0])]) hl9 hk9 hlen
          · obtain ⟨m, t, js, a1, a2, a3, a4⟩ := dk9.ex
            exact ⟨m, t, js, (upd_ne nD).trans a1, (upd_ne nC).trans a2, a3, a4⟩
          · intro b o h1 h2 e
            rw [upd_ne (hneH b o h1 h2 e)]
            exact off9 b o h1 h2 e
        have bk : ∀ o6, Bk [some (.ref D), some (.str (S sg)), some (.int (way : Nat)), some (.ref ld), some (.str (S [sg.getD i 0])), some (.str (S [sg.getD j 0])), o6] sg way (sg.getD i 0) (sg.getD j 0) := fun _ => ⟨rfl, rfl, rfl, rfl, hs.pos, hs.few⟩
        refine ⟨⟨_, _, _, _, bk o6⟩, fun b1 => ⟨_, rfl, ite2 (fun _ => ?_) (fun _ => ⟨⟨_, _, _, _, bk o6⟩, fun b2 => ?_⟩)⟩⟩
        all_goals
          refine ⟨⟨_, _, _, _, bk _⟩, ⟨_, rfl⟩, fun t1 => ite2 (fun _ => ?_) (fun _ => ⟨⟨_, _, _, _, bk _⟩, fun t2 => ite2 (fun _ => ?_) (fun _ => ⟨D, C, _, way, rfl, rfl, dk6, by omega, ifF rfl ⟨dk6.mono (by omega), off6, gs, _, _, hp6.skip, hl6, rfl⟩, fun H7 t3 dk7 off7 => ite2 (fun _ => ?_) (fun _ => ?_)⟩)⟩)⟩
          · refine ⟨_, rfl, _, rfl, _, rfl, sz_le (n := 2) (by decide), fun p hp => ?_⟩
            obtain ⟨a1, a2, a3⟩ := put _ [] _ (Or.inl rfl) dk6 (by omega) off6 hl6 p hp
            exact ⟨ld, _, rfl, a1, a2, a3, _, _, _, hp6.put hnd hi hj (Or.inl rfl), upd_same, rfl⟩
          · refine ⟨_, rfl, _, rfl, _, rfl, _, rfl, sz_le (n := 2) (by decide), fun p hp => ?_⟩
            obtain ⟨a1, a2, a3⟩ := put _ [sg.getD j 0] _ (Or.inr ⟨_, getD_mem hj, rfl⟩) dk6 (by omega) off6 hl6 p hp
            exact ⟨ld, _, rfl, a1, a2, a3, _, _, _, hp6.put hnd hi hj (Or.inr ⟨_, getD_mem hj, rfl⟩), upd_same, rfl⟩
          · have hl7 := off7.at dk6 hl6 ⟨(fun _ z => nomatch z), (fun _ z => nomatch z)⟩
            refine ⟨_, rfl, _, rfl, _, rfl, _, rfl, D, C, _, _, rfl, dk7, by omega, Or.inl ⟨sg, rfl, hs.pos, by have := hs.few; omega, fun H8 c hc dk8 off8 => ?_⟩⟩
            have hl8 := off8.at dk7 hl7 ⟨(fun _ z => nomatch z), (fun _ z => nomatch z)⟩
            refine ⟨sz_le (n := 4) (by decide), fun pm hpm _ => ?_⟩
            have s9 := same_new (o := HO.lst [V.str "", V.str "", V.str (S [sg.getD j 0]), V.str (S [c])]) hpm
            refine ⟨D, C, _, .ref pm, rfl, dk8.same s9, by omega, Or.inr ⟨pm, _, rfl, upd_same, (new_ne dk8 hpm).2, Nat.zero_lt_succ _, by show 4 ≤ 1000; decide, fun H10 v hv dk10 off10 => ?_⟩⟩
            have hl10 := off10.at (dk8.same s9) (s9 _ _ hl8) ⟨(fun _ z => nomatch z), (fun _ z => nomatch z)⟩
            have off010 := ((off6.trans off7).trans off8).trans ((Off.same s9).trans off10)
            obtain ⟨z, hz, rfl⟩ : ∃ z : List Nat, (z = [] ∨ ∃ c ∈ sg, z = [c]) ∧ v = .str (S z) := by
              simp only [List.mem_cons, List.not_mem_nil, or_false] at hv
              rcases hv with rfl | rfl | rfl | rfl
              · exact ⟨[], Or.inl rfl, rfl⟩
              · exact ⟨[], Or.inl rfl, rfl⟩
              · exact ⟨_, Or.inr ⟨_, getD_mem hj, rfl⟩, rfl⟩
              · exact ⟨_, Or.inr ⟨_, hc, rfl⟩, rfl⟩
            refine ⟨_, rfl, _, rfl, _, rfl, sz_le (n := 2) (by decide), fun p hp => ?_⟩
            obtain ⟨a1, a2, a3⟩ := put _ z _ hz dk10 (by omega) off010 hl10 p hp
            exact ⟨ld, _, rfl, a1, a2, a3, _, _, _, hp6.put hnd hi hj hz, upd_same, rfl⟩
          · have hl7 := off7.at dk6 hl6 ⟨(fun _ z => nomatch z), (fun _ z => nomatch z)⟩
            exact ⟨dk7.mono (by omega), off6.trans off7, gs, _, _, hp6.skip, hl7, rfl⟩
      · rintro σ H6 ⟨dk6, off6, gs, o5, o6, hp6, hl6, rfl⟩
        exact ⟨dk6.mono (by omega), off6, gs, _, _, _, hp6.row h3, hl6, rfl⟩
    · rintro σ H5 ⟨dk5, off5, gs, o4, o5, o6, hp5, hl5, rfl⟩
      refine fun wd hwd => ?_
      have s7 := same_new (o := HO.dK []) hwd
      refine ⟨_, rfl, _, rfl, upd_same, wKv sg ld, rfl, by show 2 ≤ 15; decide, ?_⟩
      have nl : ld ≠ wd := by
        rintro rfl
        rw [hl5] at hwd
        cases hwd
      obtain ⟨nD, nC⟩ := new_ne dk5 hwd
      refine q _ wd ld gs ⟨by have := hp5.len; omega, hp5.ok, hp5.nd⟩ ⟨upd_same.trans ?_, (upd_ne nl).trans ((upd_ne nl).trans hl5)⟩ ?_ ?_
      · rfl
      · obtain ⟨m, t, js, a1, a2, a3, a4⟩ := (dk5.mono (T' := T + 40) (by omega)).ex
        exact ⟨m, t, js, (upd_ne (Ne.symm nD)).trans ((upd_ne (Ne.symm nD)).trans a1), (upd_ne (Ne.symm nC)).trans ((upd_ne (Ne.symm nC)).trans a2), a3, a4⟩
      · intro b o h1 h2 e
        have e5 := off5 b o h1 h2 e
        rw [upd_ne (ne_of_none e5 hwd)]
        exact s7 b o e5
end
end Lw

namespace Lw
open PySem PySem.Spec PyProof.Rows L2 Mq
open SX (S)
/-! ### the drawn book, made -/
theorem ltSS_irr (x : Str × Str) : ltSS x x = false := (PyProof.Rows.listOrd PyProof.Rows.itemOrd).irrefl (txt2 x)
theorem ltSS_trans {x y z : Str × Str} (h1 : ltSS x y = true) (h2 : ltSS y z = true) : ltSS x z = true := (PyProof.Rows.listOrd PyProof.Rows.itemOrd).trans (txt2 x) (txt2 y) (txt2 z) h1 h2
def AscP (fs : List Fd) : Prop := fs.Pairwise fun a b => ltSS (keyF a) (keyF b) = true
theorem key_apart {f g : Fd} (h : keyN f ≠ keyN g) : keyF f ≠ keyF g := fun e => h (by
  have e' : (S [f.x], S [f.y]) = (S [g.x], S [g.y]) := e
  injection e' with a b
  exact Prod.ext (S_one.mp a) (S_one.mp b))
theorem perm_lift {α β : Type} {f : α → β} {l m : List β} (h : l.Perm m) : ∀ {gs : List α}, m = gs.map f → ∃ fs : List α, l = fs.map f ∧ fs.Perm gs := by
  induction h with
  | nil =>
    intro gs e
    cases gs with
    | nil => exact ⟨[], rfl, .nil⟩
    | cons g gs => cases e
  | cons x _ ih =>
    intro gs e
    cases gs with
    | nil => cases e
    | cons g gs =>
      injection e with e1 e2
      obtain ⟨fs, a, b⟩ := ih e2
      exact ⟨g :: fs, by rw [a, e1]; rfl, b.cons g⟩
  | swap x y l =>
    intro gs e
    match gs, e with
    | [], e => cases e
    | [g], e => cases e
    | g1 :: g2 :: gs, e =>
      injection e with e1 e2
      injection e2 with e2 e3
      exact ⟨g2 :: g1 :: gs, by rw [e1, e2, e3]; rfl, .swap g1 g2 gs⟩
  | trans _ _ ih1 ih2 =>
    intro gs e
    obtain ⟨fs, a, b⟩ := ih2 e
    obtain ⟨fs', a', b'⟩ := ih1 a
    exact ⟨fs', a', b'.trans b⟩
theorem Apart.perm {fs gs : List Fd} (h : Apart gs) (p : fs.Perm gs) : Apart fs := (p.pairwise_iff fun h e => h e.symm).mpr h
theorem lt3_of {x y : Str × Str × Str} (h : ltSS (x.1, x.2.1) (y.1, y.2.1) = true) : ltS3 x y = true := by
  have e1 : ltSS (x.1, x.2.1) (y.1, y.2.1) = (decide (x.1.cps.toList < y.1.cps.toList) || (!decide (y.1.cps.toList < x.1.cps.toList) && (decide (x.2.1.cps.toList < y.2.1.cps.toList) || (!decide (y.2.1.cps.toList < x.2.1.cps.toList) && false)))) := rfl
  have e2 : ltS3 x y = (decide (x.1.cps.toList < y.1.cps.toList) || (!decide (y.1.cps.toList < x.1.cps.toList) && (decide (x.2.1.cps.toList < y.2.1.cps.toList) || (!decide (y.2.1.cps.toList < x.2.1.cps.toList) && (decide (x.2.2.cps.toList < y.2.2.cps.toList) || (!decide (y.2.2.cps.toList < x.2.2.cps.toList) && false)))))) := rfl
  rw [e1] at h
  rw [e2]
  revert h
  generalize decide (x.1.cps.toList < y.1.cps.toList) = a
  generalize decide (y.1.cps.toList < x.1.cps.toList) = b
  generalize decide (x.2.1.cps.toList < y.2.1.cps.toList) = c
  generalize decide (y.2.1.cps.toList < x.2.1.cps.toList) = d
  cases a <;> cases b <;> cases c <;> cases d <;> simp
def tri (f : Fd) : Str × Str × Str := (S [f.x], S [f.y], S f.z)
def triOf (H : Hp) (b : Addr) : Str × Str × Str := match H b with
  | some (.tup [.str x, .str y, .str z]) => (x, y, z)
  | _ => ("", "", "")
theorem triOf_eq {H : Hp} {b : Addr} {f : Fd} (h : H b = some (.tup (fdV f))) : triOf H b = tri f := by
  unfold triOf
  rw [h]
  rfl
theorem sorted_tri {gs : List Fd} {f : Addr → Str × Str × Str} {bs qs : List Addr} (hg : Apart gs) (h1 : bs.map f = gs.map tri) (h3 : qs.Perm bs)
    (h4 : ∀ i j, i ≤ j → j < qs.length → ltS3 (f (qs.getD j 0)) (f (qs.getD i 0)) = false) : ∃ fs : List Fd, fs.Perm gs ∧ AscP fs ∧ qs.map f = fs.map tri := by
  have h5 : (qs.map f).Perm (gs.map tri) := by
    rw [← h1]
    exact h3.map _
  obtain ⟨fs, e, p⟩ := perm_lift h5 rfl
  have ap := List.pairwise_iff_getElem.mp (hg.perm p)
  have hl : qs.length = fs.length := by
    have := congrArg List.length e
    rwa [List.length_map, List.length_map] at this
  have at' : ∀ i (h : i < fs.length), f (qs.getD i 0) = tri fs[i] := by
    intro i h
    have e1 : (qs.map f)[i]? = (fs.map tri)[i]? := by rw [e]
    rw [List.getElem?_map, List.getElem?_map, List.getElem?_eq_getElem h, List.getElem?_eq_getElem (by omega)] at e1
    rw [List.getD_eq_getElem?_getD, List.getElem?_eq_getElem (by omega)]
    exact Option.some.inj e1
  refine ⟨fs, p, List.pairwise_iff_getElem.mpr fun i j hi hj hij => ?_, e⟩
  have h := h4 i j (by omega) (by omega)
  rw [at' i hi, at' j hj] at h
  have h2 : ltSS (keyF fs[j]) (keyF fs[i]) = false := by
    cases e2 : ltSS (keyF fs[j]) (keyF fs[i]) with
    | false => rfl
    | true =>
      have := lt3_of (x := tri fs[j]) (y := tri fs[i]) e2
      rw [h] at this
      cases this
  exact lt_of h2 (fun z => key_apart (ap i j hi hj hij) z.symm)
theorem fs_ok {sg : List Nat} {fs gs : List Fd} (h : GsOk sg gs) (p : fs.Perm gs) (a : AscP fs) : FsOk sg fs := by
  refine ⟨by rw [p.length_eq]; exact h.few, fun f hf => h.ok f (p.mem_iff.mp hf), fun i j hij hj f g hf hg => ?_⟩
  have := List.pairwise_iff_getElem.mp a i j (by omega) hj hij
  rw [List.getElem?_eq_getElem hj] at hg
  rw [List.getElem?_eq_getElem (by omega)] at hf
  cases hf
  cases hg
  exact this
theorem tab_at : ∀ {gs : List Fd}, Apart gs → ∀ {f : Fd}, f ∈ gs → valV (tabF gs) [Sum.inr (S [f.x]), Sum.inr (S [f.y])] = some (.str (S f.z))
  | [], _, f, hf => by cases hf
  | g :: gs, h, f, hf => by
    obtain ⟨h1, h2⟩ := List.pairwise_cons.mp h
    unfold valV tabF
    rw [List.map_cons]
    by_cases e : keyN g = keyN f
    · have e2 : g = f := by
        rcases List.mem_cons.mp hf with r | r
        · exact r.symm
        · exact absurd e (h1 f r)
      subst e2
      simp [List.find?_cons]
    · have e3 : f ∈ gs := by
        rcases List.mem_cons.mp hf with r | r
        · rw [r] at e
          exact absurd rfl e
        · exact r
      rw [List.find?_cons_of_neg]
      · exact tab_at h2 e3
      · intro z
        have z' := of_decide_eq_true z
        injection z' with z1 z2
        injection z2 with z2 _
        exact e (Prod.ext (S_one.mp (Sum.inr.inj z1)) (S_one.mp (Sum.inr.inj z2)))
theorem find_mem : ∀ {gs : List Fd}, Apart gs → ∀ {f : Fd}, f ∈ gs → leftM gs f.x f.y = .some f.z
  | [], _, f, hf => by cases hf
  | g :: gs, h, f, hf => by
    obtain ⟨h1, h2⟩ := List.pairwise_cons.mp h
    unfold leftM
    by_cases e : keyN g = keyN f
    · have e2 : g = f := by
        rcases List.mem_cons.mp hf with r | r
        · exact r.symm
        · exact absurd e (h1 f r)
      subst e2
      rw [List.find?_cons_of_pos (by rw [decide_eq_true rfl, decide_eq_true rfl]; rfl)]
      rfl
    · have e3 : f ∈ gs := by
        rcases List.mem_cons.mp hf with r | r
        · rw [r] at e
          exact absurd rfl e
        · exact r
      rw [List.find?_cons_of_neg]
      · exact find_mem h2 e3
      · intro z
        obtain ⟨z1, z2⟩ := Bool.and_eq_true_iff.mp z
        exact e (Prod.ext (of_decide_eq_true z1) (of_decide_eq_true z2))
theorem left_some {gs : List Fd} {x y : Nat} {z : List Nat} (h : leftM gs x y = .some z) : ∃ f ∈ gs, f.x = x ∧ f.y = y ∧ f.z = z := by
  unfold leftM at h
  cases hf : gs.find? fun f => decide (f.x = x) && decide (f.y = y) with
  | none => rw [hf] at h; cases h
  | some f =>
    rw [hf] at h
    cases h
    have h2 := List.find?_some hf
    obtain ⟨z1, z2⟩ := Bool.and_eq_true_iff.mp h2
    exact ⟨f, List.mem_of_find?_eq_some hf, of_decide_eq_true z1, of_decide_eq_true z2, rfl⟩
theorem left_eq {fs gs : List Fd} (h : Apart gs) (p : fs.Perm gs) (x y : Nat) : leftM fs x y = leftM gs x y := by
  cases e : leftM fs x y with
  | some z =>
    obtain ⟨f, hf, rfl, rfl, rfl⟩ := left_some e
    exact (find_mem h (p.mem_iff.mp hf)).symm
  | none =>
    cases e2 : leftM gs x y with
    | none => rfl
    | some z =>
      obtain ⟨f, hf, rfl, rfl, rfl⟩ := left_some e2
      rw [find_mem (h.perm p) (p.mem_iff.mpr hf)] at e
      cases e
theorem laid_eq {fs gs : List Fd} (h : Apart gs) (p : fs.Perm gs) : laidM fs = laidM gs := by
  funext w y
  unfold laidM
  simp only [left_eq h p]
theorem led_eq {fs gs : List Fd} (h : Apart gs) (p : fs.Perm gs) : ledM fs = ledM gs := by
  funext w row
  unfold ledM
  rw [laid_eq h p]
theorem make_same {H H' : Hp} {x dx CR : Addr} (hx : H x = none) (hdx : H dx = none) (hne : dx ≠ x) (k : ∀ b o, upd (upd H dx (.own x)) x (.ins CR dx []) b = some o → b ≠ x → H' b = some o) : Same H H' := by
  intro b o e
  have e1 : b ≠ x := ne_of_none e hx
  have e2 : b ≠ dx := ne_of_none e hdx
  exact k b o ((upd_ne e1).trans ((upd_ne e2).trans e)) e1
theorem FdAll.snoc {K : PySem.W.Frag} {H : Hp} : ∀ {vs : List V} {fs : List Fd} {v : V} {f : Fd}, FdAll K H vs fs → FdAt K H v f → FdAll K H (vs ++ [v]) (fs ++ [f])
  | _, _, _, _, .nil, h => .cons h .nil
  | _, _, _, _, .cons a b, h => .cons a (FdAll.snoc b h)
theorem run_eq {fs gs : List Fd} (h : Apart gs) (p : fs.Perm gs) (w row : List Nat) : ∀ i, runM fs w row i = runM gs w row i
  | 0 => rfl
  | i + 1 => by
    show stepM fs i _ (runM fs w row i) = stepM gs i _ (runM gs w row i)
    rw [run_eq h p w row i]
    unfold stepM
    simp only [left_eq h p]
theorem ans_eq {fs gs : List Fd} (h : Apart gs) (p : fs.Perm gs) (w row : List Nat) (way : Nat) : ansM fs w row way = ansM gs w row way := by
  unfold ansM websM
  rw [run_eq h p, led_eq h p]
inductive TriAt (H : Hp) : List Addr → List Fd → Prop
  | nil : TriAt H [] []
  | cons {b : Addr} {bs : List Addr} {f : Fd} {fs : List Fd} : H b = some (.tup (fdV f)) → TriAt H bs fs → TriAt H (b :: bs) (f :: fs)
theorem TriAt.mv {H H' : Hp} (e : ∀ b xs, H b = some (.tup xs) → H' b = some (.tup xs)) : ∀ {bs : List Addr} {fs : List Fd}, TriAt H bs fs → TriAt H' bs fs
  | _, _, .nil => .nil
  | _, _, .cons a b => .cons (e _ _ a) (b.mv e)
theorem TriAt.snoc {H : Hp} : ∀ {bs : List Addr} {fs : List Fd} {b : Addr} {f : Fd}, TriAt H bs fs → H b = some (.tup (fdV f)) → TriAt H (bs ++ [b]) (fs ++ [f])
  | _, _, _, _, .nil, h => .cons h .nil
  | _, _, _, _, .cons a b, h => .cons a (b.snoc h)
theorem TriAt.len {H : Hp} : ∀ {bs : List Addr} {fs : List Fd}, TriAt H bs fs → bs.length = fs.length
  | _, _, .nil => rfl
  | _, _, .cons a b => congrArg (· + 1) b.len
theorem TriAt.map {H : Hp} : ∀ {bs : List Addr} {fs : List Fd}, TriAt H bs fs → bs.map (triOf H) = fs.map tri ∧ ∀ b ∈ bs, ∃ f, H b = some (.tup (fdV f))
  | _, _, .nil => ⟨rfl, fun b h => by cases h⟩
  | _, _, .cons a b => by
    obtain ⟨h1, h2⟩ := b.map
    refine ⟨by rw [List.map_cons, List.map_cons, triOf_eq a, h1], fun x hx => ?_⟩
    rcases List.mem_cons.mp hx with rfl | hx
    · exact ⟨_, a⟩
    · exact h2 x hx
theorem fd_inj {f g : Fd} (h : tri f = tri g) : fdV f = fdV g := by
  have h1 := congrArg (·.1) h
  have h2 := congrArg (·.2.1) h
  have h3 := congrArg (·.2.2) h
  show [V.str (tri f).1, V.str (tri f).2.1, V.str (tri f).2.2] = _
  rw [h]
  rfl
theorem fds_of {K : PySem.W.Frag} {H : Hp} : ∀ {qs : List Addr} {fs : List Fd}, (∀ b ∈ qs, ∃ f, H b = some (.tup (fdV f))) → qs.map (triOf H) = fs.map tri → FdAll K H (qs.map V.ref) fs
  | [], [], _, _ => .nil
  | [], _ :: _, _, h => by cases h
  | _ :: _, [], _, h => by cases h
  | q :: qs, f :: fs, h1, h2 => by
    injection h2 with e1 e2
    obtain ⟨g, hg⟩ := h1 q List.mem_cons_self
    rw [triOf_eq hg] at e1
    refine .cons ⟨q, rfl, Or.inl (Or.inl ?_)⟩ (fds_of (fun b hb => h1 b (List.mem_cons_of_mem _ hb)) e2)
    rw [hg, fd_inj e1]
def spCode (K : PySem.W.Frag) (C : Addr) : Sp := fun vs H Q _ => ∃ (wd ld : Addr) (sg : List Nat) (gs : List Fd), vs = [.ref wd] ∧ WAt H wd ld sg gs ∧ GsOk sg gs ∧ SgOk sg ∧
  ∀ H' r fa ta fs, fs.Perm gs → FsOk sg fs → BkAt H' C r sg fs fa ta → Same H H' → Q (.ref r) H'
section
variable {P : Program} {w : World} {K : PySem.W.Frag} {mg : Str → Option Value} {base : Heap} {C : Addr}
theorem ok_code {f fB : Addr} {fd fdB : FuncData} (F : Fun K "_law_code" "_law_code" s__law_code f fd) (B : Blt mg) (bS : mg "sorted" = none)
    (gC : mg "Book" = some (.ref C)) (M : Mk K C fB) (bB : Binds K fdB ["self", "letters", "folds"] []) (GB : FnOk P w K mg base CX0 3 fB fdB ["self", "letters", "folds"] (spBook K C)) :
    FnOk P w K mg base CX0 5 f fd ["_law_f"] (spCode K C) := by
  refine F.ok sc__law_code (fun vs H Q E h => ?_) (fun cdv A outer s H vs Q E hr h => ?_)
  · obtain ⟨_, _, _, _, rfl, _⟩ := h
    rfl
  · obtain ⟨wd, ld, sg, gs, rfl, hw, hgs, hs, q⟩ := h
    have hu1 : (A.deeper (envOfC "_law_code" (defScope s__law_code) s.heap.objs.size f cdv)).units + 1 < cLine := by
      have := hr.units
      omega
    refine ⟨_, pss_one (ps_ret (pe_make M GB (hr.mono (by decide)) (by rfl) gC bB .nil pass0 (pa_cons (pe_dget hu1 (pv 0) pe_str (fun _ _ => rfl)) (pa_cons (pe_callTy call_tuple_of (by rfl) B.tuple (by decide +kernel) (pa_cons (pe_callB call_sorted3 (by rfl) bS (by decide +kernel) (pa_cons (pe_lock (pe_lc (own := [("_law_x", 1), ("_law_y", 2)]) (g := gTup K 2 (gCons (gName 1) (gCons (gName 2) gNil))) (tt := tYes) rfl sc__law_code.nd (pi_keys (pe_dget hu1 (pv 0) pe_str (fun _ _ => rfl))) (blkOk_by (own := [("_law_x", 1), ("_law_y", 2)]) (N := ["_law_f", "_law_x", "_law_y"]) (sc := defScope s__law_code) (by decide +kernel)) (fun _ _ _ _ _ => pg_tup rfl (pgs_cons (pg_name (i := 1) sc__law_code.nd rfl (Or.inl rfl)) (pgs_cons (pg_name (i := 2) sc__law_code.nd rfl (Or.inl rfl)) pgs_nil))) (fun _ _ _ _ _ => pts_nil) (fun _ _ _ _ _ => (pe_tup (pa_cons (pv 1) (pa_cons (pv 2) (pa_cons (pe_dget hu1 (pe_dget hu1 (pv 0) pe_str (fun _ _ => rfl)) (pe_tup (pa_cons (pv 1) (pa_cons (pv 2) pa_nil))) (fun _ _ => rfl)) pa_nil))))))) pa_nil)) pa_nil)) pa_nil)))), ?_⟩
    refine ⟨_, rfl, wd, _, rfl, DGet.k (k := .inr "signs") hw.w, ?_⟩
    refine ⟨ld, _, hw.l, trivial, fun od => ?_⟩
    have nwl : wd ≠ ld := by
      rintro rfl
      have := hw.w
      rw [hw.l] at this
      cases this
    have hw0 : upd H ld (.frz od (.dT (tabF gs))) wd = some (.dK (wKv sg ld)) := (upd_ne nwl).trans hw.w
    have hl0 : upd H ld (.frz od (.dT (tabF gs))) ld = some (.frz od (.dT (tabF gs))) := upd_same
    have back : ∀ H', Same (upd H ld (.frz od (.dT (tabF gs)))) H' → Same H (upd H' ld (.dT (tabF gs))) := by
      intro H' s' b o e
      by_cases hb : b = ld
      · subst hb
        rw [hw.l] at e
        rw [← e]
        exact upd_same
      · exact (upd_ne hb).trans (s' b o ((upd_ne hb).trans e))
    generalize upd H ld (.frz od (.dT (tabF gs))) = H0 at hw0 hl0 back ⊢
    refine ⟨_, rfl, wd, _, rfl, DGet.k (k := .inr "folds") hw0, ld, od, rfl, Or.inr ⟨tabF gs, hl0, fun L hL => ?_⟩⟩
    have lg : (tabF gs).length = gs.length := by
      unfold tabF
      rw [List.length_map]
    refine lc_yes (walk_keysT (d := ld) (o := od) (kvs := tabF gs)) (fun i H' => Same H0 H' ∧ ∃ bs, H' L = some (.lst (bs.map V.ref)) ∧ TriAt H' bs (gs.take i)) ⟨same_new hL, [], upd_same, .nil⟩ (fun i H' _ q => q.1 _ _ hl0) ?_ ?_
    · rintro i x H2 H3 hi ⟨s2, bs, hL2, tr⟩ ⟨rfl, k, v, b, hk, rfl, hb⟩
      rw [lg] at hi
      have hg : gs[i]? = some gs[i] := List.getElem?_eq_getElem hi
      have hmem : gs[i] ∈ gs := List.getElem_mem hi
      generalize gs[i] = fo at hg hmem
      unfold tabF at hk
      rw [List.getElem?_map, hg] at hk
      cases hk
      have hb' : H3 b = some (.tup [V.str (S [fo.x]), V.str (S [fo.y])]) := hb
      refine ⟨b, _, rfl, Or.inl (Or.inl hb'), rfl, _, _, rfl, _, _, rfl, rfl, rfl, ?_⟩
      have hw2 := s2 _ _ hw0
      refine ⟨_, rfl, _, rfl, _, rfl, wd, _, rfl, DGet.k (k := .inr "folds") hw2, _, rfl, _, rfl, sz_le (n := 2) (by decide), fun p2 hp2 => ?_⟩
      have s3 := same_new (o := HO.tup [V.str (S [fo.x]), V.str (S [fo.y])]) hp2
      have gg : DGet (upd H3 p2 (.tup [V.str (S [fo.x]), V.str (S [fo.y])])) ld (.ref p2) (some (.str (S fo.z))) := by
        rw [← tab_at hgs.nd hmem]
        exact Or.inr ⟨tabF gs, [Sum.inr (S [fo.x]), Sum.inr (S [fo.y])], p2, Or.inr ⟨od, s3 _ _ (s2 _ _ hl0)⟩, rfl, upd_same, rfl⟩
      refine ⟨ld, _, rfl, gg, sz_le (n := 3) (by decide), fun p3 hp3 => ?_⟩
      have s4 := s3.trans (same_new (o := HO.tup [V.str (S [fo.x]), V.str (S [fo.y]), V.str (S fo.z)]) hp3)
      have h3' : upd (upd H3 p2 (.tup [V.str (S [fo.x]), V.str (S [fo.y])])) p3 (.tup [V.str (S [fo.x]), V.str (S [fo.y]), V.str (S fo.z)]) p3 = some (.tup (fdV fo)) := upd_same
      generalize upd (upd H3 p2 (.tup [V.str (S [fo.x]), V.str (S [fo.y])])) p3 (.tup [V.str (S [fo.x]), V.str (S [fo.y]), V.str (S fo.z)]) = H4 at s4 h3' ⊢
      have hL4 := s4 _ _ hL2
      have hbl : bs.length ≤ 200 := by
        have := tr.len
        rw [List.length_take] at this
        have := hgs.few
        omega
      refine ⟨_, hL4, sz_lt (by rw [List.length_map]; omega), push_same hL (s2.trans s4), bs ++ [p3], ?_, ?_⟩
      · rw [upd_same, List.map_append]
        rfl
      · have mv : ∀ c xs, H4 c = some (.tup xs) → upd H4 L (.lst (bs.map V.ref ++ [V.ref p3])) c = some (.tup xs) := by
          intro c xs e
          refine (upd_ne ?_).trans e
          rintro rfl
          rw [hL4] at e
          cases e
        rw [List.take_add_one, hg]
        exact ((tr.mv fun c xs e => s4 _ _ e).mv mv).snoc (mv _ _ h3')
    · rintro H2 ⟨s2, bs, hL2, tr⟩
      rw [lg, List.take_length] at tr
      have nLl : L ≠ ld := by
        rintro rfl
        rw [hl0] at hL
        cases hL
      refine ⟨s2 _ _ hl0, ?_⟩
      have s3 := back H2 s2
      have hL3 : upd H2 ld (.dT (tabF gs)) L = some (.lst (bs.map V.ref)) := (upd_ne nLl).trans hL2
      have tr3 : TriAt (upd H2 ld (.dT (tabF gs))) bs gs := tr.mv fun c xs e => by
        refine (upd_ne ?_).trans e
        rintro rfl
        rw [s2 _ _ hl0] at e
        cases e
      generalize upd H2 ld (.dT (tabF gs)) = H3 at s3 hL3 tr3 ⊢
      obtain ⟨m1, m2⟩ := tr3.map
      refine ⟨L, bs, triOf H3, rfl, SqL.of hL3, fun b hb => ?_, fun qs p hq1 hq2 hp => ?_⟩
      · obtain ⟨fo, hfo⟩ := m2 b hb
        unfold Is3
        rw [triOf_eq hfo]
        exact hfo
      obtain ⟨fs, fp, fa, fe⟩ := sorted_tri hgs.nd m1 hq1 hq2
      have hfs := fs_ok hgs fp fa
      have all3 : FdAll K H3 (qs.map V.ref) fs := fds_of (fun b hb => m2 b (hq1.mem_iff.mp hb)) fe
      have t4 := same_new (o := HO.lst (qs.map V.ref)) hp
      have z4 : upd H3 p (.lst (qs.map V.ref)) p = some (.lst (qs.map V.ref)) := upd_same
      have s4 := s3.trans t4
      have all4 := all3.kp (KpT.same t4)
      generalize upd H3 p (.lst (qs.map V.ref)) = H4 at s4 z4 all4 ⊢
      refine ⟨p, _, rfl, Or.inl ⟨SqL.of z4, fun fa' hfa => ?_⟩⟩
      have t5 := same_new (o := HO.tup (qs.map V.ref)) hfa
      have hf5 : SqT K (upd H4 fa' (.tup (qs.map V.ref))) fa' (qs.map V.ref) := Or.inl (Or.inl upd_same)
      have all5 := all4.kp (KpT.same t5)
      have s5 := s4.trans t5
      generalize upd H4 fa' (.tup (qs.map V.ref)) = H5 at hf5 all5 s5 ⊢
      refine fun x dx hx hdx hne => ⟨x, dx, fa', sg, fs, qs.map V.ref, rfl, upd_same, ?_, ?_, hfs, hs, fun H6 ta hbk keep => ⟨rfl, ?_⟩⟩
      · exact Same.tup (same_new ((upd_ne (Ne.symm hne)).trans hx)) (Same.tup (same_new hdx) hf5)
      · exact (all5.kp (KpT.same (same_new hdx))).kp (KpT.same (same_new ((upd_ne (Ne.symm hne)).trans hx)))
      · exact q H6 x fa' ta fs fp hfs hbk (s5.trans (make_same hx hdx hne keep))
end
end Lw

namespace Mq
open PySem PySem.Spec PyProof.Rows L2
/-! ### f(k = v, ..), all by keyword -/
theorem vals_rev : ∀ {vs : List V} {us : List Value}, Vals vs us → Vals vs.reverse us.reverse
  | _, _, .nil => .nil
  | _, _, .cons r h => by
    rw [List.reverse_cons, List.reverse_cons]
    exact (vals_rev h).append (.cons r .nil)
def rev0 {α : Type} (_ ws : List α) : List α := ws.reverse
section
variable {X : Cx} {CX : CXT} {k : Nat} {f : Addr} {fd : FuncData} {ps ks : List Str} {sp : Sp}
  {E : L2.St → XK} {x : Str} {p pos : Pos} {kws : List Keyword} {tk : TA}
  {g : List Value → List Value → List Value} {gV : List V → List V → List V}
def tCallK0 (m : Nat) (sp : Sp) (gV : List V → List V → List V) (E : L2.St → XK) (tk : TA) : TE := fun σ H Q => tk σ H fun zs H2 => zs.length = m ∧ sp (gV [] zs) H2 Q (E σ)
theorem pe_callK0 (F : FnOk X.prog X.w X.K X.mg X.base CX k f fd ps sp) (hr : Room k X.A) (hg : Gl X x) (hm : X.mg x = some (.ref f)) (hk : PySem.W.keepIn X.K (.ref f) = true) (hb : KBn X.K fd ps 0 ks g gV)
    (hx : ∀ σ, PassesAt CX X σ (E σ)) (hkw : PK X kws tk)
    (hall : (backToKw pos (keywordEach kws X.env)).all (·.1.isSome) = true := by rfl)
    (hks : (backToKw pos (keywordEach kws X.env)).filterMap (·.1) = ks := by rfl)
    (hdb : (x == ("__debug__" : Str)) = false := by decide)
    (hpl : ((backTo pos (starEach [] X.env)).any (·.1) || (backToKw pos (keywordEach kws X.env)).any (·.1.isNone)) = false := by rfl) :
    PE X (.Call (.Name x p) [] kws pos) (tCallK0 ks.length sp gV E tk) := by
  refine ⟨fun pins s σ H Q I h => ?_⟩
  refine wpAny_Call_Name_kw (ld_glob I hg hm ?_ hdb)
  refine PySem.W.callWith_KW0 (h₀ := X.base) I.ok.mod.kin hk hall ?_ hpl
  refine thn (hkw.run pos pins s σ H _ I h) fun ws s2 ⟨zs, H2, I2, rz, hl, q2⟩ => ⟨I2.kIn, ?_⟩
  rw [hks]
  have r2 := hb.rel (vs := []) (us := []) .nil rz
  have lw : ws.length = ks.length := rz.length.symm.trans hl
  refine wpAny_call (codeAny_mono (F.run X.A X.stack s2 H2 ⟨[], ks.zip ws⟩ (g [] ws) (gV [] zs) Q (E σ) hr I2.env0
    (hb.to s2 [] ws I2.kIn rfl lw) r2 q2) (fun r s' hq => ?_))
  match r, hq with
  | .error er, hq => exact hx σ pins H2 s2 er s' I2 hq
  | .ok (.ret u), hq => exact I2.after hq
  | .ok .next, hq => exact hq.elim
  | .ok .brk, hq => exact hq.elim
  | .ok .cont, hq => exact hq.elim
end
theorem kbn_rev2 {K : PySem.W.Frag} {x qual : Str} {st : Stmt} {f : Addr} {fd : FuncData} {p1 p2 : Str} (F : Fun K x qual st f fd)
    (h : ∀ (kV doc pm : Value) (an : Option Addr) (cdv ct : Value) (a b : Value), bindArgs (PySem.W.fnOf x qual (defArgs st) (defBody st) (defScope st) .none kV doc pm an cdv ct) ⟨[], [(p2, a), (p1, b)]⟩ = pure [(p1, b), (p2, a)]) :
    KBn K fd [p1, p2] 0 [p2, p1] rev0 rev0 := by
  obtain ⟨oc, od, kV, doc, pm, an, cdv, ct, osl, rfl, lk, hcd⟩ := F.ex
  refine ⟨fun s us ws _ h1 h2 => ?_, fun a b => vals_rev b⟩
  match us, ws, h1, h2 with
  | [], [a, b], _, _ => exact .of_eq (h kV doc pm an cdv ct a b)
theorem kbn_rev3 {K : PySem.W.Frag} {x qual : Str} {st : Stmt} {f : Addr} {fd : FuncData} {p1 p2 p3 : Str} (F : Fun K x qual st f fd)
    (h : ∀ (kV doc pm : Value) (an : Option Addr) (cdv ct : Value) (a b c : Value), bindArgs (PySem.W.fnOf x qual (defArgs st) (defBody st) (defScope st) .none kV doc pm an cdv ct) ⟨[], [(p3, a), (p2, b), (p1, c)]⟩ = pure [(p1, c), (p2, b), (p3, a)]) :
    KBn K fd [p1, p2, p3] 0 [p3, p2, p1] rev0 rev0 := by
  obtain ⟨oc, od, kV, doc, pm, an, cdv, ct, osl, rfl, lk, hcd⟩ := F.ex
  refine ⟨fun s us ws _ h1 h2 => ?_, fun a b => vals_rev b⟩
  match us, ws, h1, h2 with
  | [], [a, b, c], _, _ => exact .of_eq (h kV doc pm an cdv ct a b c)
end Mq

namespace Mq
open PySem PySem.Spec PySem.W PySem.Calls PySem.HandSPX PyProof.Rows
/-! ### an own error made by keywords -/
section
variable {M : Model} {A : Around} {E : Value → Shared → Prop} {h : Heap} {g : Array GenState} {dr : Drawn} {tk : Nat} {os : OsState}
variable {nm q : Str} {C N : Addr} {bs bm bmB : List Value} {hd : Bool} {sn : List Str} {sub : List Value} {ab : Bool} {col : Option Bool} {dd : Option Addr} {k0 k1 k2 k3 k5 : Option Value} {B newId initId : String}
theorem new_fine (F : ExcBaseFacts B newId initId bmB) (same : ∀ X : String, bm.contains (.type X) = bmB.contains (.type X)) {us : List Value} {kw : List (Str × Value)} {Q : Unit → Shared → Prop}
    (at' : h.get? C = some (excClassObj nm q C N bs bm hd sn sub ab col dd k0 k1 k2 k3 k5 newId)) (done : Q () ⟨h, g, dr, tk, os⟩) : wpAny M A (checkBuiltinCall newId ⟨.ref C :: us, kw⟩) Q E ⟨h, g, dr, tk, os⟩ := by
  have below : (Value.ref C :: bm).contains (.type B) = true := by rw [List.contains_cons, same, F.hasB, Bool.or_true]
  have ns := F.noStar
  simp only [checkBuiltinCall, F.newKind, F.newSplit, F.newRow]
  repeat (first
    | refine wpAny_loadPart_at at' ?_
    | (refine wpAny_isSubtype_exc at' ?_; rw [below])
    | refine wpAny_staticBase_exc at' ?_
    | refine wpAny_madeBy_exc at' ?_
    | simp only [bne_self_eq_false, Bool.false_eq_true, if_false]
    | wp_step)
  exact done
end
section
variable {prog : Program} {w : World} {A : Around} {E : Value → Shared → Prop} {R : Result → Shared → Prop} {h : Heap} {g : Array GenState} {dr : Drawn} {tk : Nat} {os : OsState}
variable {nm q : Str} {C N : Addr} {bs bm bmB : List Value} {hd : Bool} {sn : List Str} {sub : List Value} {ab : Bool} {col : Option Bool} {dd : Option Addr} {k0 k1 k2 k3 k5 : Option Value} {B newId initId : String}
theorem new_kw (F : ExcBaseFacts B newId initId bmB) (same : ∀ X : String, bm.contains (.type X) = bmB.contains (.type X)) {us : List Value} {kw : List (Str × Value)}
    (at' : h.get? C = some (excClassObj nm q C N bs bm hd sn sub ab col dd k0 k1 k2 k3 k5 newId)) (few : us.length ≤ sizeLine)
    (done : R (.ok (.ret (.ref (h.objs.size + 1)))) ⟨(h.push (kdv_tup us)).push (excO C h.objs.size), g, dr, tk, os⟩) :
    codeAny (model prog w) A (.builtin newId ⟨.ref C :: us, kw⟩) R ⟨h, g, dr, tk, os⟩ := by
  have ends := F.ends
  have isB : (Value.ref C :: bm).contains (.type B) = true := by rw [List.contains_cons, same, F.hasB, Bool.or_true]
  have isA : (Value.ref C :: bm).contains (.type "AttributeError") = false := by rw [List.contains_cons, same, F.noAttr]; rfl
  have isN : (Value.ref C :: bm).contains (.type "NameError") = false := by rw [List.contains_cons, same, F.noName]; rfl
  refine codeAny_builtinAt F.entry ?_
  unfold Builtin.«BaseException.__new__»
  refine PySem.wpAt_bind ?_
  show PySem.wpAt _ _ _ (stack >>= _) _ _ _
  refine PySem.wpAt_bind (PySem.wpAt_stack fun p below => PySem.wpAt_of_wpAny ?_)
  wp_walk
  refine PySem.wpAt_of_wpAny ?_
  rw [F.owner]
  repeat (first
    | with_reducible refine wpAny_madeHere_exc F.canon at' ?_
    | with_reducible refine wpAny_loadPart_at at' ?_
    | (with_reducible refine wpAny_isSubtype_exc at' ?_; first | rw [isB] | rw [isA] | rw [isN])
    | wp_step)
  show R _ _
  rw [Heap.size_push]
  exact done
theorem type_kw (F : ExcBaseFacts B newId initId bmB) (same : ∀ X : String, bm.contains (.type X) = bmB.contains (.type X)) {us : List Value} {kw : List (Str × Value)} {fI : Addr} {Q : Fin → Shared → Prop}
    (at' : h.get? C = some (excClassObj nm q C N bs bm hd sn sub ab col dd k0 k1 k2 k3 k5 newId)) (few : us.length ≤ sizeLine)
    (looks : Looks (model prog w) h (typeLookup (.ref C) "__init__") (some (.ref fI))) (binds : ∀ self, Looks (model prog w) h (bindSpecial (.ref fI) self) (.ref fI, [self]))
    (done : codeAny (model prog w) A (.call (.ref fI) ⟨.ref (h.objs.size + 1) :: us, kw⟩)
      (fun r s' => match r with | .ok (.ret v) => v = .none ∧ Q (.done (.ret (.ref (h.objs.size + 1)))) s' | .ok _ => False | .error e => E e s')
      ⟨(h.push (kdv_tup us)).push (excO C h.objs.size), g, dr, tk, os⟩) :
    wpAny (model prog w) A (Builtin.«type.__call__» ⟨.ref C :: us, kw⟩) Q E ⟨h, g, dr, tk, os⟩ := by
  repeat (first
    | with_reducible refine wpAny_loadPart_at at' ?_
    | with_reducible refine wpAny_madeBy_exc at' ?_
    | wp_step)
  refine codeAny_call_builtin_code (Code.quiet_builtin _ F.quiet) (new_fine F same at' ?_)
  refine new_kw F same at' few ?_
  show wpAny _ _ _ _ _ _
  have k : ∀ b o, h.get? b = some o → ((h.push (kdv_tup us)).push (excO C h.objs.size)).get? b = some o := fun b o e => Heap.get?_push_of_some _ (Heap.get?_push_of_some _ e)
  have at1 := k _ _ at'
  have new : ((h.push (kdv_tup us)).push (excO C h.objs.size)).get? (h.objs.size + 1) = some (excO C h.objs.size) := by heap_get
  have own : (Value.ref C :: bm).contains (.ref C) = true := by simp
  have i1 := looks.keeps k
  have b1 := (binds (.ref (h.objs.size + 1))).keeps k
  unfold isInstance
  repeat (first
    | with_reducible refine wpAny_loadPart_at new ?_
    | (with_reducible refine wpAny_isSubtype_exc at1 ?_; rw [own])
    | wp_step)
  show wpAny _ _ (typeLookup (.ref C) _) _ _ _
  refine i1.at ?_
  refine wpAny_holding (wpAny_bind (b1.at ?_))
  refine wpAny_bind (wpAny_call (codeAny_mono done fun r s' z => ?_))
  rcases r with e | (v | _ | _ | _) <;> first | exact z | exact z.elim | skip
  obtain ⟨rfl, z⟩ := z
  first
    | exact wpAny_pure (wpAny_pure z)
    | (wp_walk; exact z)
theorem call_kw (F : ExcBaseFacts B newId initId bmB) (same : ∀ X : String, bm.contains (.type X) = bmB.contains (.type X)) {us : List Value} {kw : List (Str × Value)} {fI : Addr}
    (at' : h.get? C = some (excClassObj nm q C N bs bm hd sn sub ab col dd k0 k1 k2 k3 k5 newId)) (few : us.length ≤ sizeLine)
    (looks : Looks (model prog w) h (typeLookup (.ref C) "__init__") (some (.ref fI))) (binds : ∀ self, Looks (model prog w) h (bindSpecial (.ref fI) self) (.ref fI, [self]))
    (done : codeAny (model prog w) (A.under (.builtin "type.__call__" ⟨.ref C :: us, kw⟩)) (.call (.ref fI) ⟨.ref (h.objs.size + 1) :: us, kw⟩) (InitBack (h.objs.size + 1) R)
      ⟨(h.push (kdv_tup us)).push (excO C h.objs.size), g, dr, tk, os⟩) :
    codeAny (model prog w) A (.call (.ref C) ⟨us, kw⟩) R ⟨h, g, dr, tk, os⟩ := by
  have f1 := tc_lookup
  have f2 := tc_bind (.ref C)
  have isT : (⟨h, g, dr, tk, os⟩ : Shared).TypeIs (.ref C) "type" := ⟨_, at', rfl⟩
  refine codeAny_of_tree ?_
  show wpAny _ _ (callAny (.ref C) _) _ _ _
  repeat (any_goals (first
    | assumption
    | with_reducible refine wpAny_loadPart_at at' ?_
    | wp_step))
  refine ⟨rfl, ?_⟩
  refine codeAny_call_builtin_at (Code.quiet_builtin _ (by decide +kernel)) entry_typeCall (wpAny_check_type_call_sub at' (type_kw F same at' few looks binds ?_))
  refine codeAny_mono done fun r s' z => ?_
  rcases r with e | (v | _ | _ | _) <;> exact z
end
end Mq

namespace Mq
open PySem PySem.Spec PyProof.Rows L2
open PySem.W (Frag)
open PySem.Builtin.ObjectAttr
/-! ### a second field -/
section
variable {prog : Program} {w : World} {A : Around} {E : Value → Shared → Prop} {R : Result → Shared → Prop}
  {hp : Heap} {g : Array GenState} {d : Drawn} {t : Nat} {os : OsState} {K : Frag}
theorem osa_next {name n0 : Str} {tk : Tok} {v v0 : Value} {x C t1 dx : Addr} (X : K.In hp)
    (hx : hp.get? x = some (PySem.W.excObj C t1 (some dx) .none)) (hn : hp.Ns1 dx (fun y => if y = n0 then some v0 else none)) (ho : PySem.W.excOver K C exTail = true)
    (hh : PySem.W.hasDictIn K C = true) (ht : PySem.W.takerIn K C name = some none)
    (hq : ∀ h' tk', (∀ b o, b ≠ dx → hp.get? b = some o → h'.get? b = some o) →
      h'.Ns1 dx (fun y => if y = name then some v else if y = n0 then some v0 else none) → R (.ok (.ret .none)) ⟨h', g, d, tk', os⟩) :
    codeAny (model prog w) A (.call (.builtin "object.__setattr__") ⟨[.ref x, .str name tk, v], []⟩) R ⟨hp, g, d, t, os⟩ := by
  obtain ⟨od, hod, _⟩ := lookIn_ns hn
  refine PySem.W.osa_openX (od := some od) (s := ⟨hp, g, d, t, os⟩) F.store_Exception X ⟨hx, rfl, rfl, hod⟩ ho ht (fun b => ?_)
  obtain ⟨cd, hc, hd'⟩ := PySem.W.any_some hh
  have Lc : PySem.W.Looks (model prog w) hp (classData C) cd := PySem.W.looks_clsIn X hc
  refine wpAny_bind (wpAny_pure (wpAny_bind ?_))
  unfold ownDictForStores
  show wpAny _ _ (instanceDict x true) _ _ _
  unfold instanceDict
  refine wpAny_bind (wpAny_loadPart hx ?_)
  dsimp only
  refine wpAny_bind (Lc.here ?_)
  rw [hd']
  rw [if_neg (by decide)]
  refine wpAny_pure ?_
  show wpAny _ _ (storeInDict dx (.str name tk) name v) _ _ _
  unfold storeInDict newKeyGuard
  refine wpAny_bind (wpAny_pure (wpAny_bind (wpAny_nsSet1 hn fun h' hn' hs => ?_)))
  have hw : PySem.Within (fun y => if y = name then some v else if y = n0 then some v0 else none) [name, n0] := by
    have h1 := PySem.Within.cons name v (PySem.Within.cons n0 v0 PySem.Within.nil)
    exact h1
  obtain ⟨oD, esD, epD, hoD, hdD, hcD⟩ := hn'.count hw
  refine wpAny_bind (wpAny_lookBehind hoD (by rw [hdD]; exact pastItsLine_dict (Nat.le_trans hcD (by rw [sizeLine_eq]; show 2 ≤ 16777216 + 1; decide))) ?_)
  wp_walk
  exact hq h' _ (fun b o hb ho => (hs.2 b hb).trans ho) hn'
end
/-! ### errors as values -/
def ExF (C : Addr) (d : Option Addr) (a : Addr) : HO := .ext fun h => ∃ (oe : Obj) (vs : Array Value), h.get? a = some oe ∧ Zc (.ref C) d oe ∧ oe.data = .fields vs
theorem exF_ok {P : Program} {w : World} {H : Hp} {h : Heap} {a C : Addr} {d : Option Addr} {oe : Obj} {vs : Array Value} (e : h.get? a = some oe) (z : Zc (.ref C) d oe) (f : oe.data = .fields vs) : ObjOk P w H h a (ExF C d a) :=
  ⟨⟨oe, vs, e, z, f⟩, ⟨oe, e⟩, fun _ _ ⟨o, v, q, r⟩ k => ⟨o, v, k o q, r⟩⟩
/-- the error at e, of the class C, its field's dict at d -/
structure ErrAt (H : Hp) (C e d : Addr) (fs : List (Str × V)) : Prop where
  ex : H e = some (ExF C (some d) e)
  fd : H d = some (.xd fs)
theorem ErrAt.same {H H' : Hp} {C e d : Addr} {fs : List (Str × V)} (h : ErrAt H C e d fs) (s : ∀ b o, H b = some o → H' b = some o) : ErrAt H' C e d fs := ⟨s _ _ h.ex, s _ _ h.fd⟩
section
variable {X : Cx} {pins : List (Addr × Obj)} {σ : L2.St} {H : Hp} {s : Shared}
/-- e.n, e an error that is a value -/
def tXv (C : Addr) (n : Str) (te : TE) : TE := fun σ H Q => te σ H fun x H1 => ∃ (a d : Addr) (fs : List (Str × V)) (v : V), x = .ref a ∧ ErrAt H1 C a d fs ∧ fs.lookup n = some v ∧ Q v H1
theorem pe_xv {C : Addr} {e : Expr} {te : TE} {pos : Pos} {n : Str} (T : XfC X.K C) (hno : PySem.W.findIn X.K (.ref C) n = some none)
    (he : PE X e te) (hb : attributeBase e n X.env (eval e X.env) = eval e X.env := by rfl) : PE X (.Attribute e n pos) (tXv C n te) := by
  refine ⟨fun pins s σ H Q I h => ?_⟩
  refine attr_of hb (thn (he.run pins s σ H _ I h) fun u s1 hh => ?_)
  obtain ⟨x, H1, I1, rx, a, dd, fs, v, ex, er, l, q⟩ := hh
  subst ex
  obtain rfl : u = Value.ref a := rx
  obtain ⟨⟨oe, vs, ha, hz, hd⟩, _, _⟩ := (show ObjOk X.prog X.w H1 s1.heap a (ExF C (some dd) a) from I1.hok a _ er.ex)
  obtain ⟨mA, hns, hr⟩ := (show ObjOk X.prog X.w H1 s1.heap dd (.xd fs) from I1.hok dd _ er.fd)
  obtain ⟨od, ho, hl⟩ := lookIn_ns hns
  obtain ⟨u, hu, ru⟩ := RelO.some_of (v := v) (o := mA n) (by rw [← l]; exact hr n)
  have J : PySem.W.InstAt s1.heap a oe C (some od) := by
    refine ⟨ha, hz.1, ?_, ?_⟩
    · unfold PySem.W.notCls
      rw [hd]
    · rw [hz.2]
      exact ho
  exact HandSPX.exc_get I1.kIn J T.ga T.gg T.exC (PySem.W.findObj_own T.hdC hno rfl (by rw [hl, hu])) (handed_of ru) ⟨v, H1, I1.tok _, ru, q⟩
/-- isinstance(e, c), e an error that is a value -/
def rIsE (K : PySem.W.Frag) : List V → Hp → VK → Prop := fun xs H Q => ∃ (a D : Addr) (d : Option Addr) (c : V) (u : Value) (b : Bool), xs = [.ref a, c] ∧ ClsV c u ∧ H a = some (ExF D d a) ∧
  (∀ x, d = some x → ∃ fs, H x = some (.xd fs)) ∧ HeldC K D ∧ PySem.W.kitOne K (.ref D) u = some b ∧ Q (.bl b) H
theorem call_isE : CallR X (.builtin "isinstance") (rIsE X.K) := by
  intro pins s σ H xs us Q I r h
  obtain ⟨a, D, d, c, u, b, rfl, k, ha, hdx, C, e, q⟩ := h
  obtain ⟨u1, u2, rfl, r1, r2⟩ := vals2 r
  have e2 := k.eq r2
  subst e2
  cases r1
  obtain ⟨⟨oe, vs, hget, hz, hv⟩, _, _⟩ := (show ObjOk X.prog X.w H s.heap a (ExF D d a) from I.hok a _ ha)
  obtain ⟨od, J⟩ : ∃ od, PySem.W.InstAt s.heap a oe D od := by
    cases d with
    | none =>
      refine ⟨none, hget, hz.1, ?_, ?_⟩
      · unfold PySem.W.notCls
        rw [hv]
      · rw [hz.2]
        trivial
    | some dd =>
      obtain ⟨fs, hf⟩ := hdx dd rfl
      obtain ⟨mA, ⟨od, es, ep, ho, _⟩, _⟩ := (show ObjOk X.prog X.w H s.heap dd (.xd fs) from I.hok dd _ hf)
      refine ⟨some od, hget, hz.1, ?_, ?_⟩
      · unfold PySem.W.notCls
        rw [hv]
      · rw [hz.2]
        exact ho
  refine PySem.W.kia_one (PySem.W.kitx_exc C.cl C.ga C.gg C.sb C.ca C.sp C.tk C.mo) I.kIn J e (fun z => by cases z) (fun tk => ?_)
  exact ⟨.bl b, H, I.kept (t' := tk) (fun _ _ z => z), rfl, q⟩
/-- C(), a bare one -/
theorem pe_exB {C : Addr} {bmB : List Value} {B newId initId : String} {x : Str} {p pos : Pos} (F : ExcBaseFacts B newId initId bmB) (q : PySem.W.excIn X.K C bmB newId = true) (gC : X.mg x = some (.ref C)) (kC : PySem.W.keepIn X.K (.ref C) = true) (hg : Gl X x)
    (hdb : (x == ("__debug__" : Str)) = false := by decide) :
    PE X (.Call (.Name x p) [] [] pos) (fun _ H Q => ∀ a, H a = none → Q (.ref a) (upd H a (ExF C none a))) := by
  refine ⟨fun pins s σ H Q I h => ?_⟩
  refine wpAny_Call_Name_kw (ld_glob I hg gC ?_ hdb)
  refine PySem.W.callWith_K0 I.kIn kC ?_
  obtain ⟨bm, N, nm, qn, bs, hdct, sn, sub, ab, col, dd, k0, k1, k2, k3, k5, mN, hC, hN, hni, T⟩ := exc_obj I.kIn q
  refine wpAny_call_exc_subT F T hC hN hni (fun h' a hm => ?_) (by show 0 ≤ sizeLine; exact Nat.zero_le _)
  have hn : H a = none := I.hok.gone hm.new
  obtain ⟨t, ht, _, _⟩ := hm.there
  exact ⟨.ref a, upd H a (ExF C none a), I.laidN hm.keeps hm.new hn (exF_ok ht ⟨rfl, rfl⟩ rfl), rfl, h a hn⟩
end
end Mq

namespace Mq
open PySem PySem.Spec PyProof.Rows L2
open PySem.W (Frag)
/-! ### the call of an error's class as a value -/
/-- a made error, its fields by m -/
structure MadeM (h h' : Heap) (e C d : Addr) (m : Str → Option Value) : Prop where
  keep : ∀ b o, h.get? b = some o → h'.get? b = some o
  new : h.objs.size ≤ e
  obj : ∃ oe vs, h'.get? e = some oe ∧ oe.cls = .ref C ∧ oe.dict = some d ∧ oe.data = .fields vs ∧ vs[1]? = some .none
  big : h.objs.size ≤ d
  ne : d ≠ e
  ns : h'.Ns1 d m
/-- what the written part says of an error's class -/
structure ErrC (K : Frag) (mg : Str → Option Value) (x : Str) (C fI : Addr) : Prop where
  gC : mg x = some (.ref C)
  kC : PySem.W.keepIn K (.ref C) = true
  ex : PySem.W.excInitIn K C exTail "Exception.__new__" = true
  ov : PySem.W.excOver K C exTail = true
  hdC : PySem.W.hasDictIn K C = true
  sa : PySem.W.findIn K (.ref C) "__setattr__" = some (some (.builtin "object.__setattr__"))
  iC : PySem.W.findIn K (.ref C) "__init__" = some (some (.ref fI))
  tC : PySem.W.typeIn K (.ref fI) = some (.type "function")
  exC : PySem.W.subIn K (.ref C) (.type "BaseException") = some true
  tyC : PySem.W.typeIn K (.ref C) = some (.type "type")
/-- calls of C with these arguments make an error with fields by m -/
def Makes (K : Frag) (C : Addr) (us : List Value) (kw : List (Str × Value)) (m : Str → Option Value) : Prop :=
  ∀ (prog : Program) (w : World) (A : Around) (R : Result → Shared → Prop) (s : Shared), K.In s.heap → s.heap.NoLimit → A.depth + 1 < recursionLimit →
    (∀ h' tk e d, MadeM s.heap h' e C d m → R (.ok (.ret (.ref e))) { s with heap := h', toks := tk }) → codeAny (model prog w) A (.call (.ref C) ⟨us, kw⟩) R s
theorem zip_rel : ∀ {ks : List Str} {vs : List V} {us : List Value}, Vals vs us → ∀ f : Str, RelO ((ks.zip vs).lookup f) ((ks.zip us).lookup f)
  | [], _, _, _, f => by simp [RelO]
  | _ :: _, _, _, .nil, f => by simp [RelO]
  | k :: ks, _, _, .cons r t, f => by
    rw [List.zip_cons_cons, List.zip_cons_cons, List.lookup_cons, List.lookup_cons]
    cases f == k with
    | true => exact r
    | false => exact zip_rel t f
section
variable {X : Cx} {pins : List (Addr × Obj)} {σ : L2.St} {H : Hp}
theorem laid_exc {hp h' : Heap} {g : Array GenState} {dr : Drawn} {tk tk' : Nat} {os : OsState} {e C d : Addr} {m : Str → Option Value} {fs : List (Str × V)}
    (I : L2.Inv X pins σ H ⟨hp, g, dr, tk, os⟩) (M : MadeM hp h' e C d m) (hr : ∀ f, RelO (fs.lookup f) (m f)) :
    H d = none ∧ H e = none ∧ L2.Inv X pins σ (upd (upd H d (.xd fs)) e (ExF C (some d) e)) ⟨h', g, dr, tk', os⟩ := by
  obtain ⟨oe, fv, hoe, hc, hd, hdat, h1⟩ := M.obj
  have hns := M.ns
  obtain ⟨G', g1, g2⟩ := restrict h' fun b => decide (b ≠ e)
  have gk : ∀ b, b ≠ e → G'.get? b = h'.get? b := fun b hb => g1 b (decide_eq_true hb)
  have ge : G'.get? e = none := g2 e (by simp)
  have old : ∀ b o, hp.get? b = some o → G'.get? b = some o := fun b o q => (gk b (Nat.ne_of_lt (Nat.lt_of_lt_of_le (Heap.lt_size q) M.new))).trans (M.keep b o q)
  have ob : ObjOk X.prog X.w (upd H d (.xd fs)) G' d (.xd fs) := ⟨m, hns.at (fun o q => (gk d M.ne).trans q), hr⟩
  have J : L2.Inv X pins σ (upd H d (.xd fs)) ⟨G', g, dr, tk', os⟩ := I.laid (t' := tk') old M.big ob
  have ne : upd H d (.xd fs) e = none := by
    rw [upd_ne (Ne.symm M.ne)]
    exact I.hok.fresh M.new
  have up : ∀ b o, G'.get? b = some o → h'.get? b = some o := fun b o q => by
    by_cases hb : b = e
    · rw [hb, ge] at q
      cases q
    · exact (gk b hb).symm.trans q
  exact ⟨I.hok.fresh M.big, I.hok.fresh M.new, J.laidN (s := ⟨G', g, dr, tk', os⟩) (t' := tk') up ge ne (exF_ok hoe ⟨hc, hd⟩ hdat)⟩
end
section
variable {X : Cx} {C fI : Addr} {x : Str} {k : Nat} {p pos : Pos} {e : Expr} {es : List Expr} {kws : List Keyword} {t tk : TA} {ks kks : List Str}
/-- C(e, ..) -/
def tMkP (C : Addr) (ks : List Str) (t : TA) : TE := fun σ H Q => t σ H fun vs H1 => vs.length = ks.length ∧ ∀ e d, H1 d = none → H1 e = none → d ≠ e → Q (.ref e) (upd (upd H1 d (.xd (ks.zip vs))) e (ExF C (some d) e))
theorem pe_mkP (T : ErrC X.K X.mg x C fI) (hr : Room k X.A) (M : ∀ us : List Value, us.length = ks.length → Makes X.K C us [] fun y => (ks.zip us).lookup y) (ha : PA X (e :: es) t) (hg : Gl X x := by rfl)
    (hdb : (x == ("__debug__" : Str)) = false := by decide) (he : starEach (e :: es) X.env = (false, eval e X.env) :: starEach es X.env := by rfl) (hpl : (backTo pos (starEach es X.env)).any (·.1) = false := by rfl) :
    PE X (.Call (.Name x p) (e :: es) [] pos) (tMkP C ks t) := by
  refine ⟨fun pins s σ H Q I h => ?_⟩
  refine wpAny_Call_Name_kw (ld_glob I hg T.gC ?_ hdb)
  refine PySem.W.callWith_K (h₀ := X.base) I.ok.mod.kin T.kC (thn (ha.run pos pins s σ H _ I h) fun us s1 hh => ?_) he hpl
  obtain ⟨vs, H1, I1, r1, hl, q1⟩ := hh
  refine ⟨I1.kIn, ?_⟩
  have hlim := I1.nolimit
  obtain ⟨hp, g, dr, tk, os⟩ := s1
  have hus : us.length = ks.length := r1.length.symm.trans hl
  show wpAny _ _ (call (.ref C) us) _ _ _
  refine wpAny_call (M us hus X.prog X.w _ _ _ I1.kIn hlim (by have := hr.dp; omega) (fun h' tk' e d MM => ?_))
  obtain ⟨n1, n2, J⟩ := laid_exc (tk' := tk') I1 MM (zip_rel r1)
  exact ⟨.ref e, _, J, rfl, q1 e d n1 n2 MM.ne⟩
/-- C(k = e, ..): the fields' values by g -/
def tMkK (C : Addr) (ks : List Str) (n : Nat) (g : {α : Type} → List α → List α) (tk : TA) : TE := fun σ H Q => tk σ H fun zs H1 => zs.length = n ∧ ∀ e d, H1 d = none → H1 e = none → d ≠ e → Q (.ref e) (upd (upd H1 d (.xd (ks.zip (g zs)))) e (ExF C (some d) e))
theorem pe_mkK {g : {α : Type} → List α → List α} (T : ErrC X.K X.mg x C fI) (hr : Room k X.A) (hg2 : ∀ {vs : List V} {us : List Value}, Vals vs us → Vals (g vs) (g us))
    (M : ∀ ws : List Value, ws.length = kks.length → Makes X.K C [] (kks.zip ws) fun y => (ks.zip (g ws)).lookup y) (hkw : PK X kws tk) (hg : Gl X x := by rfl)
    (hall : (backToKw pos (keywordEach kws X.env)).all (·.1.isSome) = true := by rfl) (hks : (backToKw pos (keywordEach kws X.env)).filterMap (·.1) = kks := by rfl)
    (hdb : (x == ("__debug__" : Str)) = false := by decide)
    (hpl : ((backTo pos (starEach [] X.env)).any (·.1) || (backToKw pos (keywordEach kws X.env)).any (·.1.isNone)) = false := by rfl) :
    PE X (.Call (.Name x p) [] kws pos) (tMkK C ks kks.length g tk) := by
  refine ⟨fun pins s σ H Q I h => ?_⟩
  refine wpAny_Call_Name_kw (ld_glob I hg T.gC ?_ hdb)
  refine PySem.W.callWith_KW0 (h₀ := X.base) I.ok.mod.kin T.kC hall ?_ hpl
  refine thn (hkw.run pos pins s σ H _ I h) fun ws s2 ⟨zs, H2, I2, rz, hl, q2⟩ => ⟨I2.kIn, ?_⟩
  rw [hks]
  have hlim := I2.nolimit
  have hws : ws.length = kks.length := rz.length.symm.trans hl
  obtain ⟨hp, gg, dr, tk, os⟩ := s2
  refine wpAny_call (M ws hws X.prog X.w _ _ _ I2.kIn hlim (by have := hr.dp; omega) (fun h' tk' e d MM => ?_))
  obtain ⟨n1, n2, J⟩ := laid_exc (tk' := tk') I2 MM (zip_rel (hg2 rz))
  exact ⟨.ref e, _, J, rfl, q2 e d n1 n2 MM.ne⟩
end
end Mq

namespace Mq
open PySem PySem.Spec PyProof.Rows L2
/-! ### such a call behind raise -/
section
variable {X : Cx} {pins : List (Addr × Obj)} {σ : L2.St} {H : Hp}
theorem flown {hp h' : Heap} {g : Array GenState} {dr : Drawn} {tk tk' : Nat} {os : OsState} {e C d : Addr} {m : Str → Option Value} {fs : List (Str × V)} {Q : XK}
    (I : L2.Inv X pins σ H ⟨hp, g, dr, tk, os⟩) (M : MadeM hp h' e C d m) (hr : ∀ f, RelO (fs.lookup f) (m f)) (rs : Raises X (.ref C)) (q : Q (.ref C) (some d) (upd H d (.xd fs))) (hd : H d = none) :
    MkP X pins σ Q (.ref e) ⟨h', g, dr, tk', os⟩ := by
  obtain ⟨oe, fv, hoe, hc, hd', hdat, h1⟩ := M.obj
  have hns := M.ns
  obtain ⟨G', g1, g2⟩ := restrict h' fun b => decide (b ≠ e)
  have gk : ∀ b, b ≠ e → G'.get? b = h'.get? b := fun b hb => g1 b (decide_eq_true hb)
  have ge : G'.get? e = none := g2 e (by simp)
  have old : ∀ b o, hp.get? b = some o → G'.get? b = some o := fun b o q => (gk b (Nat.ne_of_lt (Nat.lt_of_lt_of_le (Heap.lt_size q) M.new))).trans (M.keep b o q)
  have ob : ObjOk X.prog X.w (upd H d (.xd fs)) G' d (.xd fs) := ⟨m, hns.at (fun o q => (gk d M.ne).trans q), hr⟩
  have J : L2.Inv X pins σ (upd H d (.xd fs)) ⟨G', g, dr, tk', os⟩ := I.laid (t' := tk') old M.big ob
  refine ⟨e, oe, fv, ⟨G', g, dr, tk', os⟩, _, .ref C, some d, rfl, J, (fun b o q => ?_), ge, hoe, ⟨hc, hd'⟩, hdat, h1, ?_, rfl, I.bare, rs, q⟩
  · by_cases hb : b = e
    · have q' : G'.get? b = some o := q
      rw [hb, ge] at q'
      cases q'
    · exact (gk b hb).symm.trans q
  · rw [upd_ne (Ne.symm M.ne)]
    exact I.hok.fresh M.new
end
section
variable {X : Cx} {C fI : Addr} {x : Str} {k : Nat} {p pos : Pos} {e : Expr} {es : List Expr} {kws : List Keyword} {t tk : TA} {ks kks : List Str}
def tFlP (C : Addr) (ks : List Str) (t : TA) : L2.St → Hp → XK → Prop := fun σ H Q => t σ H fun vs H1 => vs.length = ks.length ∧ ∀ d, H1 d = none → Q (.ref C) (some d) (upd H1 d (.xd (ks.zip vs)))
theorem pmkP (T : ErrC X.K X.mg x C fI) (hr : Room k X.A) (M : ∀ us : List Value, us.length = ks.length → Makes X.K C us [] fun y => (ks.zip us).lookup y) (ha : PA X (e :: es) t) (hg : Gl X x := by rfl)
    (hdb : (x == ("__debug__" : Str)) = false := by decide) (he : starEach (e :: es) X.env = (false, eval e X.env) :: starEach es X.env := by rfl) (hpl : (backTo pos (starEach es X.env)).any (·.1) = false := by rfl) :
    PMk X (.Call (.Name x p) (e :: es) [] pos) (tFlP C ks t) := by
  intro pins s σ H Q I h
  refine wpAny_Call_Name_kw (ld_glob I hg T.gC ?_ hdb)
  refine PySem.W.callWith_K (h₀ := X.base) I.ok.mod.kin T.kC (thn (ha.run pos pins s σ H _ I h) fun us s1 hh => ?_) he hpl
  obtain ⟨vs, H1, I1, r1, hl, q1⟩ := hh
  refine ⟨I1.kIn, ?_⟩
  have hlim := I1.nolimit
  obtain ⟨hp, g, dr, tk, os⟩ := s1
  have hus : us.length = ks.length := r1.length.symm.trans hl
  show wpAny _ _ (call (.ref C) us) _ _ _
  refine wpAny_call (M us hus X.prog X.w _ _ _ I1.kIn hlim (by have := hr.dp; omega) (fun h' tk' e d MM => ?_))
  exact flown I1 MM (zip_rel r1) (raises_own T.exC T.tyC) (q1 d (I1.hok.fresh MM.big)) (I1.hok.fresh MM.big)
def tFlK (C : Addr) (ks : List Str) (n : Nat) (g : {α : Type} → List α → List α) (tk : TA) : L2.St → Hp → XK → Prop := fun σ H Q => tk σ H fun zs H1 => zs.length = n ∧ ∀ d, H1 d = none → Q (.ref C) (some d) (upd H1 d (.xd (ks.zip (g zs))))
theorem pmkK {g : {α : Type} → List α → List α} (T : ErrC X.K X.mg x C fI) (hr : Room k X.A) (hg2 : ∀ {vs : List V} {us : List Value}, Vals vs us → Vals (g vs) (g us))
    (M : ∀ ws : List Value, ws.length = kks.length → Makes X.K C [] (kks.zip ws) fun y => (ks.zip (g ws)).lookup y) (hkw : PK X kws tk) (hg : Gl X x := by rfl)
    (hall : (backToKw pos (keywordEach kws X.env)).all (·.1.isSome) = true := by rfl) (hks : (backToKw pos (keywordEach kws X.env)).filterMap (·.1) = kks := by rfl)
    (hdb : (x == ("__debug__" : Str)) = false := by decide)
    (hpl : ((backTo pos (starEach [] X.env)).any (·.1) || (backToKw pos (keywordEach kws X.env)).any (·.1.isNone)) = false := by rfl) :
    PMk X (.Call (.Name x p) [] kws pos) (tFlK C ks kks.length g tk) := by
  intro pins s σ H Q I h
  refine wpAny_Call_Name_kw (ld_glob I hg T.gC ?_ hdb)
  refine PySem.W.callWith_KW0 (h₀ := X.base) I.ok.mod.kin T.kC hall ?_ hpl
  refine thn (hkw.run pos pins s σ H _ I h) fun ws s2 ⟨zs, H2, I2, rz, hl, q2⟩ => ⟨I2.kIn, ?_⟩
  rw [hks]
  have hlim := I2.nolimit
  have hws : ws.length = kks.length := rz.length.symm.trans hl
  obtain ⟨hp, gg, dr, tk, os⟩ := s2
  refine wpAny_call (M ws hws X.prog X.w _ _ _ I2.kIn hlim (by have := hr.dp; omega) (fun h' tk' e d MM => ?_))
  exact flown I2 MM (zip_rel (hg2 rz)) (raises_own T.exC T.tyC) (q2 d (I2.hok.fresh MM.big)) (I2.hok.fresh MM.big)
end
end Mq

namespace Mq
open PySem PySem.Spec PyProof.Rows L2
section
variable {X : Cx} {pins : List (Addr × Obj)} {σ : L2.St} {H : Hp} {s : Shared}
/-- repr where an error is held: only the room below counts -/
theorem call_repU' (hu : X.A.units + 200 < cLine) (gA : Still X.A) : CallR X (.builtin "repr") (rRep X.K) := by
  intro pins s σ H xs us Q I r h
  obtain ⟨v, d, rfl, hd, hs, hz, hl, q⟩ := h
  cases r with
  | cons rx rr =>
    cases rr
    obtain ⟨as, rd, hn⟩ := Dg.rd I hd rx
    have leaf : ∀ {d : PyData} {t : Tok}, Q (.str d.shown) H → EP X pins σ Q (.str d.shown t) { s with toks := s.toks + 1 } :=
      fun {d t} q => ⟨.str d.shown, H, I.tok _, ⟨_, rfl⟩, q⟩
    cases hd with
    | non =>
      cases rx
      exact PySem.P.repr_of_none (leaf (d := .none) q)
    | bl b =>
      cases rx
      exact PySem.P.repr_of_bool (leaf (d := .bool b) q)
    | int i =>
      obtain ⟨t, rfl⟩ := rx
      exact PySem.P.repr_of_int (by simpa [PyData.showable] using hs) (leaf (d := .int i) q)
    | str x =>
      obtain ⟨t, rfl⟩ := rx
      refine PySem.P.repr_of_str (leaf (d := .str x) q) ?_
      simpa only [PyData.shown] using hl
    | lst ne h1 h2 =>
      cases rx
      exact repr_of_reads' rd hs (fun _ => hn) gA (by omega) (fun _ _ e => e) (fun h' u tk k => ⟨.str _, H, I.kept k, ⟨_, rfl⟩, q⟩) hl
    | tup h1 h2 =>
      cases rx
      exact repr_of_reads' rd hs (fun _ => hn) gA (by omega) (fun _ _ e => e) (fun h' u tk k => ⟨.str _, H, I.kept k, ⟨_, rfl⟩, q⟩) hl
    | dct h1 h2 =>
      cases rx
      exact repr_of_reads' rd hs (fun _ => hn) gA (by omega) (fun _ _ e => e) (fun h' u tk k => ⟨.str _, H, I.kept k, ⟨_, rfl⟩, q⟩) hl
/-- the same, the written part named -/
theorem call_repU {K0 : PySem.W.Frag} (hK : X.K = K0) (hu : X.A.units + 200 < cLine) (gA : Still X.A) : CallR X (.builtin "repr") (rRep K0) := hK ▸ call_repU' hu gA
theorem pe_bmK {K0 : PySem.W.Frag} {e : Expr} {T : String} {r : V → List V → Hp → VK → Prop} {to : TE} {t : TA} (hK : X.K = K0) (h : PE X e (tBM X.K T r to t)) : PE X e (tBM K0 T r to t) := hK ▸ h
end
end Mq

namespace Mq
open PySem PySem.Spec PyProof.Rows L2
/-! ### several except clauses, each with the same name -/
/-- the ends behind a suite whose name in slot i goes -/
def backI (D : Ends) (i : Nat) : Ends := ⟨fun τ G => D.nx (τ.set i none) G, D.rt, fun τ G => D.bk (τ.set i none) G, fun τ G => D.ct (τ.set i none) G⟩
def wAll (K : PySem.W.Frag) (i : Nat) (Wo : WX) (D : Ends) : List (Value × (Addr → Value → Option Addr → TS)) → WX
  | [] => Wo
  | p :: ps => fun cl fd τ G => ∃ b, PySem.W.exmOne K cl p.1 = some b ∧ (b = true → ∀ ea, G ea = none → p.2 ea cl fd (backI D i) (τ.set i (some (.ref ea))) G) ∧ (b = false → wAll K i Wo D ps cl fd τ G)
inductive HdsN (X : Cx) (n : Str) : List ExceptHandler → List (Value × (Addr → Value → Option Addr → TS)) → Prop
  | nil : HdsN X n [] []
  | cons {x : Str} {c : Value} {ts : Addr → Value → Option Addr → TS} {s₀ : Stmt} {sts : List Stmt} {np hp : Pos} {hds : List ExceptHandler} {l : List (Value × (Addr → Value → Option Addr → TS))} (nm : Names X x c)
      (su : ∀ (ea : Addr) (eo : Obj) (cl : Value) (fd : Option Addr) (pn : List (Addr × Obj)), Zc cl fd eo → (∃ vs, eo.data = .fields vs) → PSs (X.suite ea ((ea, eo) :: pn)) (s₀ :: sts) (ts ea cl fd)) (rest : HdsN X n hds l) :
      HdsN X n (.ExceptHandler (some (.Name x np)) (some n) (s₀ :: sts) hp :: hds) ((c, ts) :: l)
section
variable {X : Cx} {n : Str} {i : Nat} {bd : List Stmt} {hd1 : ExceptHandler} {hds : List ExceptHandler} {l : List (Value × (Addr → Value → Option Addr → TS))} {pos : Pos} {tb : WX → TS} {Wo : WX}
theorem ps_try_all (st1 : X.stack = X.env :: X.outer) (fr1 : X.env.frame = some X.env.locals) (nd1 : X.N.Nodup) (at1 : X.N[i]? = some n) (loc1 : X.env.kindOf n = some .local) (tk : Takes X Wo)
    (body : ∀ (W : WX) (pn : List (Addr × Obj)) (xe : Value → Shared → Prop), Takes (X.tr pn xe) W → PassesOwn (model X.prog X.w) X.A X.env xe → PSs (X.tr pn xe) bd (tb W))
    (hh : HdsN X n (hd1 :: hds) l) : PS X (.Try bd (hd1 :: hds) [] [] pos) (fun D τ G => tb (wAll X.K i Wo D l) D τ G) := by
  refine ⟨fun pins s τ G D J0 h => ?_⟩
  have good := J0.ok
  have frs1 : X.A.frames = some (X.env :: X.outer) := by rw [good.frames, st1]
  have lc1 : Loc X.env.scope n := .inl loc1
  refine wpAny_Try_except ?_
  refine wpAny_mono ((body (wAll X.K i Wo D l) (X.pn ++ pins) (fun e t1 => wpAny (model X.prog X.w) X.A (noteFrame e X.env) (fun _ t2 => wpAny (model X.prog X.w) X.A (setFlight e none)
    (fun _ t3 => wpAny (model X.prog X.w) X.A (handleBy e X.env (hd1 :: hds)) (SP X pins D) X.xe t3) X.xe t2) X.xe t1) (fun u t xx => ?_) PassesOwn.looking).run [] s τ G D (J0.toTry _) h) (fun f t1 hsp => ?_) (fun e t1 he => he)
  · obtain ⟨ea, B, sA, pn1, τ1, G1, cl, fd, rfl, J1, nb, up, sky, na, os, ag, w⟩ := xx
    have J2 : Inv X pins τ1 G1 sA := J1.ofTry good
    have sky2 : Sky B (X.env :: X.outer) ea (Zc cl fd) X.env.locals t.heap := by rw [← st1]; exact sky
    show wpAny (model X.prog X.w) X.A (noteFrame (.ref ea) X.env) _ _ _
    refine Sky.land Zc.steady frs1 fr1 sky2 fun g3 fl3 up3 => ?_
    have J3 : Inv X pins τ1 G1 { t with heap := g3 } := J2.landed nb fl3.1 (up.trans up3) os ag
    obtain ⟨eo3, ws3, e3, z3, d3⟩ := fl3.there
    have out1 : ∀ {g : Heap} {o : Obj} {ws : Array Value}, g.FunFrames B (X.env :: X.outer) → g.get? ea = some o → o.data = .fields ws → ea ∉ frs (X.env :: X.outer) := fun {g o ws} ff e dd hm => by
      obtain ⟨_, o2, e2, no⟩ := ff.mem hm
      rw [e] at e2
      cases e2
      exact no _ dd
    have out2 := out1 fl3.2.2.1 e3 d3
    have nL : ea ≠ X.env.locals := fun z => out2 (List.mem_filterMap.mpr ⟨X.env, List.mem_cons_self, by rw [fr1, z]⟩)
    have nF : ea ∉ X.fs := fun hm => by
      obtain ⟨e, he, q⟩ := List.mem_filterMap.mp hm
      exact out2 (List.mem_filterMap.mpr ⟨e, List.mem_cons_of_mem _ he, q⟩)
    have S3 := J3.suite e3 d3 na nL nF
    have go : ∀ {hs2 : List ExceptHandler} {l2 : List (Value × (Addr → Value → Option Addr → TS))}, HdsN X n hs2 l2 → wAll X.K i Wo D l2 cl fd τ1 G1 → wpAny (model X.prog X.w) X.A (handleBy (.ref ea) X.env hs2) (SP X pins D) X.xe { t with heap := g3 } := by
      intro hs2 l2 hk
      induction hk with
      | nil =>
        intro w
        refine wpAny_handleBy_nil ?_
        obtain ⟨k1, k2, k3, eo, ws, T, oT, tz, he, hz, hd, h1, hr⟩ := id fl3
        unfold PySem.passOn
        refine wpAny_bind (wpAny_field he hd h1 ?_)
        rw [if_neg (show ¬ ((Value.ref T == Value.none) = true) by simp)]
        have fin : wpAny (model X.prog X.w) X.A (setFlight (.ref ea) X.env.frame) (fun _ t4 => wpAny (model X.prog X.w) X.A (throw (.ref ea) : Sem Flow) (SP X pins D) X.xe t4) X.xe { t with heap := g3 } := by
          rw [fr1]
          refine HandSPX.setFlight_upZ fl3 fun g4 hh4 up4 => wpAny_throw (tk _ _ ?_)
          exact ⟨ea, B, sA, pins, τ1, G1, cl, fd, rfl, J2, nb, (up.trans up3).trans up4, .inr (.inr (by rw [st1]; exact hh4)), na, os, ag, w⟩
        first | exact wpAny_bind (wpAny_pure (wpAny_bind fin)) | exact wpAny_bind fin
      | @cons x c ts s₀ sts np hp hs3 l3 nm su rest ih =>
        intro w
        obtain ⟨b, hb1, yes, no⟩ := w
        refine wpAny_handleBy_cons (codeAny_handlers_test ?_) (by intro q; cases q)
        have LT : PySem.W.Looks (model X.prog X.w) g3 (typeOf (.ref ea)) cl := fun A Q E s k q => wpAny_typeOf_ref (k _ _ e3) (by rw [z3.1]; exact q)
        have LM := PySem.W.exm_one (M := model X.prog X.w) (J3.kIn) LT hb1
        have test : ∀ {Q : Value → Shared → Prop} {E : Value → Shared → Prop}, Q c { t with heap := g3 } → wpAny (model X.prog X.w) (X.A.mark (some (.ref ea))) (eval (.Name x np) X.env) Q E { t with heap := g3 } := by
          intro Q E q
          obtain ⟨hg, hdb, hm | ⟨hm, hv, hnn⟩⟩ := nm
          · exact ld_glob (X := X.suite ea ((ea, eo3) :: (X.pn ++ pins))) S3 hg hm q hdb
          · exact ld_blt (X := X.suite ea ((ea, eo3) :: (X.pn ++ pins))) S3 hg hm hv q hnn hdb
        refine test (LM.here ?_)
        cases b with
        | true =>
          refine codeAny_handlers_suite_as ?_
          refine HandSPX.lands_againZ fl3 fun g4 fl4 up4 => ?_
          have J4 : Inv X pins τ1 G1 { t with heap := g4 } := J2.landed nb fl4.1 ((up.trans up3).trans up4) os ag
          obtain ⟨eo4, ws4, e4, z4, d4⟩ := fl4.there
          have S4 := J4.suite e4 d4 na nL nF
          refine store_ok (X := X.suite ea ((ea, eo4) :: (X.pn ++ pins))) (v := .ref ea) S4 nd1 at1 lc1 rfl (fun t5 S5 => ?_) (.inr loc1)
          refine wpAny_mono ((su ea eo4 cl fd (X.pn ++ pins) z4 ⟨_, d4⟩).run [] t5 _ G1 _ S5 (yes rfl ea na)) (fun f t6 hsp => ?_) (fun _ _ z => False.elim z)
          have fin : ∀ {τ6 : L2.St} {G6 : Hp} {Q : Shared → Prop}, Inv (X.suite ea ((ea, eo4) :: (X.pn ++ pins))) [] τ6 G6 t6 → (∀ t7, Inv X pins (τ6.set i none) G6 t7 → Q t7) →
              wpAny (model X.prog X.w) X.A (do bindName X.env n .none; unbindBehindTheSuite X.env n hp) (fun _ t7 => Q t7) X.xe t6 := fun {τ6 G6 Q} S6 hq => gone_ok (S6.unsuite good) nd1 at1 loc1 hq
          cases f with
          | next =>
            obtain ⟨τ6, G6, S6, q6⟩ := hsp
            exact fin S6 fun t7 J7 => ⟨_, _, J7, q6⟩
          | brk =>
            obtain ⟨τ6, G6, S6, q6⟩ := hsp
            exact fin S6 fun t7 J7 => ⟨_, _, J7, q6⟩
          | cont =>
            obtain ⟨τ6, G6, S6, q6⟩ := hsp
            exact fin S6 fun t7 J7 => ⟨_, _, J7, q6⟩
          | ret u =>
            obtain ⟨v6, τ6, G6, S6, r6, q6⟩ := hsp
            exact fin S6 fun t7 J7 => ⟨_, _, _, J7, r6, q6⟩
        | false =>
          show wpAny _ X.A (handleBy (.ref ea) X.env hs3) _ _ _
          exact ih (no rfl)
    exact go hh w
  · cases f with
    | next =>
      obtain ⟨τ1, G1, J1, q⟩ := hsp
      exact wpAny_execs_nil ⟨τ1, G1, J1.ofTry good, q⟩
    | brk =>
      obtain ⟨τ1, G1, J1, q⟩ := hsp
      exact ⟨τ1, G1, J1.ofTry good, q⟩
    | cont =>
      obtain ⟨τ1, G1, J1, q⟩ := hsp
      exact ⟨τ1, G1, J1.ofTry good, q⟩
    | ret u =>
      obtain ⟨v, τ1, G1, J1, r, q⟩ := hsp
      exact ⟨v, τ1, G1, J1.ofTry good, r, q⟩
end
end Mq

namespace Lw
open PySem PySem.Spec PyProof.Rows L2 Mq
open SX (S)
/-! ### what is heard of the three answers -/
def hear (k : Str) (v : V) (H : Hp) (Q : VK) : Prop := ∀ H' p, Same H H' → p ≠ sysModules → H' p = some (.lst [.str k, v, .bl true]) → Q (.ref p) H'
def spHeard (K : PySem.W.Frag) (C : Addr) : Sp := fun vs H Q _ => ∃ (way : Nat) (nm : Bool) (r fa ta : Addr) (sg : List Nat) (fs : List Fd) (v u : V), vs = [.ref r, .int (way : Nat), v, u, .bl nm] ∧ way < 3 ∧ BkAt H C r sg fs fa ta ∧ FsOk sg fs ∧
  ((∃ l row, WebGood sg v l ∧ WebGood sg u row ∧ ∀ H' x, Same H H' → Td K H' x (ansM fs l row way) → Q x H') ∨
   (BadS K H sg v ∧ hear "web" v H Q) ∨ ((∃ l, WebGood sg v l) ∧ BadS K H sg u ∧ hear "row" u H Q))
/-- what the written part says of an error -/
structure ErrT (K : PySem.W.Frag) (mg : Str → Option Value) (nm qn : Str) (CW CM fB : Addr) : Prop where
  txt : MqE_thing.Txt K mg nm qn CW fB
  xf : XfC K CW
  nt : PySem.W.findIn K (.ref CW) "thing" = some none
  held : HeldC K CW
  gM : mg "MillError" = some (.ref CM)
  kit : PySem.W.kitOne K (.ref CW) (.ref CM) = some true
  exm : PySem.W.exmOne K (.ref CW) (.ref CW) = some true
section
variable {P : Program} {w : World} {K : PySem.W.Frag} {mg : Str → Option Value} {base : Heap} {C CW CR CM : Addr}
theorem ok_heard {f f0 f1 f2 fB fB2 : Addr} {fd fd0 fd1 fd2 : FuncData} (F : Fun K "_law_heard" "_law_heard" s__law_heard f fd) (B : Blt mg) (T : ErrT K mg "BadWeb" "BadWeb.__init__" CW CM fB) (U : ErrT K mg "BadRow" "BadRow.__init__" CR CM fB2) (no : PySem.W.exmOne K (.ref CR) (.ref CW) = some false)
    (F0 : Fun K "webs_along" "webs_along" s_webs_along f0 fd0) (g0 : mg "webs_along" = some (.ref f0)) (b0 : Binds K fd0 ["book", "web", "row"] []) (k0 : KBn K fd0 ["book", "web", "row"] 0 ["row", "web", "book"] rev0 rev0) (G0 : FnOk P w K mg base (L2.CX P w) 5 f0 fd0 ["book", "web", "row"] (spAns K C CW CR 0))
    (F1 : Fun K "events" "events" s_events f1 fd1) (g1 : mg "events" = some (.ref f1)) (b1 : Binds K fd1 ["book", "web", "row"] []) (k1 : KBn K fd1 ["book", "web", "row"] 0 ["row", "web", "book"] rev0 rev0) (G1 : FnOk P w K mg base (L2.CX P w) 5 f1 fd1 ["book", "web", "row"] (spAns K C CW CR 1))
    (F2 : Fun K "sources" "sources" s_sources f2 fd2) (g2 : mg "sources" = some (.ref f2)) (b2 : Binds K fd2 ["book", "web", "row"] []) (k2 : KBn K fd2 ["book", "web", "row"] 0 ["row", "web", "book"] rev0 rev0) (G2 : FnOk P w K mg base (L2.CX P w) 5 f2 fd2 ["book", "web", "row"] (spAns K C CW CR 2)) :
    FnG P w K mg base CX0 7 f fd ["_law_code_here", "_law_way", "_law_cloth", "_law_lays_here", "_law_is_named"] (spHeard K C) := by
  refine Mq.Fun.okG F sc__law_heard (fun vs H Q E h => ?_) (fun cdv A outer s H vs Q E gA hr h => ?_)
  · obtain ⟨_, _, _, _, _, _, _, _, _, rfl, _⟩ := h
    rfl
  · obtain ⟨way, nm, r, fa, ta, sg, fs, v, u, rfl, hway, hb, hfs, h⟩ := h
    have hr5 : Room 5 (A.deeper (envOfC "_law_heard" (defScope s__law_heard) s.heap.objs.size f cdv)) := hr.mono (by decide)
    refine ⟨_, (pss_cons (ps_set (i := 5) sc__law_heard.nd rfl (Or.inl rfl) pe_non)
      (pss_cons (ps_try_all (i := 6) (Wo := fun _ _ _ _ => False) rfl rfl sc__law_heard.nd rfl rfl takes0
        (fun W pn xe tk _ => pss_one (ps_if (pt_cmpR op_eq (pv 1) pe_int (nomark _))
          (pss_one (ps_set (i := 5) sc__law_heard.nd rfl (Or.inl rfl) (pe_ifExp (pt_val (pv 4)) (pe_callK0 (E := WE W) G0 hr5 (by rfl) g0 F0.kp k0 (fun σ => passAt tk σ) (pk_cons (pv 3) (pk_cons (pv 2) (pk_cons (pv 0) pk_nil)))) (pe_callS (E := WE W) G0 hr5 (by rfl) g0 F0.kp b0 (fun σ => passAt tk σ) (pa_cons (pv 0) (pa_cons (pv 2) (pa_cons (pv 3) pa_nil)))))))
          (pss_one (ps_if (pt_cmpR op_eq (pv 1) pe_int (nomark _))
            (pss_one (ps_set (i := 5) sc__law_heard.nd rfl (Or.inl rfl) (pe_ifExp (pt_val (pv 4)) (pe_callK0 (E := WE W) G1 hr5 (by rfl) g1 F1.kp k1 (fun σ => passAt tk σ) (pk_cons (pv 3) (pk_cons (pv 2) (pk_cons (pv 0) pk_nil)))) (pe_callS (E := WE W) G1 hr5 (by rfl) g1 F1.kp b1 (fun σ => passAt tk σ) (pa_cons (pv 0) (pa_cons (pv 2) (pa_cons (pv 3) pa_nil)))))))
            (pss_one (ps_set (i := 5) sc__law_heard.nd rfl (Or.inl rfl) (pe_ifExp (pt_val (pv 4)) (pe_callK0 (E := WE W) G2 hr5 (by rfl) g2 F2.kp k2 (fun σ => passAt tk σ) (pk_cons (pv 3) (pk_cons (pv 2) (pk_cons (pv 0) pk_nil)))) (pe_callS (E := WE W) G2 hr5 (by rfl) g2 F2.kp b2 (fun σ => passAt tk σ) (pa_cons (pv 0) (pa_cons (pv 2) (pa_cons (pv 3) pa_nil)))))))))))
        (.cons (c := .ref CW) ⟨rfl, by decide, Or.inl T.txt.gC⟩ (fun a oe cls d pn hz hf => pss_one (ps_set (i := 5) sc__law_heard.nd rfl (Or.inl rfl) (Mq.pe_ls (pa_cons pe_str (pa_cons (pe_xf T.xf T.nt hz hf (pv 6)) (pa_cons (pe_callB (call_heldX T.held hz hf) (by rfl) B.isi (by decide +kernel) (pa_cons (pv 6) (pa_cons (pe_glob (v := .ref CM) (by rfl) T.gM rfl) pa_nil))) pa_nil))))))
        (.cons (c := .ref CR) ⟨rfl, by decide, Or.inl U.txt.gC⟩ (fun a oe cls d pn hz hf => pss_one (ps_set (i := 5) sc__law_heard.nd rfl (Or.inl rfl) (Mq.pe_ls (pa_cons pe_str (pa_cons (pe_xf U.xf U.nt hz hf (pv 6)) (pa_cons (pe_callB (call_heldX U.held hz hf) (by rfl) B.isi (by decide +kernel) (pa_cons (pv 6) (pa_cons (pe_glob (v := .ref CM) (by rfl) U.gM rfl) pa_nil))) pa_nil))))))
        .nil)))
      (pss_one (ps_ret (pv 5))))), ?_⟩
    have finB : ∀ k x, hear k x H Q → ∀ H1 dd, Same H H1 → H1 dd = none → ∀ p, upd H1 dd (.xd [("thing", x)]) p = none → p ≠ sysModules → Q (.ref p) (upd (upd H1 dd (.xd [("thing", x)])) p (.lst [.str k, x, .bl true])) := by
      intro k x q H1 dd s1 hdd p hp hne
      exact q _ p ((s1.trans (same_new hdd)).trans (same_new hp)) hne upd_same
    match way, hway with
    | 0, _ =>
      refine ⟨_, rfl, rfl, _, rfl, ifT (by decide) ?_⟩
      cases nm with
      | true =>
        refine ⟨_, rfl, _, rfl, ifT rfl ?_⟩
        refine ⟨_, rfl, _, rfl, _, rfl, rfl, r, fa, ta, sg, fs, v, u, rfl, hb, hfs, ?_⟩
        rcases h with ⟨l, row, h1, h2, q⟩ | ⟨h1, q⟩ | ⟨h1, h2, q⟩
        · exact Or.inl ⟨l, row, h1, h2, fun H1 x s1 td => ⟨_, rfl, q H1 x s1 td⟩⟩
        · refine Or.inr (Or.inl ⟨h1, fun H1 dd s1 hdd => ⟨true, T.exm, fun _ a0 ha0 => ?_, fun z => nomatch z⟩⟩)
          exact ⟨_, rfl, rfl, rfl, dd, _, v, rfl, upd_same, rfl, _, rfl, rfl, dd, CM, _, true, rfl, rfl, upd_same, T.kit, sz_le (n := 3) (by decide), fun p hp hne => ⟨_, rfl, finB _ v q H1 dd s1 hdd p hp hne⟩⟩
        · refine Or.inr (Or.inr ⟨h1, h2, fun H1 dd s1 hdd => ⟨false, no, (fun z => nomatch z), fun _ => ⟨true, U.exm, fun _ a0 ha0 => ?_, fun z => nomatch z⟩⟩⟩)
          exact ⟨_, rfl, rfl, rfl, dd, _, u, rfl, upd_same, rfl, _, rfl, rfl, dd, CM, _, true, rfl, rfl, upd_same, U.kit, sz_le (n := 3) (by decide), fun p hp hne => ⟨_, rfl, finB _ u q H1 dd s1 hdd p hp hne⟩⟩
      | false =>
        refine ⟨_, rfl, _, rfl, ifF rfl ?_⟩
        refine ⟨_, rfl, _, rfl, _, rfl, r, fa, ta, sg, fs, v, u, rfl, hb, hfs, ?_⟩
        rcases h with ⟨l, row, h1, h2, q⟩ | ⟨h1, q⟩ | ⟨h1, h2, q⟩
        · exact Or.inl ⟨l, row, h1, h2, fun H1 x s1 td => ⟨_, rfl, q H1 x s1 td⟩⟩
        · refine Or.inr (Or.inl ⟨h1, fun H1 dd s1 hdd => ⟨true, T.exm, fun _ a0 ha0 => ?_, fun z => nomatch z⟩⟩)
          exact ⟨_, rfl, rfl, rfl, dd, _, v, rfl, upd_same, rfl, _, rfl, rfl, dd, CM, _, true, rfl, rfl, upd_same, T.kit, sz_le (n := 3) (by decide), fun p hp hne => ⟨_, rfl, finB _ v q H1 dd s1 hdd p hp hne⟩⟩
        · refine Or.inr (Or.inr ⟨h1, h2, fun H1 dd s1 hdd => ⟨false, no, (fun z => nomatch z), fun _ => ⟨true, U.exm, fun _ a0 ha0 => ?_, fun z => nomatch z⟩⟩⟩)
          exact ⟨_, rfl, rfl, rfl, dd, _, u, rfl, upd_same, rfl, _, rfl, rfl, dd, CM, _, true, rfl, rfl, upd_same, U.kit, sz_le (n := 3) (by decide), fun p hp hne => ⟨_, rfl, finB _ u q H1 dd s1 hdd p hp hne⟩⟩
    | 1, _ =>
      refine ⟨_, rfl, rfl, _, rfl, ifF (by decide) ⟨_, rfl, rfl, _, rfl, ifT (by decide) ?_⟩⟩
      cases nm with
      | true =>
        refine ⟨_, rfl, _, rfl, ifT rfl ?_⟩
        refine ⟨_, rfl, _, rfl, _, rfl, rfl, r, fa, ta, sg, fs, v, u, rfl, hb, hfs, ?_⟩
        rcases h with ⟨l, row, h1, h2, q⟩ | ⟨h1, q⟩ | ⟨h1, h2, q⟩
        · exact Or.inl ⟨l, row, h1, h2, fun H1 x s1 td => ⟨_, rfl, q H1 x s1 td⟩⟩
        · refine Or.inr (Or.inl ⟨h1, fun H1 dd s1 hdd => ⟨true, T.exm, fun _ a0 ha0 => ?_, fun z => nomatch z⟩⟩)
          exact ⟨_, rfl, rfl, rfl, dd, _, v, rfl, upd_same, rfl, _, rfl, rfl, dd, CM, _, true, rfl, rfl, upd_same, T.kit, sz_le (n := 3) (by decide), fun p hp hne => ⟨_, rfl, finB _ v q H1 dd s1 hdd p hp hne⟩⟩
        · refine Or.inr (Or.inr ⟨h1, h2, fun H1 dd s1 hdd => ⟨false, no, (fun z => nomatch z), fun _ => ⟨true, U.exm, fun _ a0 ha0 => ?_, fun z => nomatch z⟩⟩⟩)
          exact ⟨_, rfl, rfl, rfl, dd, _, u, rfl, upd_same, rfl, _, rfl, rfl, dd, CM, _, true, rfl, rfl, upd_same, U.kit, sz_le (n := 3) (by decide), fun p hp hne => ⟨_, rfl, finB _ u q H1 dd s1 hdd p hp hne⟩⟩
      | false =>
        refine ⟨_, rfl, _, rfl, ifF rfl ?_⟩
        refine ⟨_, rfl, _, rfl, _, rfl, r, fa, ta, sg, fs, v, u, rfl, hb, hfs, ?_⟩
        rcases h with ⟨l, row, h1, h2, q⟩ | ⟨h1, q⟩ | ⟨h1, h2, q⟩
        · exact Or.inl ⟨l, row, h1, h2, fun H1 x s1 td => ⟨_, rfl, q H1 x s1 td⟩⟩
        · refine Or.inr (Or.inl ⟨h1, fun H1 dd s1 hdd => ⟨true, T.exm, fun _ a0 ha0 => ?_, fun z => nomatch z⟩⟩)
          exact ⟨_, rfl, rfl, rfl, dd, _, v, rfl, upd_same, rfl, _, rfl, rfl, dd, CM, _, true, rfl, rfl, upd_same, T.kit, sz_le (n := 3) (by decide), fun p hp hne => ⟨_, rfl, finB _ v q H1 dd s1 hdd p hp hne⟩⟩
        · refine Or.inr (Or.inr ⟨h1, h2, fun H1 dd s1 hdd => ⟨false, no, (fun z => nomatch z), fun _ => ⟨true, U.exm, fun _ a0 ha0 => ?_, fun z => nomatch z⟩⟩⟩)
          exact ⟨_, rfl, rfl, rfl, dd, _, u, rfl, upd_same, rfl, _, rfl, rfl, dd, CM, _, true, rfl, rfl, upd_same, U.kit, sz_le (n := 3) (by decide), fun p hp hne => ⟨_, rfl, finB _ u q H1 dd s1 hdd p hp hne⟩⟩
    | 2, _ =>
      refine ⟨_, rfl, rfl, _, rfl, ifF (by decide) ⟨_, rfl, rfl, _, rfl, ifF (by decide) ?_⟩⟩
      cases nm with
      | true =>
        refine ⟨_, rfl, _, rfl, ifT rfl ?_⟩
        refine ⟨_, rfl, _, rfl, _, rfl, rfl, r, fa, ta, sg, fs, v, u, rfl, hb, hfs, ?_⟩
        rcases h with ⟨l, row, h1, h2, q⟩ | ⟨h1, q⟩ | ⟨h1, h2, q⟩
        · exact Or.inl ⟨l, row, h1, h2, fun H1 x s1 td => ⟨_, rfl, q H1 x s1 td⟩⟩
        · refine Or.inr (Or.inl ⟨h1, fun H1 dd s1 hdd => ⟨true, T.exm, fun _ a0 ha0 => ?_, fun z => nomatch z⟩⟩)
          exact ⟨_, rfl, rfl, rfl, dd, _, v, rfl, upd_same, rfl, _, rfl, rfl, dd, CM, _, true, rfl, rfl, upd_same, T.kit, sz_le (n := 3) (by decide), fun p hp hne => ⟨_, rfl, finB _ v q H1 dd s1 hdd p hp hne⟩⟩
        · refine Or.inr (Or.inr ⟨h1, h2, fun H1 dd s1 hdd => ⟨false, no, (fun z => nomatch z), fun _ => ⟨true, U.exm, fun _ a0 ha0 => ?_, fun z => nomatch z⟩⟩⟩)
          exact ⟨_, rfl, rfl, rfl, dd, _, u, rfl, upd_same, rfl, _, rfl, rfl, dd, CM, _, true, rfl, rfl, upd_same, U.kit, sz_le (n := 3) (by decide), fun p hp hne => ⟨_, rfl, finB _ u q H1 dd s1 hdd p hp hne⟩⟩
      | false =>
        refine ⟨_, rfl, _, rfl, ifF rfl ?_⟩
        refine ⟨_, rfl, _, rfl, _, rfl, r, fa, ta, sg, fs, v, u, rfl, hb, hfs, ?_⟩
        rcases h with ⟨l, row, h1, h2, q⟩ | ⟨h1, q⟩ | ⟨h1, h2, q⟩
        · exact Or.inl ⟨l, row, h1, h2, fun H1 x s1 td => ⟨_, rfl, q H1 x s1 td⟩⟩
        · refine Or.inr (Or.inl ⟨h1, fun H1 dd s1 hdd => ⟨true, T.exm, fun _ a0 ha0 => ?_, fun z => nomatch z⟩⟩)
          exact ⟨_, rfl, rfl, rfl, dd, _, v, rfl, upd_same, rfl, _, rfl, rfl, dd, CM, _, true, rfl, rfl, upd_same, T.kit, sz_le (n := 3) (by decide), fun p hp hne => ⟨_, rfl, finB _ v q H1 dd s1 hdd p hp hne⟩⟩
        · refine Or.inr (Or.inr ⟨h1, h2, fun H1 dd s1 hdd => ⟨false, no, (fun z => nomatch z), fun _ => ⟨true, U.exm, fun _ a0 ha0 => ?_, fun z => nomatch z⟩⟩⟩)
          exact ⟨_, rfl, rfl, rfl, dd, _, u, rfl, upd_same, rfl, _, rfl, rfl, dd, CM, _, true, rfl, rfl, upd_same, U.kit, sz_le (n := 3) (by decide), fun p hp hne => ⟨_, rfl, finB _ u q H1 dd s1 hdd p hp hne⟩⟩
end
end Lw

namespace Lw
open PySem PySem.Spec PyProof.Rows L2 Mq
open SX (S)
/-! ### answers beside the law's own -/
theorem GsOk.z {sg : List Nat} {gs : List Fd} (h : GsOk sg gs) : zOk gs := by
  intro g hg
  rcases (h.ok g hg).2.2 with e | ⟨c, _, e⟩
  · rw [e]
    exact Nat.zero_le _
  · rw [e]
    exact Nat.le_refl 1
theorem laid_in {sg : List Nat} {gs : List Fd} (h : GsOk sg gs) {w : List Nat} {y : Nat} (hw : ∀ c ∈ w, c ∈ sg) (hy : y ∈ sg) : ∀ c ∈ laidM gs w y, c ∈ sg := by
  have add : ∀ c ∈ w ++ [y], c ∈ sg := by
    intro c hc
    rcases List.mem_append.mp hc with hc | hc
    · exact hw c hc
    · rw [List.mem_singleton.mp hc]
      exact hy
  intro c hc
  unfold laidM at hc
  split at hc
  · exact add c hc
  · split at hc
    · exact add c hc
    · rename_i z e
      obtain ⟨f, hf, _, _, rfl⟩ := left_some e
      rcases List.mem_append.mp hc with hc | hc
      · exact hw c ((List.dropLast_sublist w).subset hc)
      · rcases (h.ok f hf).2.2 with e | ⟨d, hd, e⟩
        · rw [e] at hc
          cases hc
        · rw [e] at hc
          rw [List.mem_singleton.mp hc]
          exact hd
theorem led_in {sg : List Nat} {gs : List Fd} (h : GsOk sg gs) : ∀ {row w : List Nat}, (∀ c ∈ w, c ∈ sg) → (∀ c ∈ row, c ∈ sg) → ∀ c ∈ ledM gs w row, c ∈ sg
  | [], w, hw, _ => hw
  | y :: row, w, hw, hr => led_in h (row := row) (laid_in h hw (hr y (List.mem_cons_self ..))) fun c hc => hr c (List.mem_cons_of_mem _ hc)
theorem ans_gd {sg l row : List Nat} {gs : List Fd} (hg : GsOk sg gs) (hs : SgOk sg) (h1 : ∀ c ∈ l, c ∈ sg) (h2 : ∀ c ∈ row, c ∈ sg) (h3 : l.length ≤ 200) (h4 : row.length ≤ 200) (k : Nat) : Gd 90000 3 (ansM gs l row k) := by
  obtain ⟨e1, e2⟩ := run_len gs l row row.length
  obtain ⟨lo1, lo2⟩ := run_low gs l row (n := 200) h3 row.length h4
  match k with
  | 0 =>
    refine Gd.mono (gd_tup (w := 400) (n := 0) (m := 201) (fun d hd => ?_) ?_) (by decide) (by decide)
    · obtain ⟨x, hx, rfl⟩ := List.mem_map.mp hd
      unfold websM at hx
      obtain ⟨i, hi, rfl⟩ := List.mem_map.mp hx
      refine gd_str (fun c hc => ?_) ?_
      · have := hs.low c (led_in hg h1 (fun c hc => h2 c ((List.take_sublist i row).subset hc)) c hc)
        omega
      · have := ledz_len hg.z (row.take i) l
        rw [List.length_take] at this
        omega
    · unfold websM
      rw [List.length_map, List.length_map, List.length_range]
      omega
  | 1 =>
    refine Gd.mono (gd_tup (w := 102) (n := 2) (m := 200) (fun d hd => ?_) ?_) (by decide) (by decide)
    · obtain ⟨x, hx, rfl⟩ := List.mem_map.mp hd
      exact gd_ev (lo2 x hx) (by decide)
    · rw [List.length_map, e1]
      exact h4
  | k + 2 =>
    refine Gd.mono (gd_tup (w := 50) (n := 1) (m := 400) (fun d hd => ?_) ?_) (by decide) (by decide)
    · obtain ⟨x, hx, rfl⟩ := List.mem_map.mp hd
      exact gd_sp (lo1 x hx) (by decide)
    · rw [List.length_map]
      omega
theorem twice_ok {d : PyData} (h : Gd 90000 3 d) : ShowOk (.list [d, d]) ∧ (PyData.list [d, d]).hasDict = false := by
  have g : Gd (2 * (90000 + 1)) (3 + 1) (.list [d, d]) := gd_lst (fun x hx => by
    simp only [List.mem_cons, List.not_mem_nil, or_false] at hx
    rcases hx with rfl | rfl <;> exact h) (Nat.le_refl 2)
  exact ⟨g.ok (by decide) (by decide), PyData.hasDict_of_canLay _ g.cl⟩
theorem Td.three {K : PySem.W.Frag} {H : Hp} {v : V} {d e f : PyData} (h : Td K H v (.tuple [d, e, f])) : ∃ a x y z, v = .ref a ∧ SqT K H a [x, y, z] ∧ Td K H x d ∧ Td K H y e ∧ Td K H z f := by
  cases h with
  | tup h a =>
    cases a with
    | cons a b =>
      cases b with
      | cons b c =>
        cases c with
        | cons c d =>
          cases d
          exact ⟨_, _, _, _, rfl, h, a, b, c⟩
theorem td_len {K : PySem.W.Frag} {H : Hp} {v : V} {ds : List PyData} (h : Td K H v (.tuple ds)) : LenV K v H ds.length := by
  cases h with
  | tup h a =>
    rw [← a.len]
    exact len_tup h
def spRight (C : Addr) : Sp := fun vs H Q _ => ∃ (wd ld r fa ta : Addr) (sg l row : List Nat) (gs fs : List Fd), vs = [.ref wd, .ref r, .str (S l), .str (S row)] ∧ WAt H wd ld sg gs ∧ GsOk sg gs ∧ SgOk sg ∧ fs.Perm gs ∧ FsOk sg fs ∧ BkAt H C r sg fs fa ta ∧
  (∀ c ∈ l, c ∈ sg) ∧ (∀ c ∈ row, c ∈ sg) ∧ l.length ≤ 200 ∧ row.length ≤ 200 ∧ ∀ H', Same H H' → Q (.bl true) H'
section
variable {P : Program} {w : World} {K : PySem.W.Frag} {mg : Str → Option Value} {base : Heap} {C : Addr}
theorem ok_right {f fT fE : Addr} {fd fdT fdE : FuncData} (F : Fun K "_law_right" "_law_right" s__law_right f fd) (B : Blt mg)
    (FT : Fun K "_law_trace" "_law_trace" s__law_trace fT fdT) (gT : mg "_law_trace" = some (.ref fT)) (bT : Binds K fdT ["_law_f", "_law_cloth", "_law_lays_here"] []) (GT : FnOk P w K mg base CX0 1 fT fdT ["_law_f", "_law_cloth", "_law_lays_here"] (spTrace K))
    (FE : Fun K "_law_heard" "_law_heard" s__law_heard fE fdE) (gE : mg "_law_heard" = some (.ref fE)) (bE : Binds K fdE ["_law_code_here", "_law_way", "_law_cloth", "_law_lays_here", "_law_is_named"] []) (GE : FnG P w K mg base CX0 7 fE fdE ["_law_code_here", "_law_way", "_law_cloth", "_law_lays_here", "_law_is_named"] (spHeard K C)) :
    FnG P w K mg base CX0 8 f fd ["_law_f", "_law_code_here", "_law_cloth", "_law_lays_here"] (spRight C) := by
  refine Mq.Fun.okG F sc__law_right (fun vs H Q E h => ?_) (fun cdv A outer s H vs Q E gA hr h => ?_)
  · obtain ⟨_, _, _, _, _, _, _, _, _, _, rfl, _⟩ := h
    rfl
  · obtain ⟨wd, ld, r, fa, ta, sg, l, row, gs, fs, rfl, hw, hgs, hs, hp, hfs, hb, h1, h2, h3, h4, q⟩ := h
    have hr7 : Room 7 (A.deeper (envOfC "_law_right" (defScope s__law_right) s.heap.objs.size f cdv)) := hr
    refine ⟨_, (pss_cons (ps_set (i := 4) sc__law_right.nd rfl (Or.inl rfl) (pe_call GT (hr.mono (by decide)) (by rfl) gT FT.kp bT .nil pass0 (pa_cons (pv 0) (pa_cons (pv 2) (pa_cons (pv 3) pa_nil)))))
      (pss_cons (ps_for (passes_of rfl) rfl (pi_range1 (by rfl) B.range (pa_cons pe_int pa_nil)) (pg_name (i := 5) sc__law_right.nd rfl (Or.inl rfl))
        (pss_cons (ps_set (i := 6) sc__law_right.nd rfl (Or.inl rfl) (Mq.pe_ls (pa_cons (Mq.pe_callG GE gA hr7 (by rfl) gE FE.kp bE pass0 (pa_cons (pv 1) (pa_cons (pv 5) (pa_cons (pv 2) (pa_cons (pv 3) (pa_cons pe_bl pa_nil)))))) (pa_cons (Mq.pe_callG GE gA hr7 (by rfl) gE FE.kp bE pass0 (pa_cons (pv 1) (pa_cons (pv 5) (pa_cons (pv 2) (pa_cons (pv 3) (pa_cons pe_bl pa_nil)))))) pa_nil))))
        (pss_one (ps_if (pt_cmpR op_ne (pe_callB (call_rep hr gA) (by rfl) B.repr (by decide +kernel) (pa_cons (pv 6) pa_nil)) (pe_callB (call_repP hr gA) (by rfl) B.repr (by decide +kernel) (pa_cons (pe_op op_rep (Mq.pe_ls (pa_cons (pe_ix ix_tup (pv 4) (pv 5) (fun _ _ => rfl)) pa_nil)) pe_int) pa_nil)) (nomark _)) (pss_one (ps_ret pe_bl)) pss_nil))))
      (pss_one (ps_ret (pe_and (pe_cmpR op_eq (pe_callB call_len (by rfl) B.len (by decide +kernel) (pa_cons (pe_ix ix_tup (pv 4) pe_int (fun _ _ => rfl)) pa_nil)) (pe_op op_add (pe_callB call_len (by rfl) B.len (by decide +kernel) (pa_cons (pv 3) pa_nil)) pe_int) (nomark _)) (pe_one (pe_cmpR op_eq (pe_callB call_len (by rfl) B.len (by decide +kernel) (pa_cons (pe_ix ix_tup (pv 4) pe_int (fun _ _ => rfl)) pa_nil)) (pe_callB call_len (by rfl) B.len (by decide +kernel) (pa_cons (pv 3) pa_nil)) (nomark _)))))))), ?_⟩
    have hl : WebGood sg (.str (S l)) l := ⟨rfl, h1, by omega⟩
    have hro : WebGood sg (.str (S row)) row := ⟨rfl, h2, by omega⟩
    refine ⟨_, rfl, _, rfl, _, rfl, wd, ld, sg, l, row, gs, rfl, hw, hgs.z, by omega, by omega, fun H1 xt s1 td => ?_⟩
    obtain ⟨t, x0, x1, x2, rfl, ht, td0, td1, td2⟩ := Td.three td
    refine ⟨3, rfl, by decide, by decide, ?_⟩
    refine for_it (walk_rng (n := 3)) (fun k σ H' => Same H1 H' ∧ ∃ o5 o6, σ = [some (.ref wd), some (.ref r), some (.str (S l)), some (.str (S row)), some (.ref t), o5, o6]) ⟨Same.refl _, _, _, rfl⟩ (fun _ _ _ _ _ => trivial) ?_ ?_
    · rintro k x σ H2 H2' hk ⟨s2, o5, o6, rfl⟩ ⟨rfl, rfl⟩
      have b2 := hb.same (s1.trans s2)
      obtain ⟨ok, nod⟩ := twice_ok (ans_gd hgs hs h1 h2 h3 h4 k)
      obtain ⟨xk, hxk, tdk⟩ : ∃ xk, [x0, x1, x2][k]? = some xk ∧ Td K H1 xk (ansM gs l row k) := by
        match k, hk with
        | 0, _ => exact ⟨x0, rfl, td0⟩
        | 1, _ => exact ⟨x1, rfl, td1⟩
        | 2, _ => exact ⟨x2, rfl, td2⟩
      refine ⟨_, rfl, _, rfl, _, rfl, _, rfl, k, false, r, fa, ta, sg, fs, _, _, rfl, hk, b2, hfs, Or.inl ⟨l, row, hl, hro, fun H3 y0 s3 ty0 => ?_⟩⟩
      refine ⟨_, rfl, _, rfl, _, rfl, _, rfl, k, true, r, fa, ta, sg, fs, _, _, rfl, hk, b2.same s3, hfs, Or.inl ⟨l, row, hl, hro, fun H4 y1 s4 ty1 => ?_⟩⟩
      rw [ans_eq hgs.nd hp] at ty0 ty1
      refine ⟨sz_le (n := 2) (by decide), fun pa hpa hna => ?_⟩
      have s5 := same_new (o := HO.lst [y0, y1]) hpa
      have za : upd H4 pa (.lst [y0, y1]) pa = some (.lst [y0, y1]) := upd_same
      have ty0 := (ty0.same s4).same s5
      have ty1 := ty1.same s5
      have s25 := (s3.trans s4).trans s5
      generalize upd H4 pa (.lst [y0, y1]) = H5 at za ty0 ty1 s25 ⊢
      refine ⟨_, rfl, _, .list [ansM gs l row k, ansM gs l row k], rfl, .lst hna (SqL.of za) (.cons ty0.dg (.cons ty1.dg .nil)), ok.sh, ok.de, ok.le, ?_⟩
      have s15 := s2.trans s25
      refine ⟨_, rfl, _, rfl, t, _, _, xk, rfl, rfl, Same.tup s15 ht, atI_nat (j := k) hxk, sz_le (n := 1) (by decide), fun p3 hp3 _ => ?_⟩
      refine ⟨p3, 2, _, rfl, rfl, upd_same, by decide, by decide, sz_le (n := 2) (by decide), fun p4 hp4 => ?_⟩
      have s6 := (same_new (o := HO.lst [xk]) hp3).trans (same_new (o := HO.lst (List.replicate (2 : Int).toNat [xk]).flatten) hp4)
      have tk6 := (tdk.same s15).same s6
      refine ⟨p4, .list [ansM gs l row k, ansM gs l row k], rfl, .lst (SqL.of upd_same) (.cons tk6.dp (.cons tk6.dp .nil)), ok.sh, nod, ok.de, ok.le, ?_⟩
      refine ⟨rfl, _, rfl, ifF (by rw [decide_eq_true rfl]; rfl) ?_⟩
      exact ⟨s15.trans s6, _, _, rfl⟩
    · rintro σ H2 ⟨s2, o5, o6, rfl⟩
      have ht2 := Same.tup s2 ht
      have l0 := td_len (ds := (websM gs l row).map fun l => PyData.str (S l)) (td0.same s2)
      have l1 := td_len (ds := (runM gs l row row.length).ev.map evD) (td1.same s2)
      have e0 : ((websM gs l row).map fun l => PyData.str (S l)).length = row.length + 1 := by
        unfold websM
        rw [List.length_map, List.length_map, List.length_range]
      have e1 : ((runM gs l row row.length).ev.map evD).length = row.length := by
        rw [List.length_map]
        exact (run_len gs l row row.length).1
      rw [e0] at l0
      rw [e1] at l1
      refine ⟨_, rfl, t, _, 0, x0, rfl, rfl, ht2, atI_nat (j := 0) rfl, x0, _, rfl, l0, _, rfl, _, _, rfl, len_S (by omega), _, _, rfl, rfl, rfl, _, rfl, ifT (decide_eq_true ?_) ?_⟩
      · exact congrArg V.int (by omega)
      refine ⟨_, rfl, t, _, 1, x1, rfl, rfl, ht2, atI_nat (j := 1) rfl, x1, _, rfl, l1, _, rfl, _, _, rfl, len_S (by omega), rfl, ?_⟩
      rw [decide_eq_true rfl]
      exact q H2 (s1.trans s2)
end
end Lw

namespace Lw
open PySem PySem.Spec PyProof.Rows L2 Mq
open SX (S)
/-! ### values that are no webs, no rows -/
theorem BkAt.off {C D Cc : Addr} {T : Nat} {H H' : Hp} {r fa ta : Addr} {sg : List Nat} {fs : List Fd} (h : BkAt H C r sg fs fa ta) (f : Off D Cc H H') (k : DeckAt D Cc T H) : BkAt H' C r sg fs fa ta :=
  let ⟨⟨dx, x⟩, y⟩ := h; ⟨⟨dx, f.at k x ⟨(fun _ z => nomatch z), (fun _ z => nomatch z)⟩⟩, f.at k y ⟨(fun _ z => nomatch z), (fun _ z => nomatch z)⟩⟩
def badD (k : Str) (d : PyData) : PyData := .list [.str k, d, .bool true]
def oddV (p3 p4 p5 p9 : Addr) (l row : List Nat) : List V := [.non, .int 0, .bl true, .ref p3, .ref p4, .ref p5, .str (S (l ++ [63])), .str "A", .str "-", .ref p9, .int ((10 : Int) ^ 39), .str (S (row ++ [121]))]
structure OddAt (K : PySem.W.Frag) (H : Hp) (D C p3 p4 p5 p9 : Addr) (l : List Nat) : Prop where
  t3 : SqT K H p3 [.str "a"]
  t4 : H p4 = some (.lst [])
  n4 : p4 ≠ sysModules
  t5 : H p5 = some (.dK [])
  t9 : SqT K H p9 [.str (S l)]
  m4 : p4 ≠ D ∧ p4 ≠ C
  m5 : p5 ≠ D ∧ p5 ≠ C
section
variable {K : PySem.W.Frag} {H H' : Hp} {D C p3 p4 p5 p9 : Addr} {l row sg : List Nat}
theorem OddAt.same (o : OddAt K H D C p3 p4 p5 p9 l) (e : Same H H') : OddAt K H' D C p3 p4 p5 p9 l := ⟨Same.tup e o.t3, e _ _ o.t4, o.n4, e _ _ o.t5, Same.tup e o.t9, o.m4, o.m5⟩
theorem OddAt.off {T : Nat} (o : OddAt K H D C p3 p4 p5 p9 l) (f : Off D C H H') (k : DeckAt D C T H) : OddAt K H' D C p3 p4 p5 p9 l :=
  ⟨f.tup k o.t3, f _ _ o.m4.1 o.m4.2 o.t4, o.n4, f _ _ o.m5.1 o.m5.2 o.t5, f.tup k o.t9, o.m4, o.m5⟩
def okB (d : PyData) : Bool := d.showable && (decide (d.depth ≤ 40) && decide (d.shown.length ≤ 1000))
theorem ok_of {d : PyData} (h : okB d = true) : ShowOk d := by
  obtain ⟨a, b⟩ := Bool.and_eq_true_iff.mp h
  obtain ⟨b, c⟩ := Bool.and_eq_true_iff.mp b
  have c' := of_decide_eq_true c
  exact ⟨a, of_decide_eq_true b, Nat.le_trans c' (by decide)⟩
theorem ok_two {d : PyData} (h : (okB (badD "web" d) && okB (badD "row" d)) = true) : ShowOk (badD "web" d) ∧ ShowOk (badD "row" d) := by
  obtain ⟨a, b⟩ := Bool.and_eq_true_iff.mp h
  exact ⟨ok_of a, ok_of b⟩
theorem ok_gd {d : PyData} (h : Gd 1000 2 d) : ShowOk (badD "web" d) ∧ ShowOk (badD "row" d) := by
  have hb : Gd 1000 2 (.bool true) := ⟨rfl, rfl, by decide, by decide, rfl⟩
  have go : ∀ k : Str, Gd 1000 2 (.str k) → ShowOk (badD k d) := fun k hk => (gd_lst (w := 1000) (n := 2) (m := 3) (ds := [.str k, d, .bool true]) (fun x hx => by
    simp only [List.mem_cons, List.not_mem_nil, or_false] at hx
    rcases hx with rfl | rfl | rfl
    · exact hk
    · exact h
    · exact hb) (Nat.le_refl 3)).ok (by decide) (by decide)
  exact ⟨go _ ⟨by decide +kernel, rfl, by decide, by decide +kernel, rfl⟩, go _ ⟨by decide +kernel, rfl, by decide, by decide +kernel, rfl⟩⟩
theorem all_out {c : Nat} (h : c ∉ sg) (w : List Nat) : allB (w ++ [c]) sg = false := by
  cases e : allB (w ++ [c]) sg with
  | false => rfl
  | true =>
    unfold allB at e
    rw [List.all_map, List.all_eq_true] at e
    have h1 := e w.length (List.mem_range.mpr (by rw [List.length_append]; exact Nat.lt_succ_self _))
    have h2 : inB ((w ++ [c]).getD w.length 0) sg = true := h1
    rw [List.getD_eq_getElem?_getD, List.getElem?_append_right (Nat.le_refl _), Nat.sub_self] at h2
    exact (h (of_decide_eq_true h2)).elim
theorem menu_out : ∀ sg ∈ menuW, 63 ∉ sg ∧ 121 ∉ sg := by decide
theorem bad_txt {x : Str} (ws : List Nat) (e : x = S ws) (h : (menuW.all fun sg => !allB ws sg) = true) (hl : ws.length ≤ 100) (hs : sg ∈ menuW) : BadS K H sg (.str x) := fun _ _ => by
  refine Or.inl ⟨ws, by rw [e], by omega, ?_⟩
  have h1 := List.all_eq_true.mp h sg hs
  revert h1
  cases allB ws sg
  · intro _
    rfl
  · intro h1
    cases h1
theorem bad_of {v : V} {a : String} (t : ∀ H', Same H H' → TyX K H' v (.type a)) (m : a ∈ ["NoneType", "bool", "int", "str", "list", "tuple", "dict"]) (n : a ≠ "str") : BadS K H sg v := fun H' e => Or.inr ⟨a, t H' e, m, n⟩
theorem odd_ok (o : OddAt K H D C p3 p4 p5 p9 l) (hs : sg ∈ menuW) (hlow : ∀ c ∈ sg, c < 128) (h1 : ∀ c ∈ l, c ∈ sg) (h2 : ∀ c ∈ row, c ∈ sg) (h3 : l.length ≤ 6) (h4 : row.length ≤ 6) :
    ∀ v ∈ oddV p3 p4 p5 p9 l row, BadS K H sg v ∧ ∃ d, Dg K H v d ∧ ShowOk (badD "web" d) ∧ ShowOk (badD "row" d) := by
  have gw : ∀ (u : List Nat) (c : Nat), (∀ x ∈ u, x ∈ sg) → u.length ≤ 6 → c < 1000 → Gd 1000 2 (.str (S (u ++ [c]))) := fun u c hu hl hc => Gd.mono (gd_str (w := 7) (fun x hx => by
    rcases List.mem_append.mp hx with hx | hx
    · have := hlow x (hu x hx)
      omega
    · rw [List.mem_singleton.mp hx]
      omega) (by rw [List.length_append]; show u.length + 1 ≤ 7; omega)) (by decide) (by decide)
  obtain ⟨o1, o2⟩ := menu_out sg hs
  intro v hv
  unfold oddV at hv
  simp only [List.mem_cons, List.not_mem_nil, or_false] at hv
  rcases hv with rfl | rfl | rfl | rfl | rfl | rfl | rfl | rfl | rfl | rfl | rfl | rfl
  · exact ⟨bad_of (fun _ _ => .base .non) (by decide) (by decide), _, .non, ok_two (by decide +kernel)⟩
  · exact ⟨bad_of (fun _ _ => .base (.int _)) (by decide) (by decide), _, .int _, ok_two (by decide +kernel)⟩
  · exact ⟨bad_of (fun _ _ => .base (.bl _)) (by decide) (by decide), _, .bl _, ok_two (by decide +kernel)⟩
  · exact ⟨bad_of (fun _ e => ty_tup (Same.tup e o.t3)) (by decide) (by decide), _, .tup o.t3 (.cons (.str _) .nil), ok_two (by decide +kernel)⟩
  · exact ⟨bad_of (fun _ e => ty_list (SqL.of (e _ _ o.t4))) (by decide) (by decide), _, .lst o.n4 (SqL.of o.t4) .nil, ok_two (by decide +kernel)⟩
  · exact ⟨bad_of (fun _ e => .base (.dK (e _ _ o.t5))) (by decide) (by decide), _, .dct o.t5 .nil, ok_two (by decide +kernel)⟩
  · exact ⟨fun _ _ => Or.inl ⟨_, rfl, by rw [List.length_append]; show l.length + 1 ≤ 1000; omega, all_out o1 l⟩, _, .str _, ok_gd (gw l 63 h1 h3 (by decide))⟩
  · exact ⟨bad_txt [65] (by decide +kernel) (by decide +kernel) (by decide) hs, _, .str _, ok_two (by decide +kernel)⟩
  · exact ⟨bad_txt [45] (by decide +kernel) (by decide +kernel) (by decide) hs, _, .str _, ok_two (by decide +kernel)⟩
  · refine ⟨bad_of (fun _ e => ty_tup (Same.tup e o.t9)) (by decide) (by decide), _, .tup o.t9 (.cons (.str _) .nil), ok_gd (Gd.mono (gd_tup (w := 6) (n := 0) (m := 1) (fun d hd => ?_) (Nat.le_refl 1)) (by decide) (by decide))⟩
    rw [List.mem_singleton.mp hd]
    exact gd_str (fun c hc => by have := hlow c (h1 c hc); omega) h3
  · exact ⟨bad_of (fun _ _ => .base (.int _)) (by decide) (by decide), _, .int _, ok_two (by decide +kernel)⟩
  · exact ⟨fun _ _ => Or.inl ⟨_, rfl, by rw [List.length_append]; show row.length + 1 ≤ 1000; omega, all_out o2 row⟩, _, .str _, ok_gd (gw row 121 h2 h4 (by decide))⟩
end
theorem dg_bad {K : PySem.W.Frag} {H : Hp} {k : Str} {v : V} {p : Addr} {d : PyData} (hne : p ≠ sysModules) (e : H p = some (.lst [.str k, v, .bl true])) (hd : Dg K H v d) : Dg K H (.ref p) (badD k d) :=
  .lst hne (SqL.of e) (.cons (.str _) (.cons hd (.cons (.bl true) .nil)))
def spOdd (C : Addr) : Sp := fun vs H Q _ => ∃ (D Cc : Addr) (T : Nat) (r fa ta : Addr) (sg l row : List Nat) (fs : List Fd), vs = [.ref D, .ref r, .str (S l), .str (S row)] ∧ DeckAt D Cc T H ∧ T ≤ 900000 ∧ sg ∈ menuW ∧ FsOk sg fs ∧ BkAt H C r sg fs fa ta ∧
  (∀ c ∈ l, c ∈ sg) ∧ (∀ c ∈ row, c ∈ sg) ∧ l.length ≤ 6 ∧ row.length ≤ 6 ∧ ∀ H', DeckAt D Cc (T + 2) H' → Off D Cc H H' → Q (.bl true) H'
/-- what a lot asks: near, far, and what is due -/
structure LotOk (K : PySem.W.Frag) (C : Addr) (way : Nat) (r : Addr) (near far : V) (k : Str) (v : V) (d : PyData) (H : Hp) : Prop where
  hear : ∀ (H' : Hp) (nm : Bool) (Q : VK) (E : XK), Same H H' → (∀ H2 p, Same H' H2 → p ≠ sysModules → H2 p = some (.lst [.str k, v, .bl true]) → Q (.ref p) H2) → spHeard K C [.ref r, .int (way : Nat), near, far, .bl nm] H' Q E
  dg : Dg K H v d
  ok : ShowOk (badD k d)
theorem LotOk.same {K : PySem.W.Frag} {C : Addr} {way : Nat} {r : Addr} {near far : V} {k : Str} {v : V} {d : PyData} {H H' : Hp} (h : LotOk K C way r near far k v d H) (e : Same H H') : LotOk K C way r near far k v d H' :=
  ⟨fun H2 nm Q E s => h.hear H2 nm Q E (e.trans s), h.dg.same e, h.ok⟩
section
variable {P : Program} {w : World} {K : PySem.W.Frag} {mg : Str → Option Value} {base : Heap} {C : Addr}
theorem ok_odd {f fP fE : Addr} {fd fdP fdE : FuncData} (F : Fun K "_law_odd_right" "_law_odd_right" s__law_odd_right f fd) (B : Blt mg)
    (FP : Fun K "_law_pick" "_law_pick" s__law_pick fP fdP) (gP : mg "_law_pick" = some (.ref fP)) (bP : Binds K fdP ["_law_deck_here", "_law_some"] []) (GP : FnOk P w K mg base CX0 2 fP fdP ["_law_deck_here", "_law_some"] spPick)
    (FE : Fun K "_law_heard" "_law_heard" s__law_heard fE fdE) (gE : mg "_law_heard" = some (.ref fE)) (bE : Binds K fdE ["_law_code_here", "_law_way", "_law_cloth", "_law_lays_here", "_law_is_named"] []) (GE : FnG P w K mg base CX0 7 fE fdE ["_law_code_here", "_law_way", "_law_cloth", "_law_lays_here", "_law_is_named"] (spHeard K C)) :
    FnG P w K mg base CX0 8 f fd ["_law_deck_here", "_law_code_here", "_law_cloth", "_law_lays_here"] (spOdd C) := by
  refine Mq.Fun.okG F sc__law_odd_right (fun vs H Q E h => ?_) (fun cdv A outer s H vs Q E gA hr h => ?_)
  · obtain ⟨_, _, _, _, _, _, _, _, _, _, rfl, _⟩ := h
    rfl
  · obtain ⟨D, Cc, T, r, fa, ta, sg, l, row, fs, rfl, hdk, hT, hm, hfs, hb, h1, h2, h3, h4, q⟩ := h
    have hr7 : Room 7 (A.deeper (envOfC "_law_odd_right" (defScope s__law_odd_right) s.heap.objs.size f cdv)) := hr
    refine ⟨_, (pss_cons (ps_set (i := 4) sc__law_odd_right.nd rfl (Or.inl rfl) (Mq.pe_ls (pa_cons pe_non (pa_cons pe_int (pa_cons pe_bl (pa_cons (pe_tup (pa_cons pe_str pa_nil)) (pa_cons (Mq.pe_ls pa_nil) (pa_cons pe_dnewK (pa_cons (pe_op op_add_str (pv 2) pe_str) (pa_cons pe_str (pa_cons pe_str (pa_cons (pe_tup (pa_cons (pv 2) pa_nil)) (pa_cons (pe_op op_pow pe_int pe_int) (pa_cons (pe_op op_add_str (pv 3) pe_str) pa_nil))))))))))))))
      (pss_cons (ps_par (i := 5) (j := 6) rfl sc__law_odd_right.nd rfl rfl (by decide) rfl rfl (pa_cons (pe_call GP (hr.mono (by decide)) (by rfl) gP FP.kp bP .nil pass0 (pa_cons (pv 0) (pa_cons (pv 4) pa_nil))) (pa_cons (pe_call GP (hr.mono (by decide)) (by rfl) gP FP.kp bP .nil pass0 (pa_cons (pv 0) (pa_cons (pv 4) pa_nil))) pa_nil)) (by rfl))
      (pss_cons (ps_for (passes_of rfl) rfl (pi_range1 (by rfl) B.range (pa_cons pe_int pa_nil)) (pg_name (i := 7) sc__law_odd_right.nd rfl (Or.inl rfl))
        (pss_cons (ps_set (i := 8) sc__law_odd_right.nd rfl (Or.inl rfl) (pe_tup (pa_cons (pe_tup (pa_cons (pv 5) (pa_cons (pv 3) (pa_cons (Mq.pe_ls (pa_cons pe_str (pa_cons (pv 5) (pa_cons pe_bl pa_nil)))) pa_nil)))) (pa_cons (pe_tup (pa_cons (pv 5) (pa_cons (pv 6) (pa_cons (Mq.pe_ls (pa_cons pe_str (pa_cons (pv 5) (pa_cons pe_bl pa_nil)))) pa_nil)))) (pa_cons (pe_tup (pa_cons (pv 2) (pa_cons (pv 6) (pa_cons (Mq.pe_ls (pa_cons pe_str (pa_cons (pv 6) (pa_cons pe_bl pa_nil)))) pa_nil)))) pa_nil)))))
        (pss_one (ps_for (passes_of rfl) rfl (pi_tup (pv 8)) (pg_tup rfl (pgs_cons (pg_name (i := 9) sc__law_odd_right.nd rfl (Or.inl rfl)) (pgs_cons (pg_name (i := 10) sc__law_odd_right.nd rfl (Or.inl rfl)) (pgs_cons (pg_name (i := 11) sc__law_odd_right.nd rfl (Or.inl rfl)) pgs_nil))))
          (pss_one (ps_if (pt_cmpR op_ne (pe_callB (call_rep hr gA) (by rfl) B.repr (by decide +kernel) (pa_cons (Mq.pe_callG GE gA hr7 (by rfl) gE FE.kp bE pass0 (pa_cons (pv 1) (pa_cons (pv 7) (pa_cons (pv 9) (pa_cons (pv 10) (pa_cons (pe_cmpR op_eq (pv 7) pe_int (nomark _)) pa_nil)))))) pa_nil)) (pe_callB (call_rep hr gA) (by rfl) B.repr (by decide +kernel) (pa_cons (pv 11) pa_nil)) (nomark _)) (pss_one (ps_ret pe_bl)) pss_nil))))))
      (pss_one (ps_ret pe_bl))))), ?_⟩
    obtain ⟨hs, _, _⟩ := menu_ok sg hm
    have hl : WebGood sg (.str (S l)) l := ⟨rfl, h1, by omega⟩
    have hro : WebGood sg (.str (S row)) row := ⟨rfl, h2, by omega⟩
    refine ⟨sz_le (n := 1) (by decide), fun p3 hp3 => ?_⟩
    have s1 := same_new (o := HO.tup [V.str "a"]) hp3
    have z3 : SqT K (upd H p3 (.tup [V.str "a"])) p3 [V.str "a"] := Or.inl (Or.inl upd_same)
    generalize upd H p3 (.tup [V.str "a"]) = G1 at s1 z3 ⊢
    refine ⟨sz_le (n := 0) (by decide), fun p4 hp4 hn4 => ?_⟩
    have n4 := new_ne (hdk.same s1) hp4
    have t2 := same_new (o := HO.lst []) hp4
    have z4 : upd G1 p4 (.lst []) p4 = some (.lst []) := upd_same
    have z3 := Same.tup t2 z3
    have s2 := s1.trans t2
    generalize upd G1 p4 (.lst []) = G2 at s2 z3 z4 ⊢
    refine fun p5 hp5 => ?_
    have n5 := new_ne (hdk.same s2) hp5
    have t3 := same_new (o := HO.dK []) hp5
    have z5 : upd G2 p5 (.dK []) p5 = some (.dK []) := upd_same
    have z3 := Same.tup t3 z3
    have z4 := t3 _ _ z4
    have s3 := s2.trans t3
    generalize upd G2 p5 (.dK []) = G3 at s3 z3 z4 z5 ⊢
    have e1 : (S l ++ "?" : Str) = S (l ++ [63]) := by
      rw [show ("?" : Str) = S [63] by decide +kernel, SX.S_cat]
    have e2 : (S row ++ "y" : Str) = S (row ++ [121]) := by
      rw [show ("y" : Str) = S [121] by decide +kernel, SX.S_cat]
    refine ⟨_, rfl, S l, "?", rfl, rfl, ?_, ?_⟩
    · rw [SX.S_len]
      exact Nat.le_trans (Nat.add_le_add h3 (by decide : ("?" : Str).length ≤ 1)) (by decide)
    rw [e1]
    refine ⟨_, rfl, sz_le (n := 1) (by decide), fun p9 hp9 => ?_⟩
    have t4 := same_new (o := HO.tup [V.str (S l)]) hp9
    have z9 : SqT K (upd G3 p9 (.tup [V.str (S l)])) p9 [V.str (S l)] := Or.inl (Or.inl upd_same)
    have od : OddAt K (upd G3 p9 (.tup [V.str (S l)])) D Cc p3 p4 p5 p9 l := ⟨Same.tup t4 z3, t4 _ _ z4, hn4, t4 _ _ z5, z9, n4, n5⟩
    have s4 := s3.trans t4
    generalize upd G3 p9 (.tup [V.str (S l)]) = G4 at s4 od ⊢
    refine ⟨_, _, rfl, rfl, ⟨by decide, by decide, by decide⟩, ?_⟩
    refine ⟨_, rfl, S row, "y", rfl, rfl, ?_, ?_⟩
    · rw [SX.S_len]
      exact Nat.le_trans (Nat.add_le_add h4 (by decide : ("y" : Str).length ≤ 1)) (by decide)
    rw [e2]
    refine ⟨sz_le (n := 12) (by decide), fun ps hps _ => ?_⟩
    have nps := new_ne (hdk.same s4) hps
    have t5 := same_new (o := HO.lst (oddV p3 p4 p5 p9 l row)) hps
    have zps : upd G4 ps (.lst (oddV p3 p4 p5 p9 l row)) ps = some (.lst (oddV p3 p4 p5 p9 l row)) := upd_same
    have od5 := od.same t5
    have s5 := s4.trans t5
    show _
    have dk5 := hdk.same s5
    have hb5 := hb.same s5
    refine ⟨_, rfl, _, rfl, D, Cc, T, .ref ps, rfl, dk5, by omega, Or.inr ⟨ps, _, rfl, zps, nps.2, Nat.zero_lt_succ _, by show 12 ≤ 1000; decide, fun H6 v hv dk6 off6 => ?_⟩⟩
    have zps6 := off6 _ _ nps.1 nps.2 zps
    have od6 := od5.off off6 dk5
    have hb6 := hb5.off off6 dk5
    refine ⟨_, rfl, _, rfl, D, Cc, _, .ref ps, rfl, dk6, by omega, Or.inr ⟨ps, _, rfl, zps6, nps.2, Nat.zero_lt_succ _, by show 12 ≤ 1000; decide, fun H7 u hu dk7 off7 => ?_⟩⟩
    have od7 := od6.off off7 dk6
    have hb7 := hb6.off off7 dk6
    have off07 : Off D Cc H H7 := ((Off.same s5).trans off6).trans off7
    clear zps6 od6 hb6 dk6 off6 off7 dk5 hb5 od5
    obtain ⟨bv, dv, dgv, okv, _⟩ := odd_ok od7 hm hs.low h1 h2 h3 h4 v hv
    obtain ⟨bu, du, dgu, _, oku⟩ := odd_ok od7 hm hs.low h1 h2 h3 h4 u hu
    refine ⟨_, _, rfl, ?_⟩
    refine ⟨3, rfl, by decide, by decide, ?_⟩
    refine for_it (walk_rng (n := 3)) (fun k σ H' => Same H7 H' ∧ ∃ o7 o8 o9 o10 o11, σ = [some (.ref D), some (.ref r), some (.str (S l)), some (.str (S row)), some (.ref ps), some v, some u, o7, o8, o9, o10, o11]) ⟨Same.refl _, _, _, _, _, _, rfl⟩ (fun _ _ _ _ _ => trivial) ?_ ?_
    · rintro k x σ H8 H8' hk ⟨s8, o7, o8, o9, o10, o11, rfl⟩ ⟨rfl, rfl⟩
      have hb8 := hb7.same s8
      have L1 : LotOk K C k r v (.str (S row)) "web" v dv H7 := ⟨fun H' nm Q E s q => ⟨k, nm, r, fa, ta, sg, fs, v, _, rfl, hk, hb7.same s, hfs, Or.inr (Or.inl ⟨bv.same s, q⟩)⟩, dgv, okv⟩
      have L2 : LotOk K C k r v u "web" v dv H7 := ⟨fun H' nm Q E s q => ⟨k, nm, r, fa, ta, sg, fs, v, u, rfl, hk, hb7.same s, hfs, Or.inr (Or.inl ⟨bv.same s, q⟩)⟩, dgv, okv⟩
      have L3 : LotOk K C k r (.str (S l)) u "row" u du H7 := ⟨fun H' nm Q E s q => ⟨k, nm, r, fa, ta, sg, fs, _, u, rfl, hk, hb7.same s, hfs, Or.inr (Or.inr ⟨⟨l, hl⟩, bu.same s, q⟩)⟩, dgu, oku⟩
      refine ⟨_, rfl, _, rfl, _, rfl, sz_le (n := 3) (by decide), fun d1 hd1 hnd1 => ⟨sz_le (n := 3) (by decide), fun q1 hq1 => ?_⟩⟩
      have t1 := same_new (o := HO.lst [V.str "web", v, V.bl true]) hd1
      have w1 : upd H8' d1 (.lst [V.str "web", v, V.bl true]) d1 = some (.lst [V.str "web", v, V.bl true]) := upd_same
      generalize upd H8' d1 (.lst [V.str "web", v, V.bl true]) = J1 at t1 w1 hq1 ⊢
      have t2 := same_new (o := HO.tup [v, V.str (S row), V.ref d1]) hq1
      have y1 : SqT K (upd J1 q1 (.tup [v, V.str (S row), V.ref d1])) q1 [v, V.str (S row), V.ref d1] := Or.inl (Or.inl upd_same)
      have w1 := t2 _ _ w1
      have r2 := s8.trans (t1.trans t2)
      generalize upd J1 q1 (.tup [v, V.str (S row), V.ref d1]) = J2 at r2 y1 w1 ⊢
      refine ⟨_, rfl, _, rfl, _, rfl, sz_le (n := 3) (by decide), fun d2 hd2 hnd2 => ⟨sz_le (n := 3) (by decide), fun q2 hq2 => ?_⟩⟩
      have t3 := same_new (o := HO.lst [V.str "web", v, V.bl true]) hd2
      have w2 : upd J2 d2 (.lst [V.str "web", v, V.bl true]) d2 = some (.lst [V.str "web", v, V.bl true]) := upd_same
      generalize upd J2 d2 (.lst [V.str "web", v, V.bl true]) = J3 at t3 w2 hq2 ⊢
      have t4 := same_new (o := HO.tup [v, u, V.ref d2]) hq2
      have y2 : SqT K (upd J3 q2 (.tup [v, u, V.ref d2])) q2 [v, u, V.ref d2] := Or.inl (Or.inl upd_same)
      have w2 := t4 _ _ w2
      have r24 := t3.trans t4
      have w1 := r24 _ _ w1
      have y1 := Same.tup r24 y1
      have r4 := r2.trans r24
      generalize upd J3 q2 (.tup [v, u, V.ref d2]) = J4 at r4 y1 y2 w1 w2 ⊢
      refine ⟨_, rfl, _, rfl, _, rfl, sz_le (n := 3) (by decide), fun d3 hd3 hnd3 => ⟨sz_le (n := 3) (by decide), fun q3 hq3 => ?_⟩⟩
      have t5 := same_new (o := HO.lst [V.str "row", u, V.bl true]) hd3
      have w3 : upd J4 d3 (.lst [V.str "row", u, V.bl true]) d3 = some (.lst [V.str "row", u, V.bl true]) := upd_same
      generalize upd J4 d3 (.lst [V.str "row", u, V.bl true]) = J5 at t5 w3 hq3 ⊢
      have t6 := same_new (o := HO.tup [V.str (S l), u, V.ref d3]) hq3
      have y3 : SqT K (upd J5 q3 (.tup [V.str (S l), u, V.ref d3])) q3 [V.str (S l), u, V.ref d3] := Or.inl (Or.inl upd_same)
      have w3 := t6 _ _ w3
      have r46 := t5.trans t6
      have w1 := r46 _ _ w1
      have w2 := r46 _ _ w2
      have y1 := Same.tup r46 y1
      have y2 := Same.tup r46 y2
      have r6 := r4.trans r46
      generalize upd J5 q3 (.tup [V.str (S l), u, V.ref d3]) = J6 at r6 y1 y2 y3 w1 w2 w3 ⊢
      refine ⟨sz_le (n := 3) (by decide), fun pl hpl => ?_⟩
      have t7 := same_new (o := HO.tup [V.ref q1, V.ref q2, V.ref q3]) hpl
      have yl : SqT K (upd J6 pl (.tup [V.ref q1, V.ref q2, V.ref q3])) pl [V.ref q1, V.ref q2, V.ref q3] := Or.inl (Or.inl upd_same)
      have w1 := t7 _ _ w1
      have w2 := t7 _ _ w2
      have w3 := t7 _ _ w3
      have y1 := Same.tup t7 y1
      have y2 := Same.tup t7 y2
      have y3 := Same.tup t7 y3
      have r7 := r6.trans t7
      generalize upd J6 pl (.tup [V.ref q1, V.ref q2, V.ref q3]) = J7 at r7 y1 y2 y3 w1 w2 w3 yl ⊢
      refine ⟨_, rfl, pl, rfl, ⟨_, yl⟩, ?_⟩
      refine for_tup (xs := [V.ref q1, V.ref q2, V.ref q3]) (fun j σ H' => Same J7 H' ∧ ∃ o9 o10 o11, σ = [some (.ref D), some (.ref r), some (.str (S l)), some (.str (S row)), some (.ref ps), some v, some u, some (.int (k : Nat)), some (.ref pl), o9, o10, o11]) ⟨Same.refl _, _, _, _, rfl⟩ (fun j σ H' _ q => Same.tup q.1 yl) ?_ ?_
      · rintro j x σ H9 hx ⟨s9, o9, o10, o11, rfl⟩
        obtain ⟨qq, near, far, dd, kk, vv, dat, rfl, yy, ww, nd, lot⟩ : ∃ (qq : Addr) (near far : V) (dd : Addr) (kk : Str) (vv : V) (dat : PyData), x = .ref qq ∧ SqT K J7 qq [near, far, .ref dd] ∧ J7 dd = some (.lst [.str kk, vv, .bl true]) ∧ dd ≠ sysModules ∧ LotOk K C k r near far kk vv dat H7 := by
          match j, hx with
          | 0, hx => exact ⟨q1, v, _, d1, "web", v, dv, (Option.some.inj hx).symm, y1, w1, hnd1, L1⟩
          | 1, hx => exact ⟨q2, v, u, d2, "web", v, dv, (Option.some.inj hx).symm, y2, w2, hnd2, L2⟩
          | 2, hx => exact ⟨q3, _, u, d3, "row", u, du, (Option.some.inj hx).symm, y3, w3, hnd3, L3⟩
        refine ⟨qq, _, rfl, Same.tup s9 yy, rfl, _, _, rfl, _, _, rfl, _, _, rfl, rfl, ?_⟩
        have ss := r7.trans s9
        refine ⟨_, rfl, _, rfl, _, rfl, _, rfl, _, rfl, rfl, ?_⟩
        try dsimp only [tNil, tCons, tC]
        refine lot.hear H9 _ _ _ ss (fun H10 p s10 hne e => ?_)
        have s710 := ss.trans s10
        refine ⟨_, _, rfl, dg_bad hne e (lot.dg.same s710), lot.ok.sh, lot.ok.de, lot.ok.le, ?_⟩
        refine ⟨_, rfl, _, _, rfl, dg_bad nd (s10 _ _ (s9 _ _ ww)) (lot.dg.same s710), lot.ok.sh, lot.ok.de, lot.ok.le, ?_⟩
        refine ⟨rfl, _, rfl, ifF (by rw [decide_eq_true rfl]; rfl) ?_⟩
        exact ⟨s9.trans s10, _, _, _, rfl⟩
      · rintro σ H9 ⟨s9, o9, o10, o11, rfl⟩
        exact ⟨r7.trans s9, _, _, _, _, _, rfl⟩
    · rintro σ H8 ⟨s8, o7, o8, o9, o10, o11, rfl⟩
      exact q H8 ((dk7.same s8).mono (by omega)) (off07.trans (Off.same s8))
end
end Lw

namespace Mq
open PySem PySem.Spec PyProof.Rows L2
/-! ### a text, from its end -/
def revS (z : Str) : Str := ⟨z.cps.toList.reverse.toArray⟩
theorem rev_ix (n : Nat) : Builtin.Str.strSliceIndices none none (-1) n = (List.range n).reverse := by
  rw [← PySem.W.krv_range, ← PySem.W.krv_sliceRange]
  rfl
theorem rev_pick (z : Str) : (Builtin.Str.strSliceIndices none none (-1) z.length).filterMap (z.cps[·]?) = z.cps.toList.reverse := by
  rw [rev_ix]
  show ((List.range z.cps.size).reverse).filterMap (z.cps[·]?) = _
  rw [List.filterMap_reverse, PySem.W.krv_all]
def tRevS (te : TE) : TE := fun σ H Q => te σ H fun x H1 => ∃ z : Str, x = .str z ∧ z.length ≤ sizeLine ∧ Q (.str (revS z)) H1
theorem pe_revS {X : Cx} {e : Expr} {te : TE} {k : Nat} {p1 p2 p3 pos : Pos} (he : PE X e te) : PE X (.Subscript e (.Slice none none (some (.UnaryOp .USub (.Constant (.int 1) k p1) p2)) p3) pos) (tRevS te) := by
  refine ⟨fun pins s σ H Q I0 h => ?_⟩
  refine Subscript_ (thn (he.run pins s σ H _ I0 h) fun v s1 ⟨x, H1, I1, r1, q1⟩ => ?_)
  obtain ⟨z, ez, hz, q⟩ := q1
  subst ez
  obtain ⟨tz, rfl⟩ := r1
  have back : PO X (some (.UnaryOp .USub (.Constant (.int 1) k p1) p2)) (tPart (tUn (rU fun i => .int (-i)) (tC (.int 1)))) := po_some (pe_un un_neg pe_int)
  refine wpAny_Slice (thn (po_none.run pins s1 σ H1 (fun o G => o = none ∧ G = H1) I1 ⟨rfl, rfl⟩) fun v1 s2 ⟨o1, G1, I2, a1, b1, c1⟩ => ?_)
  subst b1 c1
  refine thn (po_none.run pins s2 σ G1 (fun o G => o = none ∧ G = G1) I2 ⟨rfl, rfl⟩) fun v2 s3 ⟨o2, G2, I3, a2, b2, c2⟩ => ?_
  subst b2 c2
  refine thn (back.run pins s3 σ G2 (fun o G => o = some (-1) ∧ G = G2) I3 ⟨1, rfl, -1, rfl, rfl, rfl⟩) fun v3 s4 ⟨o3, G3, I4, a3, b3, c3⟩ => ?_
  subst b3 c3
  obtain ⟨l1, rfl, f1⟩ := IsPart.raw a1
  obtain ⟨l2, rfl, f2⟩ := IsPart.raw a2
  obtain ⟨l3, rfl, f3⟩ := IsPart.raw a3
  have I5 : Inv X pins σ G3 { s4 with heap := s4.heap.push { cls := .type "slice", data := .fields #[partValue l1, partValue l2, partValue l3] } } := I4.kept (t' := s4.toks) fun b ob q => Heap.get?_push_of_some _ q
  show wpAny (model X.prog X.w) X.A (subscriptTail e (.Slice none none (some (.UnaryOp .USub (.Constant (.int 1) k p1) p2)) p3) (.str z tz) (.ref s4.heap.objs.size)) (EP X pins σ Q) X.xe { s4 with heap := s4.heap.push { cls := .type "slice", data := .fields #[partValue l1, partValue l2, partValue l3] } }
  refine tail_any (ops := [.str z tz, .ref s4.heap.objs.size]) (typeIs_str _ z tz) (F.slot_str_getitem.lookup) ?_ (by with_unfolding_all rfl)
  refine wpAny_getItem_str_slice (l := l1) (u := l2) (st := l3) ⟨_, Heap.get?_push_size _ rfl, rfl, rfl⟩ (by rw [f3]; rfl) ?_
  unfold sliceMade slicePicked
  rw [f1, f2, f3]
  show Made.post (if ((-1 : Int) == 1 && (Builtin.Str.strSliceIndices none none (-1) z.length).length == z.length) = true then Made.val (.str z tz) else Made.str ⟨((Builtin.Str.strSliceIndices none none (-1) z.length).filterMap (z.cps[·]?)).toArray⟩) (EP X pins σ Q) _
  rw [rev_pick, if_neg (show ¬ _ by rw [show ((-1 : Int) == 1) = false by decide, Bool.false_and]; exact Bool.false_ne_true)]
  refine ⟨?_, .str _, G3, I5.tok _, ⟨_, rfl⟩, q⟩
  show (z.cps.toList.reverse.toArray).size ≤ sizeLine
  rw [List.size_toArray, List.length_reverse, Array.length_toList]
  exact hz
end Mq

namespace Lw
open PySem PySem.Spec PyProof.Rows L2 Mq
open SX (S)
/-! ### webs and rows that are drawn -/
theorem new_ne' {D C : Addr} {T : Nat} {H : Hp} {q : Addr} (k : DeckAt D C T H) (h : H q = none) : q ≠ D ∧ q ≠ C := by
  obtain ⟨_, _, _, e1, e2, _⟩ := k.ex
  refine ⟨?_, ?_⟩
  · rintro rfl
    rw [h] at e1
    cases e1
  · rintro rfl
    rw [h] at e2
    cases e2
theorem rev_S (l : List Nat) : revS (S l) = S l.reverse := rfl
theorem rep_S (l : List Nat) : repS (S l) 2 = S (l ++ l) := by
  show (⟨(#[] ++ l.toArray) ++ l.toArray⟩ : Str) = ⟨(l ++ l).toArray⟩
  simp
def lenOf (σ : L2.St) : Nat := match σ[3]? with
  | some (some (V.str x)) => x.length
  | _ => 0
def tLess : TT := fun σ H Q => ∃ (l : List Nat) (z : Nat), σ[3]? = some (some (.str (S l))) ∧ σ[4]? = some (some (.int (z : Nat))) ∧ l.length ≤ 100000 ∧ Q (decide (l.length < z)) H
def spLays : Sp := fun vs H Q _ => ∃ (D C : Addr) (T most : Nat) (sg : List Nat), vs = [.ref D, .str (S sg), .int (most : Nat)] ∧ DeckAt D C T H ∧ T ≤ 900000 ∧ 0 < sg.length ∧ sg.length ≤ 1000 ∧ most ≤ 200 ∧
  ∀ H' l, (∀ c ∈ l, c ∈ sg) → l.length ≤ most → DeckAt D C (T + 3000) H' → Off D C H H' → Q (.str (S l)) H'
section
variable {P : Program} {w : World} {K : PySem.W.Frag} {mg : Str → Option Value} {base : Heap}
theorem ok_lays {f fD fP : Addr} {fd fdD fdP : FuncData} (F : Fun K "_law_lays" "_law_lays" s__law_lays f fd) (B : Blt mg)
    (FD : Fun K "_law_draw" "_law_draw" s__law_draw fD fdD) (gD : mg "_law_draw" = some (.ref fD)) (bD : Binds K fdD ["_law_deck_here", "_law_many"] []) (GD : FnOk P w K mg base CX0 1 fD fdD ["_law_deck_here", "_law_many"] spDraw)
    (FP : Fun K "_law_pick" "_law_pick" s__law_pick fP fdP) (gP : mg "_law_pick" = some (.ref fP)) (bP : Binds K fdP ["_law_deck_here", "_law_some"] []) (GP : FnOk P w K mg base CX0 2 fP fdP ["_law_deck_here", "_law_some"] spPick) :
    FnOk P w K mg base CX0 3 f fd ["_law_deck_here", "_law_signs", "_law_most"] spLays := by
  refine F.ok sc__law_lays (fun vs H Q E h => ?_) (fun cdv A outer s H vs Q E hr h => ?_)
  · obtain ⟨_, _, _, _, _, rfl, _⟩ := h
    rfl
  · obtain ⟨D, C, T, most, sg, rfl, hdk, hT, h0, h1, hm, q⟩ := h
    refine ⟨_, (pss_cons (ps_par (i := 3) (j := 4) rfl sc__law_lays.nd rfl rfl (by decide) rfl rfl (pa_cons pe_str (pa_cons (pe_call GD (hr.mono (by decide)) (by rfl) gD FD.kp bD .nil pass0 (pa_cons (pv 0) (pa_cons (pe_op op_add (pv 2) pe_int) pa_nil))) pa_nil)) (by rfl))
      (pss_cons (ps_while PassesOwn.never (PT_imp (t' := tLess) (pt_cmpR op_lt (pe_callB call_len (by rfl) B.len (by decide +kernel) (pa_cons (pv 3) pa_nil)) (pv 4) (nomark _)) (fun σ H Q h => by
          obtain ⟨l, z, h3, h4, hl, q⟩ := h
          refine ⟨_, h3, _, _, rfl, len_S hl, _, h4, _, _, rfl, rfl, ?_⟩
          have e : decide (((l.length : Nat) : Int) < ((z : Nat) : Int)) = decide (l.length < z) := decide_eq_decide.mpr (by omega)
          exact ⟨_, congrArg V.bl e, q⟩))
        (pss_cons (ps_set (i := 5) sc__law_lays.nd rfl (Or.inl rfl) (pe_join pe_str (pe_lc (own := [("_law_k", 6)]) (g := gName 6) (tt := tYes) rfl sc__law_lays.nd (pi_range1 (by rfl) B.range (pa_cons (pe_op op_add pe_int (pe_call GD (hr.mono (by decide)) (by rfl) gD FD.kp bD .nil pass0 (pa_cons (pv 0) (pa_cons pe_int pa_nil)))) pa_nil)) (blkOk_by (own := [("_law_k", 6)]) (N := ["_law_deck_here", "_law_signs", "_law_most", "_law_found", "_law_size", "_law_piece", "_law_k"]) (sc := defScope s__law_lays) (by decide +kernel)) (fun _ _ _ _ _ => pg_name (i := 6) sc__law_lays.nd rfl (Or.inl rfl)) (fun _ _ _ _ _ => pts_nil) (fun _ _ _ _ _ => (pe_call GP (hr.mono (by decide)) (by rfl) gP FP.kp bP .nil pass0 (pa_cons (pv 0) (pa_cons (pv 1) pa_nil)))))))
        (pss_one (ps_set (i := 3) sc__law_lays.nd rfl (Or.inl rfl) (pe_op op_add_str (pv 3) (pe_call GP (hr.mono (by decide)) (by rfl) gP FP.kp bP .nil pass0 (pa_cons (pv 0) (pa_cons (Mq.pe_ls (pa_cons (pv 5) (pa_cons (pv 5) (pa_cons (pe_op op_mulS (pv 5) pe_int) (pa_cons (pe_op op_add_str (pv 5) (pe_revS (pv 5))) (pa_cons (pe_op op_add_str (pe_revS (pv 3)) (pv 5)) pa_nil)))))) pa_nil))))))))
      (pss_one (ps_ret (pe_slice C8.sl_txt (pv 3) po_none (po_some (pv 4))))))), ?_⟩
    refine ⟨_, rfl, _, rfl, _, _, rfl, rfl, D, C, T, most + 1, rfl, hdk, by omega, by omega, by omega, fun H1 z hz dk1 off1 => ?_⟩
    refine ⟨_, _, rfl, ?_⟩
    refine while_by (fun σ H' => ∃ (l : List Nat) (o5 : Option V), (∀ c ∈ l, c ∈ sg) ∧ l.length ≤ 2 * z + 6 ∧ DeckAt D C (T + 1 + 5 * l.length) H' ∧ Off D C H H' ∧ σ = [some (.ref D), some (.str (S sg)), some (.int (most : Nat)), some (.str (S l)), some (.int (z : Nat)), o5, none])
      (fun σ _ => 1000 - lenOf σ) ⟨[], none, (fun _ h => by cases h), Nat.zero_le _, dk1, off1, rfl⟩ ?_ ?_
    · rintro σ H2 ⟨l, o5, hl, hll, dk2, off2, rfl⟩
      refine ⟨l, z, rfl, rfl, by omega, ite2 (fun hc => ?_) (fun hc => ?_)⟩
      · have hlz : l.length < z := of_decide_eq_true hc
        refine ⟨⟨_, rfl⟩, _, rfl, D, C, _, 3, rfl, dk2, by omega, by decide, by decide, fun H3 k hk dk3 off3 => ?_⟩
        refine ⟨_, _, rfl, rfl, _, rfl, by omega, by omega, fun L hL => ?_⟩
        rw [show ((1 : Int) + (k : Nat)).toNat = k + 1 by omega]
        have hLn := new_ne' dk3 hL
        refine lc_yes (walk_rng (n := k + 1)) (fun i H' => DeckAt D C (T + 1 + 5 * l.length + 1 + i) H' ∧ Off D C H3 H' ∧ ∃ p : List Nat, p.length = i ∧ (∀ c ∈ p, c ∈ sg) ∧ H' L = some (.lst (p.map fun c => .str (S [c])))) ⟨dk3.same (same_new hL), Off.same (same_new hL), [], rfl, (fun _ h => by cases h), upd_same⟩ (fun _ _ _ _ => trivial) ?_ ?_
        · rintro i x H4 H5 hi ⟨dk4, off4, p, hp, hc4, hL4⟩ ⟨rfl, rfl⟩
          refine ⟨rfl, ?_⟩
          refine ⟨_, rfl, _, rfl, D, C, _, _, rfl, dk4, by omega, Or.inl ⟨sg, rfl, h0, h1, fun H6 c hcs dk6 off6 => ?_⟩⟩
          refine ⟨_, off6 L _ hLn.1 hLn.2 hL4, sz_lt (by rw [List.length_map]; omega), ?_, ?_, p ++ [c], by rw [List.length_append, hp]; rfl, ?_, ?_⟩
          · obtain ⟨m, t, js, a1, a2, a3, a4⟩ := dk6.ex
            exact ⟨m, t, js, (upd_ne (Ne.symm hLn.1)).trans a1, (upd_ne (Ne.symm hLn.2)).trans a2, a3, by omega⟩
          · intro b o e1 e2 e3
            rw [upd_ne (ne_of_none e3 hL)]
            exact (off4.trans off6) b o e1 e2 e3
          · intro d hd
            rcases List.mem_append.mp hd with hd | hd
            · exact hc4 d hd
            · rw [List.mem_singleton.mp hd]
              exact hcs
          · rw [upd_same, List.map_append]
            rfl
        · rintro H4 ⟨dk4, off4, p, hp, hc4, hL4⟩
          refine ⟨S [], L, (p.map fun c => [c]).map S, rfl, rfl, Or.inl (SqL.of (hL4.trans ?_)), ?_, ?_⟩
          · rw [List.map_map, List.map_map]
            rfl
          · rw [ones_sum, SX.S_len, List.length_map, List.length_map]
            show p.length + p.length * 0 ≤ _
            omega
          · rw [SX.join_S, joinW_one]
            have off04 := (off2.trans off3).trans off4
            have lens : ∀ n, n ≤ 1000 → ∀ u : List Nat, u.length ≤ n → (S u).length ≤ sizeLine := fun n hn u hu => by
              rw [SX.S_len]
              exact sz_le (by omega)
            have hpl : p.length ≤ 3 := by omega
            refine ⟨_, rfl, _, rfl, _, rfl, _, rfl, _, rfl, S p, 2, rfl, rfl, by decide, by decide, by rw [SX.S_len]; omega, by rw [SX.S_len]; omega, ?_, ?_⟩
            · rw [rep_S, SX.S_len, List.length_append]
              exact sz_le (by omega)
            refine ⟨_, rfl, _, rfl, S p, rfl, lens 1000 (by decide) p (by omega), S p, revS (S p), rfl, rfl, ?_, ?_⟩
            · rw [rev_S, SX.S_len, SX.S_len, List.length_reverse]
              exact sz_le (by omega)
            refine ⟨_, rfl, S l, rfl, lens 1000 (by decide) l (by omega), _, rfl, revS (S l), S p, rfl, rfl, ?_, ?_⟩
            · rw [rev_S, SX.S_len, SX.S_len, List.length_reverse]
              exact sz_le (by omega)
            rw [rep_S, rev_S, rev_S, SX.S_cat, SX.S_cat]
            refine ⟨sz_le (n := 5) (by decide), fun pm hpm _ => ?_⟩
            have s5 := same_new (o := HO.lst [V.str (S p), V.str (S p), V.str (S (p ++ p)), V.str (S (p ++ p.reverse)), V.str (S (l.reverse ++ p))]) hpm
            refine ⟨D, C, _, .ref pm, rfl, dk4.same s5, by omega, Or.inr ⟨pm, _, rfl, upd_same, (new_ne' dk4 hpm).2, Nat.zero_lt_succ _, by show 5 ≤ 1000; decide, fun H6 v hv dk6 off6 => ?_⟩⟩
            have off06 := (off04.trans (Off.same s5)).trans off6
            obtain ⟨u, hu1, hu2, hu3, rfl⟩ : ∃ u : List Nat, (∀ c ∈ u, c ∈ sg) ∧ 0 < u.length ∧ u.length ≤ l.length + 6 ∧ v = .str (S u) := by
              have both : ∀ {a b : List Nat}, (∀ c ∈ a, c ∈ sg) → (∀ c ∈ b, c ∈ sg) → ∀ c ∈ a ++ b, c ∈ sg := fun ha hb c hc => (List.mem_append.mp hc).elim (ha c) (hb c)
              have rv : ∀ {a : List Nat}, (∀ c ∈ a, c ∈ sg) → ∀ c ∈ a.reverse, c ∈ sg := fun ha c hc => ha c (List.mem_reverse.mp hc)
              simp only [List.mem_cons, List.not_mem_nil, or_false] at hv
              rcases hv with rfl | rfl | rfl | rfl | rfl
              · exact ⟨p, hc4, by omega, by omega, rfl⟩
              · exact ⟨p, hc4, by omega, by omega, rfl⟩
              · exact ⟨p ++ p, both hc4 hc4, by rw [List.length_append]; omega, by rw [List.length_append]; omega, rfl⟩
              · exact ⟨p ++ p.reverse, both hc4 (rv hc4), by rw [List.length_append]; omega, by rw [List.length_append, List.length_reverse]; omega, rfl⟩
              · exact ⟨l.reverse ++ p, both (rv hl) hc4, by rw [List.length_append]; omega, by rw [List.length_append, List.length_reverse]; omega, rfl⟩
            refine ⟨S l, S u, rfl, rfl, ?_, ?_⟩
            · rw [SX.S_len, SX.S_len]
              exact sz_le (by omega)
            rw [SX.S_cat]
            have hlen : (l ++ u).length = l.length + u.length := List.length_append
            refine ⟨⟨l ++ u, _, fun c hc => (List.mem_append.mp hc).elim (hl c) (hu1 c), by omega, dk6.mono (by omega), off06, rfl⟩, ?_⟩
            show 1000 - (S (l ++ u)).length < 1000 - (S l).length
            rw [SX.S_len, SX.S_len]
            omega
      · have hlz : ¬ l.length < z := fun h => hc (decide_eq_true h)
        have hls : (S l).length ≤ sizeLine := by
          rw [SX.S_len]
          exact sz_le (by omega)
        refine ⟨_, rfl, _, rfl, _, rfl, S l, rfl, hls, ?_⟩
        have e2 : Txt.slice (S l) none (some ((z : Nat) : Int)) = S (l.take z) := by
          rw [SX.slice_to (by omega), Int.toNat_natCast]
        rw [e2]
        exact q H2 (l.take z) (fun c hc => hl c ((List.take_sublist z l).subset hc)) (by rw [List.length_take]; omega) (dk2.mono (by omega)) off2
    · rintro σ H2 Q1 Q2 hq ⟨l, z2, a, b, c, d⟩
      exact ⟨l, z2, a, b, c, hq _ _ d⟩
end
end Lw

namespace Lw
open PySem PySem.Spec PyProof.Rows L2 Mq
open SX (S)
/-! ### the law -/
def spLaw (K : PySem.W.Frag) : Sp := fun vs H Q _ => ∃ (a : Addr) (ns : List Int), vs = [.ref a] ∧ SqL K H a (ns.map V.int) ∧ ns.length ≤ 63 ∧ ∀ H', Q (.bl true) H'
def tLong : TE := fun σ H Q => ∃ (D C : Addr) (T tn : Nat), σ[1]? = some (some (.ref D)) ∧ σ[2]? = some (some (.int (tn : Nat))) ∧ DeckAt D C T H ∧ T ≤ 1000000 ∧ ∀ H' b, DeckAt D C (T + 1) H' → Off D C H H' → Q (.bl b) H'
def tMost : TE := fun σ H Q => (∃ b : Bool, σ[5]? = some (some (.bl b))) ∧ ∀ m : Nat, m ≤ 200 → Q (.int (m : Nat)) H
def farF : List Fd := [⟨109, 109, [109]⟩]
theorem far_ok : FsOk [97, 109] farF := by
  refine ⟨by decide, fun f hf => ?_, fun i j hij hj => ?_⟩
  · rw [List.mem_singleton.mp hf]
    exact ⟨by decide, by decide, Or.inr ⟨109, by decide, rfl⟩⟩
  · have : farF.length = 1 := rfl
    omega
theorem far_sg : SgOk [97, 109] := ⟨by decide, by decide, by decide, by decide +kernel⟩
def w0D : PyData := .tuple [.str "web", .int 0]
def l0D : PyData := .tuple [.str "lay", .int 0]
def ev2D : PyData := .tuple [.tuple [.str "turns", w0D], .tuple [.str "stands"]]
theorem far_ev : ansM farF [109] [109, 97] 1 = ev2D := by rfl
theorem far_so : ansM farF [97, 109] [109] 2 = .tuple [w0D, l0D] := by rfl
section
variable {P : Program} {w : World} {K : PySem.W.Frag} {mg : Str → Option Value} {base : Heap} {C CW CR : Addr}
theorem ok_law {f fI fD fR fP fO fK fL fG fX f1 f2 : Addr} {fd fdI fdD fdR fdP fdO fdK fdL fdG fdX fd1 fd2 : FuncData} (F : Fun K "law" "law" s_law f fd) (B : Blt mg)
    (gC : mg "Book" = some (.ref C)) (M : Mk K C fI) (bI : Binds K fdI ["self", "letters", "folds"] []) (GI : FnOk P w K mg base CX0 3 fI fdI ["self", "letters", "folds"] (spBook K C))
    (FD : Fun K "_law_deck" "_law_deck" s__law_deck fD fdD) (gD : mg "_law_deck" = some (.ref fD)) (bD : Binds K fdD ["_law_script"] []) (GD : FnOk P w K mg base CX0 1 fD fdD ["_law_script"] (spDeck K))
    (FR : Fun K "_law_draw" "_law_draw" s__law_draw fR fdR) (gR : mg "_law_draw" = some (.ref fR)) (bR : Binds K fdR ["_law_deck_here", "_law_many"] []) (GR : FnOk P w K mg base CX0 1 fR fdR ["_law_deck_here", "_law_many"] spDraw)
    (FP : Fun K "_law_pick" "_law_pick" s__law_pick fP fdP) (gP : mg "_law_pick" = some (.ref fP)) (bP : Binds K fdP ["_law_deck_here", "_law_some"] []) (GP : FnOk P w K mg base CX0 2 fP fdP ["_law_deck_here", "_law_some"] spPick)
    (FO : Fun K "_law_book" "_law_book" s__law_book fO fdO) (gO : mg "_law_book" = some (.ref fO)) (bO : Binds K fdO ["_law_deck_here", "_law_signs"] []) (GO : FnOk P w K mg base CX0 3 fO fdO ["_law_deck_here", "_law_signs"] spBookL)
    (FK : Fun K "_law_code" "_law_code" s__law_code fK fdK) (gK : mg "_law_code" = some (.ref fK)) (bK : Binds K fdK ["_law_f"] []) (GK : FnOk P w K mg base CX0 5 fK fdK ["_law_f"] (spCode K C))
    (FL : Fun K "_law_lays" "_law_lays" s__law_lays fL fdL) (gL : mg "_law_lays" = some (.ref fL)) (bL : Binds K fdL ["_law_deck_here", "_law_signs", "_law_most"] []) (GL : FnOk P w K mg base CX0 3 fL fdL ["_law_deck_here", "_law_signs", "_law_most"] spLays)
    (FG : Fun K "_law_right" "_law_right" s__law_right fG fdG) (gG : mg "_law_right" = some (.ref fG)) (bG : Binds K fdG ["_law_f", "_law_code_here", "_law_cloth", "_law_lays_here"] []) (GG : FnG P w K mg base CX0 8 fG fdG ["_law_f", "_law_code_here", "_law_cloth", "_law_lays_here"] (spRight C))
    (FX : Fun K "_law_odd_right" "_law_odd_right" s__law_odd_right fX fdX) (gX : mg "_law_odd_right" = some (.ref fX)) (bX : Binds K fdX ["_law_deck_here", "_law_code_here", "_law_cloth", "_law_lays_here"] []) (GX : FnG P w K mg base CX0 8 fX fdX ["_law_deck_here", "_law_code_here", "_law_cloth", "_law_lays_here"] (spOdd C))
    (F1 : Fun K "events" "events" s_events f1 fd1) (g1 : mg "events" = some (.ref f1)) (b1 : Binds K fd1 ["book", "web", "row"] []) (G1 : FnOk P w K mg base (L2.CX P w) 5 f1 fd1 ["book", "web", "row"] (spAns K C CW CR 1))
    (F2 : Fun K "sources" "sources" s_sources f2 fd2) (g2 : mg "sources" = some (.ref f2)) (b2 : Binds K fd2 ["book", "web", "row"] []) (G2 : FnOk P w K mg base (L2.CX P w) 5 f2 fd2 ["book", "web", "row"] (spAns K C CW CR 2)) :
    FnG P w K mg base CX0 9 f fd ["_law_script"] (spLaw K) := by
  refine Mq.Fun.okG F sc_law (fun vs H Q E h => ?_) (fun cdv A outer s H vs Q E gA hr h => ?_)
  · obtain ⟨_, _, rfl, _⟩ := h
    rfl
  · obtain ⟨a, ns0, rfl, ha, hn0, q⟩ := h
    have hr8 : Room 8 (A.deeper (envOfC "law" (defScope s_law) s.heap.objs.size f cdv)) := hr
    have hr5 : Room 5 (A.deeper (envOfC "law" (defScope s_law) s.heap.objs.size f cdv)) := hr.mono (by decide)
    have hu64 : (A.deeper (envOfC "law" (defScope s_law) s.heap.objs.size f cdv)).units + 64 < cLine := by
      have := hr.units
      omega
    have hu1 : (A.deeper (envOfC "law" (defScope s_law) s.heap.objs.size f cdv)).units + 1 < cLine := by omega
    refine ⟨_, (pss_cons (ps_set (i := 1) sc_law.nd rfl (Or.inl rfl) (pe_call GD (hr.mono (by decide)) (by rfl) gD FD.kp bD .nil pass0 (pa_cons (pv 0) pa_nil)))
      (pss_cons (ps_for (passes_of rfl) rfl (pi_range1 (by rfl) B.range (pa_cons pe_int pa_nil)) (pg_name (i := 2) sc_law.nd rfl (Or.inl rfl))
        (pss_cons (ps_set (i := 3) sc_law.nd rfl (Or.inl rfl) (pe_call GO (hr.mono (by decide)) (by rfl) gO FO.kp bO .nil pass0 (pa_cons (pv 1) (pa_cons (pe_call GP (hr.mono (by decide)) (by rfl) gP FP.kp bP .nil pass0 (pa_cons (pv 1) (pa_cons (Mq.pe_ls (pa_cons pe_str (pa_cons pe_str (pa_cons pe_str (pa_cons pe_str pa_nil))))) pa_nil))) pa_nil))))
        (pss_cons (ps_par (i := 4) (j := 5) rfl sc_law.nd rfl rfl (by decide) rfl rfl (pa_cons (pe_call GK (hr.mono (by decide)) (by rfl) gK FK.kp bK .nil pass0 (pa_cons (pv 3) pa_nil)) (pa_cons (PE_imp (t' := tLong) (pe_and (pe_cmpR op_eq (pv 2) pe_int (nomark _)) (pe_one (pe_cmpR op_eq (pe_call GR (hr.mono (by decide)) (by rfl) gR FR.kp bR .nil pass0 (pa_cons (pv 1) (pa_cons pe_int pa_nil))) pe_int (nomark _)))) (fun σ H Q h => by
            obtain ⟨D, C, T, tn, h1, h2, dk, hT, q⟩ := h
            exact ⟨_, h2, rfl, _, rfl, ite2 (fun _ => ⟨_, h1, D, C, T, 10, rfl, dk, hT, by decide, by decide, fun H1 r hr dk1 off1 => ⟨rfl, q H1 _ dk1 off1⟩⟩) (fun _ => q H _ (dk.mono (by omega)) (Off.refl D C H))⟩)) pa_nil)) (by rfl))
        (pss_cons (ps_set (i := 6) sc_law.nd rfl (Or.inl rfl) (pe_call GL (hr.mono (by decide)) (by rfl) gL FL.kp bL .nil pass0 (pa_cons (pv 1) (pa_cons (pe_dget hu1 (pv 3) pe_str (fun _ _ => rfl)) (pa_cons (PE_imp (t' := tMost) (pe_ifExp (pt_val (pv 5)) pe_int pe_int) (fun σ H Q h => by
            obtain ⟨⟨b, hb⟩, q⟩ := h
            exact ⟨_, hb, _, rfl, ite2 (fun _ => q 200 (by decide)) (fun _ => q 6 (by decide))⟩)) pa_nil)))))
        (pss_cons (ps_set (i := 7) sc_law.nd rfl (Or.inl rfl) (pe_call GL (hr.mono (by decide)) (by rfl) gL FL.kp bL .nil pass0 (pa_cons (pv 1) (pa_cons (pe_dget hu1 (pv 3) pe_str (fun _ _ => rfl)) (pa_cons (PE_imp (t' := tMost) (pe_ifExp (pt_val (pv 5)) pe_int pe_int) (fun σ H Q h => by
            obtain ⟨⟨b, hb⟩, q⟩ := h
            exact ⟨_, hb, _, rfl, ite2 (fun _ => q 200 (by decide)) (fun _ => q 14 (by decide))⟩)) pa_nil)))))
        (pss_cons (ps_if (pt_not (pt_val (Mq.pe_callG GG gA hr8 (by rfl) gG FG.kp bG pass0 (pa_cons (pv 3) (pa_cons (pv 4) (pa_cons (pv 6) (pa_cons (pv 7) pa_nil))))))) (pss_one (ps_ret pe_bl)) pss_nil)
        (pss_one (ps_if (PW.pt (pw_and (pt_cmpR op_lt (pv 2) pe_int (nomark _)) (pw_and1 (pt_not (pt_val (Mq.pe_callG GX gA hr8 (by rfl) gX FX.kp bX pass0 (pa_cons (pv 1) (pa_cons (pv 4) (pa_cons (pe_slice C8.sl_txt (pv 6) po_none (po_some pe_int)) (pa_cons (pe_slice C8.sl_txt (pv 7) po_none (po_some pe_int)) pa_nil)))))))))) (pss_one (ps_ret pe_bl)) pss_nil))))))))
      (pss_cons (ps_set (i := 4) sc_law.nd rfl (Or.inl rfl) (pe_make M GI (hr.mono (by decide)) (by rfl) gC bI .nil pass0 (pa_cons pe_str (pa_cons (pe_tup (pa_cons (pe_tup (pa_cons pe_str (pa_cons pe_str (pa_cons pe_str pa_nil)))) pa_nil)) pa_nil))))
      (pss_one (ps_ret (pe_cmpR (op_eqD hu64) (Mq.pe_ls (pa_cons (pe_callS (E := WE (fun _ _ _ _ => False)) G1 hr5 (by rfl) g1 F1.kp b1 (fun σ => passAt takes0 σ) (pa_cons (pv 4) (pa_cons pe_str (pa_cons pe_str pa_nil)))) (pa_cons (pe_callS (E := WE (fun _ _ _ _ => False)) G2 hr5 (by rfl) g2 F2.kp b2 (fun σ => passAt takes0 σ) (pa_cons (pv 4) (pa_cons pe_str (pa_cons pe_str pa_nil)))) pa_nil))) (Mq.pe_ls (pa_cons (pe_tup (pa_cons (pe_tup (pa_cons pe_str (pa_cons (pe_tup (pa_cons pe_str (pa_cons pe_int pa_nil))) pa_nil))) (pa_cons (pe_tup (pa_cons pe_str pa_nil)) pa_nil))) (pa_cons (pe_tup (pa_cons (pe_tup (pa_cons pe_str (pa_cons pe_int pa_nil))) (pa_cons (pe_tup (pa_cons pe_str (pa_cons pe_int pa_nil))) pa_nil))) pa_nil))) (nomark _))))))), ?_⟩
    refine ⟨_, rfl, a, ns0, rfl, ha, hn0, fun H1 D Cc s1 dk1 => ?_⟩
    refine ⟨5, rfl, by decide, by decide, ?_⟩
    refine for_it (walk_rng (n := 5)) (fun go σ H' => DeckAt D Cc (7000 * go) H' ∧ ∃ o2 o3 o4 o5 o6 o7, σ = [some (.ref a), some (.ref D), o2, o3, o4, o5, o6, o7]) ⟨dk1, _, _, _, _, _, _, rfl⟩ (fun _ _ _ _ _ => trivial) ?_ ?_
    · rintro go x0 σ H2 H2' hgo ⟨dk2, o2, o3, o4, o5, o6, o7, rfl⟩ ⟨rfl, rfl⟩
      refine ⟨_, rfl, _, rfl, sz_le (n := 4) (by decide), fun p hp _ => ?_⟩
      have t3 := same_new (o := HO.lst [V.str "ab", V.str "ab", V.str "ax", V.str "abc"]) hp
      have dk3 := dk2.same t3
      refine ⟨D, Cc, _, .ref p, rfl, dk3, by omega, Or.inr ⟨p, _, rfl, upd_same, (new_ne dk2 hp).2, Nat.zero_lt_succ _, by show 4 ≤ 1000; decide, fun H4 v hv dk4 off4 => ?_⟩⟩
      obtain ⟨sg, hm, rfl⟩ : ∃ sg ∈ menuW, v = .str (S sg) := by
        simp only [List.mem_cons, List.not_mem_nil, or_false] at hv
        rcases hv with rfl | rfl | rfl | rfl
        · exact ⟨[97, 98], by decide, by decide +kernel⟩
        · exact ⟨[97, 98], by decide, by decide +kernel⟩
        · exact ⟨[97, 120], by decide, by decide +kernel⟩
        · exact ⟨[97, 98, 99], by decide, by decide +kernel⟩
      obtain ⟨hs, _, _⟩ := menu_ok sg hm
      have hs0 := hs.pos
      have hs1 := hs.few
      refine ⟨D, Cc, _, sg, rfl, hm, dk4, by omega, fun H5 wd ld gs hgs hw5 dk5 off5 => ?_⟩
      refine ⟨_, rfl, wd, ld, sg, gs, rfl, hw5, hgs, hs, fun H6 r fa ta fs hperm hfs hb6 s6 => ?_⟩
      have dk6 := dk5.same s6
      have hw6 := hw5.same s6
      refine ⟨D, Cc, _, go, rfl, rfl, dk6, by omega, fun H7 b dk7 off7 => ?_⟩
      have hw7 := hw6.off off7 dk6
      have hb7 := hb6.off off7 dk6
      refine ⟨_, _, rfl, ?_⟩
      refine ⟨_, rfl, _, rfl, wd, _, rfl, DGet.k (k := .inr "signs") hw7.w, ⟨_, rfl⟩, fun m1 hm1 => ?_⟩
      refine ⟨D, Cc, _, m1, sg, rfl, dk7, by omega, hs0, by omega, hm1, fun H8 l hl1 hl2 dk8 off8 => ?_⟩
      have hw8 := hw7.off off8 dk7
      have hb8 := hb7.off off8 dk7
      refine ⟨_, rfl, _, rfl, wd, _, rfl, DGet.k (k := .inr "signs") hw8.w, ⟨_, rfl⟩, fun m2 hm2 => ?_⟩
      refine ⟨D, Cc, _, m2, sg, rfl, dk8, by omega, hs0, by omega, hm2, fun H9 row hr1 hr2 dk9 off9 => ?_⟩
      have hw9 := hw8.off off9 dk8
      have hb9 := hb8.off off9 dk8
      refine ⟨_, rfl, _, rfl, _, rfl, _, rfl, wd, ld, r, fa, ta, sg, l, row, gs, fs, rfl, hw9, hgs, hs, hperm, hfs, hb9, hl1, hr1, by omega, by omega, fun H10 s10 => ⟨true, rfl, ifF rfl ?_⟩⟩
      have dk10 := dk9.same s10
      have hb10 := hb9.same s10
      have lens : ∀ u : List Nat, u.length ≤ 200 → (S u).length ≤ sizeLine := fun u hu => by
        rw [SX.S_len]
        exact sz_le (by omega)
      have cut : ∀ u : List Nat, Txt.slice (S u) none (some 6) = S (u.take 6) := fun u => SX.slice_to (by decide)
      refine ⟨_, rfl, _, _, rfl, rfl, _, rfl, ite2 (fun _ => ?_) (fun _ => ifF rfl ⟨dk10.mono (by omega), _, _, _, _, _, _, rfl⟩)⟩
      refine ⟨_, rfl, _, rfl, _, rfl, 6, rfl, S l, rfl, lens l (by omega), _, rfl, 6, rfl, S row, rfl, lens row (by omega), ?_⟩
      rw [cut, cut]
      refine ⟨D, Cc, _, r, fa, ta, sg, l.take 6, row.take 6, fs, rfl, dk10, by omega, hm, hfs, hb10, fun c hc => hl1 c ((List.take_sublist 6 l).subset hc), fun c hc => hr1 c ((List.take_sublist 6 row).subset hc), by rw [List.length_take]; omega, by rw [List.length_take]; omega, fun H11 dk11 off11 => ⟨true, rfl, ifF rfl ?_⟩⟩
      exact ⟨dk11.mono (by omega), _, _, _, _, _, _, rfl⟩
    · rintro σ H2 ⟨dk2, o2, o3, o4, o5, o6, o7, rfl⟩
      have e0 : V.str "am" = V.str (S [97, 109]) := by decide +kernel
      have e1 : [V.str "m", V.str "m", V.str "m"] = fdV ⟨109, 109, [109]⟩ := by decide +kernel
      refine ⟨sz_le (n := 3) (by decide), fun p1 hp1 => ⟨sz_le (n := 1) (by decide), fun p2 hp2 => ?_⟩⟩
      rw [e1] at hp2 ⊢
      have z1 : SqT K (upd H2 p1 (.tup (fdV ⟨109, 109, [109]⟩))) p1 (fdV ⟨109, 109, [109]⟩) := Or.inl (Or.inl upd_same)
      generalize upd H2 p1 (.tup (fdV ⟨109, 109, [109]⟩)) = G1 at z1 hp2 ⊢
      have z1 := Same.tup (same_new (o := HO.tup [V.ref p1]) hp2) z1
      have z2 : SqT K (upd G1 p2 (.tup [V.ref p1])) p2 [V.ref p1] := Or.inl (Or.inl upd_same)
      generalize upd G1 p2 (.tup [V.ref p1]) = G2 at z1 z2 ⊢
      have za : FdAll K G2 [V.ref p1] farF := .cons ⟨p1, rfl, z1⟩ .nil
      refine fun x dx hx hdx hne => ⟨x, dx, p2, [97, 109], farF, [V.ref p1], by rw [← e0]; rfl, upd_same, ?_, ?_, far_ok, far_sg, fun G3 ta hbk keep => ⟨rfl, ?_⟩⟩
      · exact Same.tup (same_new ((upd_ne (Ne.symm hne)).trans hx)) (Same.tup (same_new hdx) z2)
      · exact (za.kp (KpT.same (same_new hdx))).kp (KpT.same (same_new ((upd_ne (Ne.symm hne)).trans hx)))
      have wm : WebGood [97, 109] (.str "m") [109] := ⟨by decide +kernel, by decide, by decide⟩
      have wma : WebGood [97, 109] (.str "ma") [109, 97] := ⟨by decide +kernel, by decide, by decide⟩
      have wam : WebGood [97, 109] (.str "am") [97, 109] := ⟨by decide +kernel, by decide, by decide⟩
      refine ⟨_, rfl, x, p2, ta, [97, 109], farF, _, _, rfl, hbk, far_ok, Or.inl ⟨_, _, wm, wma, fun G4 x1 s4 td1 => ?_⟩⟩
      refine ⟨_, rfl, x, p2, ta, [97, 109], farF, _, _, rfl, hbk.same s4, far_ok, Or.inl ⟨_, _, wam, wm, fun G5 x2 s5 td2 => ?_⟩⟩
      rw [far_ev] at td1
      rw [far_so] at td2
      refine ⟨sz_le (n := 2) (by decide), fun L hL _ => ?_⟩
      have t6 := same_new (o := HO.lst [x1, x2]) hL
      have zL : upd G5 L (.lst [x1, x2]) L = some (.lst [x1, x2]) := upd_same
      have td1 := (td1.same s5).same t6
      have td2 := td2.same t6
      generalize upd G5 L (.lst [x1, x2]) = G6 at zL td1 td2 ⊢
      refine ⟨sz_le (n := 2) (by decide), fun a1 ha1 => ?_⟩
      have r1 := same_new (o := HO.tup [V.str "web", V.int 0]) ha1
      have y1 : SqT K (upd G6 a1 (.tup [V.str "web", V.int 0])) a1 [V.str "web", V.int 0] := Or.inl (Or.inl upd_same)
      generalize upd G6 a1 (.tup [V.str "web", V.int 0]) = J1 at r1 y1 ⊢
      refine ⟨sz_le (n := 2) (by decide), fun a2 ha2 => ?_⟩
      have r2 := same_new (o := HO.tup [V.str "turns", V.ref a1]) ha2
      have y2 : SqT K (upd J1 a2 (.tup [V.str "turns", V.ref a1])) a2 [V.str "turns", V.ref a1] := Or.inl (Or.inl upd_same)
      generalize upd J1 a2 (.tup [V.str "turns", V.ref a1]) = J2 at r2 y2 ⊢
      refine ⟨sz_le (n := 1) (by decide), fun a3 ha3 => ?_⟩
      have r3 := same_new (o := HO.tup [V.str "stands"]) ha3
      have y3 : SqT K (upd J2 a3 (.tup [V.str "stands"])) a3 [V.str "stands"] := Or.inl (Or.inl upd_same)
      generalize upd J2 a3 (.tup [V.str "stands"]) = J3 at r3 y3 ⊢
      refine ⟨sz_le (n := 2) (by decide), fun a4 ha4 => ?_⟩
      have r4 := same_new (o := HO.tup [V.ref a2, V.ref a3]) ha4
      have y4 : SqT K (upd J3 a4 (.tup [V.ref a2, V.ref a3])) a4 [V.ref a2, V.ref a3] := Or.inl (Or.inl upd_same)
      generalize upd J3 a4 (.tup [V.ref a2, V.ref a3]) = J4 at r4 y4 ⊢
      refine ⟨sz_le (n := 2) (by decide), fun a5 ha5 => ?_⟩
      have r5 := same_new (o := HO.tup [V.str "web", V.int 0]) ha5
      have y5 : SqT K (upd J4 a5 (.tup [V.str "web", V.int 0])) a5 [V.str "web", V.int 0] := Or.inl (Or.inl upd_same)
      generalize upd J4 a5 (.tup [V.str "web", V.int 0]) = J5 at r5 y5 ⊢
      refine ⟨sz_le (n := 2) (by decide), fun a6 ha6 => ?_⟩
      have r6 := same_new (o := HO.tup [V.str "lay", V.int 0]) ha6
      have y6 : SqT K (upd J5 a6 (.tup [V.str "lay", V.int 0])) a6 [V.str "lay", V.int 0] := Or.inl (Or.inl upd_same)
      generalize upd J5 a6 (.tup [V.str "lay", V.int 0]) = J6 at r6 y6 ⊢
      refine ⟨sz_le (n := 2) (by decide), fun a7 ha7 => ?_⟩
      have r7 := same_new (o := HO.tup [V.ref a5, V.ref a6]) ha7
      have y7 : SqT K (upd J6 a7 (.tup [V.ref a5, V.ref a6])) a7 [V.ref a5, V.ref a6] := Or.inl (Or.inl upd_same)
      generalize upd J6 a7 (.tup [V.ref a5, V.ref a6]) = J7 at r7 y7 ⊢
      refine ⟨sz_le (n := 2) (by decide), fun M hM _ => ?_⟩
      have r8 := same_new (o := HO.lst [V.ref a4, V.ref a7]) hM
      have zM : upd J7 M (.lst [V.ref a4, V.ref a7]) M = some (.lst [V.ref a4, V.ref a7]) := upd_same
      generalize upd J7 M (.lst [V.ref a4, V.ref a7]) = J8 at r8 zM ⊢
      have q78 := r8
      have q68 := r7.trans q78
      have q58 := r6.trans q68
      have q48 := r5.trans q58
      have q38 := r4.trans q48
      have q28 := r3.trans q38
      have q18 := r2.trans q28
      have q08 := r1.trans q18
      have d1 : Dp K J8 (.ref a1) w0D := .tup (Same.tup q18 y1) (.cons (.str _) (.cons (.int _) .nil))
      have d2 : Dp K J8 (.ref a2) (.tuple [.str "turns", w0D]) := .tup (Same.tup q28 y2) (.cons (.str _) (.cons d1 .nil))
      have d3 : Dp K J8 (.ref a3) (.tuple [.str "stands"]) := .tup (Same.tup q38 y3) (.cons (.str _) .nil)
      have d4 : Dp K J8 (.ref a4) ev2D := .tup (Same.tup q48 y4) (.cons d2 (.cons d3 .nil))
      have d5 : Dp K J8 (.ref a5) w0D := .tup (Same.tup q58 y5) (.cons (.str _) (.cons (.int _) .nil))
      have d6 : Dp K J8 (.ref a6) l0D := .tup (Same.tup q68 y6) (.cons (.str _) (.cons (.int _) .nil))
      have d7 : Dp K J8 (.ref a7) (.tuple [w0D, l0D]) := .tup (Same.tup q78 y7) (.cons d5 (.cons d6 .nil))
      refine ⟨.list [ev2D, .tuple [w0D, l0D]], .list [ev2D, .tuple [w0D, l0D]], .lst (SqL.of (q08 _ _ zL)) (.cons (td1.same q08).dp (.cons (td2.same q08).dp .nil)), .lst (SqL.of zM) (.cons d4 (.cons d7 .nil)), by decide +kernel, by decide +kernel, ?_⟩
      rw [show PyData.eqv (.list [ev2D, .tuple [w0D, l0D]]) (.list [ev2D, .tuple [w0D, l0D]]) = true by decide +kernel]
      exact q _
end
end Lw

namespace Mq
open PySem PySem.Spec PyProof.Rows L2
/-! ### error classes over a class of one's own, told by their objects -/
def ClsAt (K : PySem.W.Frag) (CM C : Addr) : Prop := ∃ nm q N bs sn sub ab col dd m0 m1 m2 m3 m5, K.lookup C = some (excClassObj nm q C N bs [.ref CM, .type "Exception", .type "BaseException", .type "object"] true sn sub ab col dd m0 m1 m2 m3 m5 "Exception.__new__")
section
variable {K : PySem.W.Frag} {CM C : Addr}
theorem ClsAt.isC (h : ClsAt K CM C) : (PySem.W.clsIn K C).isSome = true := by
  obtain ⟨_, _, _, _, _, _, _, _, _, _, _, _, _, _, h⟩ := h
  simp [PySem.W.clsIn, h, excClassObj]
theorem ClsAt.ty (h : ClsAt K CM C) : PySem.W.typeIn K (.ref C) = some (.type "type") := by
  obtain ⟨_, _, _, _, _, _, _, _, _, _, _, _, _, _, h⟩ := h
  simp [PySem.W.typeIn, h, excClassObj]
theorem ClsAt.has (h : ClsAt K CM C) : PySem.W.hasDictIn K C = true := by
  obtain ⟨_, _, _, _, _, _, _, _, _, _, _, _, _, _, h⟩ := h
  simp [PySem.W.hasDictIn, PySem.W.clsIn, h, excClassObj]
theorem ClsAt.mro (h : ClsAt K CM C) (b : Value) : PySem.W.mroIn K C b = some ((Value.ref C :: Value.ref CM :: exTail).contains b) := by
  obtain ⟨_, _, _, _, _, _, _, _, _, _, _, _, _, _, h⟩ := h
  simp [PySem.W.mroIn, PySem.W.clsIn, h, excClassObj, exTail]
theorem ClsAt.init (h : ClsAt K CM C) : PySem.W.excInitIn K C exTail "Exception.__new__" = true := by
  obtain ⟨_, _, _, _, _, _, _, _, _, _, _, _, _, _, h⟩ := h
  unfold PySem.W.excInitIn
  rw [h]
  simp [excClassObj, PySem.W.excTail, exTail]
theorem ClsAt.over (h : ClsAt K CM C) : PySem.W.excOver K C exTail = true := by
  obtain ⟨_, _, _, _, _, _, _, _, _, _, _, _, _, _, h⟩ := h
  unfold PySem.W.excOver PySem.W.clsIn
  rw [h]
  simp [excClassObj, PySem.W.excTail, exTail]
theorem ClsAt.keep (h : ClsAt K CM C) : PySem.W.keepIn K (.ref C) = true := by
  have ht := h.ty
  obtain ⟨_, _, _, _, _, _, _, _, _, _, _, _, _, _, h⟩ := h
  unfold PySem.W.keepIn
  dsimp only
  rw [h]
  dsimp only
  unfold PySem.W.specialIn
  rw [ht]
  show (fastLookup "type" "__call__" == some (some (Value.builtin "type.__call__"))) = true
  decide +kernel
theorem ClsAt.sub (h : ClsAt K CM C) (b : Value) : PySem.W.subIn K (.ref C) b = some ((Value.ref C :: Value.ref CM :: exTail).contains b) := h.mro b
theorem ref_eq (a b : Addr) : (Value.ref a == Value.ref b) = decide (a = b) := by
  by_cases h : a = b
  · subst h; simp
  · simp [h]
theorem ClsAt.kit {D : Addr} (h : ClsAt K CM C) (hD : ClsAt K CM D) (ne : D ≠ CM) : PySem.W.kitOne K (.ref C) (.ref D) = some (decide (C = D)) := by
  unfold PySem.W.kitOne
  by_cases e : C = D
  · subst e; simp
  · simp [e, PySem.W.kitCls, hD.isC, hD.ty, h.sub, exTail, Ne.symm e, ne]
theorem ClsAt.mill (h : ClsAt K CM C) (h1 : PySem.W.isClsIn K CM = true) (h2 : PySem.W.typeIn K (.ref CM) = some (.type "type")) : PySem.W.kitOne K (.ref C) (.ref CM) = some true := by
  have h1 : (PySem.W.clsIn K CM).isSome = true := h1
  unfold PySem.W.kitOne
  by_cases e : C = CM
  · subst e; simp
  · simp [e, PySem.W.kitCls, h1, h2, h.sub, exTail]
theorem ClsAt.typ (h : ClsAt K CM C) {n : String} (hm : PySem.W.kitMeta n = true) : PySem.W.kitOne K (.ref C) (.type n) = some (exTail.contains (.type n)) := by
  unfold PySem.W.kitOne
  simp [PySem.W.kitCls, hm, h.sub]
/-- what the written part says of such a class -/
structure ClsF (K : PySem.W.Frag) (CM C : Addr) : Prop where
  at_ : ClsAt K CM C
  ga : PySem.W.findIn K (.ref C) "__getattribute__" = some (some (.builtin "BaseException.__getattribute__"))
  gg : PySem.W.findIn K (.ref C) "__getattr__" = some none
  ca : PySem.W.findIn K (.ref C) "__class__" = some (some (.builtin "object.__class__"))
theorem ClsF.base (h : ClsF K CM C) : PySem.W.subIn K (.ref C) (.type "BaseException") = some true := by
  rw [h.at_.sub]
  simp [exTail]
theorem ClsF.xf (h : ClsF K CM C) : XfC K C := ⟨h.ga, h.gg, h.base, h.at_.has⟩
theorem ClsF.held (h : ClsF K CM C) (sp : PySem.W.specialIn K (.builtin "object.__class__") "__get__" = some (some (.builtin "getset_descriptor.__get__"))) (tk : PySem.W.takesIn K (.builtin "object.__class__") = some true) : HeldC K C :=
  ⟨h.at_.isC, h.ga, h.gg, h.base, h.ca, sp, tk, by rw [h.at_.mro]; simp [exTail]⟩
theorem exm_own (h : ClsF K CM C) : PySem.W.exmOne K (.ref C) (.ref C) = some true := by
  simp [PySem.W.exmOne, PySem.W.kitCls, h.at_.isC, h.at_.ty, h.at_.sub, exTail]
end
/-! ### the head's facts by a Hook of our own -/
def exB (fs : List (PySem.W.Frag → Bool)) (K : PySem.W.Frag) : Bool := fs.all fun f => f K
def obsM (n : Nat) (fn : List He.FnD) (fs : List (PySem.W.Frag → Bool)) (g : Addr → Option Obj) : He.Al × Bool :=
  (He.obsG n [] fn g, exB fs (He.frG g (He.asG g n)))
def hookM (n : Nat) (fn : List He.FnD) (fs : List (PySem.W.Frag → Bool)) : PySem.W.Hook where
  α := He.Al × Bool
  obs := fun s => obsM n fn fs s.heap.get?
  val := fun _ => (He.valE fn, true)
  says := fun _ h => ∃ K : PySem.W.Frag, K.In h ∧ He.SaysE [] fn K ∧ exB fs K = true
  of := fun w s e => ⟨He.frG s.heap.get? (He.asG s.heap.get? n), He.frG_in, congrArg Prod.fst e, congrArg Prod.snd e⟩
  keeps := fun w h h' ⟨K, a, b, c⟩ k => ⟨K, a.keeps k, b, c⟩
abbrev AlT := He.Al × Bool
theorem obsM_eq {n : Nat} {fn : List He.FnD} {fs : List (PySem.W.Frag → Bool)} {g : Addr → Option Obj} {s : Shared} (h : ∀ a, g a = s.heap.get? a) : obsM n fn fs g = (hookM n fn fs).obs s := by
  have e : g = s.heap.get? := funext h
  rw [e]
  rfl
theorem exAt {fs : List (PySem.W.Frag → Bool)} {K : PySem.W.Frag} (h : exB fs K = true) (i : Nat) {f : PySem.W.Frag → Bool} (e : fs[i]? = some f) : f K = true := List.all_eq_true.mp h f (List.mem_of_getElem? e)
def fFind (x n : Str) (v : Option Value) : PySem.W.Frag → Bool := fun K => He.eqO (PySem.W.findIn K (.ref (He.ga K x)) n) (some v)
def fInit (x : Str) : PySem.W.Frag → Bool := fun K => He.eqO (PySem.W.findIn K (.ref (He.ga K x)) "__init__") (some (some (.ref (He.ma K (He.ga K x) "__init__"))))
def fGlo (x : Str) : PySem.W.Frag → Bool := fun K => He.eqO (PySem.W.nsIn K mainGlobals x) (some (some (.ref (He.ga K x))))
def fFree (x : Str) : PySem.W.Frag → Bool := fun K => He.eqO (PySem.W.nsIn K mainGlobals x) (some none)
def fExc (x : Str) : PySem.W.Frag → Bool := fun K => PySem.W.excIn K (He.ga K x) exTail "Exception.__new__"
def clsB (K : PySem.W.Frag) (CM C : Addr) : Bool :=
  match K.lookup C with
  | some ⟨.type T, _, .cls cd, sl⟩ => decide (T = "type") && cd.hasDict && !cd.hasDel &&
      (match cd.mro with
       | [.ref a, .ref b, .type t1, .type t2, .type t3] => decide (a = C) && decide (b = CM) && decide (t1 = "Exception") && decide (t2 = "BaseException") && decide (t3 = "object")
       | _ => false) &&
      (match sl.toList with
       | [_, _, _, _, some (.builtin n), _] => decide (n = "Exception.__new__")
       | _ => false)
  | _ => false
def fCls (x : Str) : PySem.W.Frag → Bool := fun K => clsB K (He.ga K "MillError") (He.ga K x)
def fnB (K : PySem.W.Frag) (f : Addr) : Bool :=
  match K.lookup f with
  | some ⟨.type T, _, .func fd, _⟩ => decide (T = "function") && (match fd.kwdefaults with | .none => true | _ => false)
  | _ => false
def fFn (x : Str) : PySem.W.Frag → Bool := fun K => fnB K (He.ma K (He.ga K x) "__init__")
theorem clsB_ok {K : PySem.W.Frag} {CM C : Addr} (h : clsB K CM C = true) : ClsAt K CM C := by
  unfold clsB at h
  split at h
  · rename_i T dd cd sl hl
    obtain ⟨nm, bs, mro, N, qn, hd, sn, sub, ab, col, hdel⟩ := cd
    simp only [Bool.and_eq_true] at h
    obtain ⟨⟨⟨⟨h1, h2⟩, h3⟩, h4⟩, h5⟩ := h
    split at h4
    · simp only [Bool.and_eq_true, decide_eq_true_eq] at h4
      obtain ⟨⟨⟨⟨a1, a2⟩, a3⟩, a4⟩, a5⟩ := h4
      split at h5
      · rename_i m0 m1 m2 m3 n m5 hs
        have hs' := congrArg List.toArray hs
        rw [Array.toArray_toList] at hs'
        have e1 := of_decide_eq_true h1
        have e5 := of_decide_eq_true h5
        simp only [Bool.not_eq_true'] at h3
        subst e1 a1 a2 a3 a4 a5 e5 hs' h3
        have h2' : hd = true := h2
        subst h2'
        exact ⟨_, _, _, _, _, _, _, _, _, _, _, _, _, _, hl⟩
      · cases h5
    · cases h4
  · cases h
theorem fnB_ok {K : PySem.W.Frag} {f : Addr} {oc kV dV doc pm cd ct : Value} {od an : Option Addr} {osl : Array (Option Value)} {nm q : Str} {a : Arguments} {b : List Stmt} {s : Scope}
    (h : fnB K f = true) (l : K.lookup f = some ⟨oc, od, .func (PySem.W.fnOf nm q a b s dV kV doc pm an cd ct), osl⟩) : oc = .type "function" ∧ kV = .none := by
  unfold fnB at h
  rw [l] at h
  split at h
  · rename_i hh
    cases hh
    simp only [Bool.and_eq_true] at h
    obtain ⟨h1, h2⟩ := h
    refine ⟨by rw [of_decide_eq_true h1], ?_⟩
    split at h2
    · rfl
    · cases h2
  · cases h
theorem keep_fn {K : PySem.W.Frag} {f : Addr} {oc : Value} {od : Option Addr} {g : FuncData} {osl : Array (Option Value)} (l : K.lookup f = some ⟨oc, od, .func g, osl⟩) : PySem.W.keepIn K (.ref f) = true := by
  unfold PySem.W.keepIn
  dsimp only
  rw [l]
theorem walk_ofGE {l : PySem.W.OpenLaw} {n k : Nat} {q : Program} {loose : List Str}
    {XP : (Str → Option Value) → Heap → Prop} {YP : World → Heap → Prop} {d : DefRec} {CX : CXT} {x : Str}
    (hn : l.most = some n) (hn2 : n ≤ sizeLine) (hdf : d.params.defaults = []) (hr : Room k callerA)
    (F : ∀ (w : World) (mg : Str → Option Value) (fa : Addr) (h : Heap), YP w h → h.Ns mainGlobals mg → mg d.name = some (.ref fa) →
      ∃ (K : PySem.W.Frag) (fd : FuncData) (sp : Sp), K.In h ∧ (∀ (s : Shared) (u : Value), BindsTo s fd ⟨[u], []⟩ [(x, u)]) ∧
        (∀ (H : Hp) (a : Addr) (ns : List Int), ns.length ≤ n → Only H → SqL K H a (ns.map V.int) → sp [.ref a] H (fun v _ => v = .bl true) fun _ _ _ => False) ∧
        ∀ base : Heap, K.In base → base.Ns mainGlobals mg → FnG l.prog w K mg base CX k fa fd [x] sp)
    (hCX : ∀ (H : Hp) (s : Shared) (e : Value) (s' : Shared), CX [] H s (fun _ _ _ => False) e s' → False) :
    PySem.W.WalkO q loose XP YP l.row.toRowW d [] (fun f vs => PySem.call f vs) := by
  refine Att.attach_call hn hdf ?_
  intro w s₀ s₁ mg mb fa o pm cd doc a vs ns G Y ho hd hcd hmg hobj hints hlen hg
  obtain ⟨K, fd, sp, KX, hb, hsp, hF⟩ := F w mg fa _ Y G.T.g hmg
  exact law_callG KX G.T.g G.T.b G.T.builtins G.T.nolimit hg hobj hints (Nat.le_trans hlen hn2) hr hF hb
    (fun H hO hS => hsp H a ns hlen hO hS) (fun H e s' => hCX H s₁ e s')
theorem glo_of {K : PySem.W.Frag} {x : Str} (h : fGlo x K = true) : PySem.W.nsIn K mainGlobals x = some (some (.ref (He.ga K x))) := He.eqO_ok h
theorem free_of {K : PySem.W.Frag} {x : Str} (h : fFree x K = true) : PySem.W.nsIn K mainGlobals x = some none := He.eqO_ok h
theorem find_of {K : PySem.W.Frag} {x n : Str} {v : Option Value} (h : fFind x n v K = true) : PySem.W.findIn K (.ref (He.ga K x)) n = some v := He.eqO_ok h
theorem init_of {K : PySem.W.Frag} {x : Str} (h : fInit x K = true) : PySem.W.findIn K (.ref (He.ga K x)) "__init__" = some (some (.ref (He.ma K (He.ga K x) "__init__"))) := He.eqO_ok h
theorem cls_of {K : PySem.W.Frag} {x : Str} (h : fCls x K = true) : ClsAt K (He.ga K "MillError") (He.ga K x) := clsB_ok h
theorem exc_of {K : PySem.W.Frag} {x : Str} (h : fExc x K = true) : PySem.W.excIn K (He.ga K x) exTail "Exception.__new__" = true := h
/-! ### further facts -/
def fMeth (x n : Str) : PySem.W.Frag → Bool := fun K => He.eqO (PySem.W.findIn K (.ref (He.ga K x)) n) (some (some (.ref (He.ma K (He.ga K x) n)))) && PySem.W.isFn K (.ref (He.ma K (He.ga K x) n))
theorem meth_of {K : PySem.W.Frag} {x n : Str} (h : fMeth x n K = true) : PySem.W.findIn K (.ref (He.ga K x)) n = some (some (.ref (He.ma K (He.ga K x) n))) ∧ PySem.W.isFn K (.ref (He.ma K (He.ga K x) n)) = true := by
  obtain ⟨a, b⟩ := Bool.and_eq_true_iff.mp h
  exact ⟨He.eqO_ok a, b⟩
/-- a class of one's own, its objects made and read plainly -/
def fOwn (x : Str) : PySem.W.Frag → Bool := fun K => PySem.W.plainGet K (He.ga K x) Str.empty && (PySem.W.hasDictIn K (He.ga K x) && (PySem.W.plainOver K (He.ga K x) && (PySem.W.makesIn K (He.ga K x) && PySem.W.keepIn K (.ref (He.ga K x)))))
theorem own_of {K : PySem.W.Frag} {x : Str} (h : fOwn x K = true) : PySem.W.plainGet K (He.ga K x) Str.empty = true ∧ PySem.W.hasDictIn K (He.ga K x) = true ∧ PySem.W.plainOver K (He.ga K x) = true ∧ PySem.W.makesIn K (He.ga K x) = true ∧ PySem.W.keepIn K (.ref (He.ga K x)) = true := by
  obtain ⟨a, h⟩ := Bool.and_eq_true_iff.mp h
  obtain ⟨b, h⟩ := Bool.and_eq_true_iff.mp h
  obtain ⟨c, h⟩ := Bool.and_eq_true_iff.mp h
  obtain ⟨d, e⟩ := Bool.and_eq_true_iff.mp h
  exact ⟨a, b, c, d, e⟩
def fTxt (x v : Str) : PySem.W.Frag → Bool := fun K => match PySem.W.nsIn K mainGlobals x with
  | some (some (.str y _)) => decide (y = v)
  | _ => false
theorem txt_of {K : PySem.W.Frag} {x v : Str} (h : fTxt x v K = true) : ∃ t, PySem.W.nsIn K mainGlobals x = some (some (.str v t)) := by
  unfold fTxt at h
  split at h
  · rename_i y t e
    have := of_decide_eq_true h
    subst this
    exact ⟨t, e⟩
  · cases h
def fExm (x y : Str) (b : Bool) : PySem.W.Frag → Bool := fun K => decide (PySem.W.exmOne K (.ref (He.ga K x)) (.ref (He.ga K y)) = some b)
theorem exm_of {K : PySem.W.Frag} {x y : Str} {b : Bool} (h : fExm x y b K = true) : PySem.W.exmOne K (.ref (He.ga K x)) (.ref (He.ga K y)) = some b := of_decide_eq_true h
def fKit (x y : Str) (b : Bool) : PySem.W.Frag → Bool := fun K => decide (PySem.W.kitOne K (.ref (He.ga K x)) (.ref (He.ga K y)) = some b)
theorem kit_of {K : PySem.W.Frag} {x y : Str} {b : Bool} (h : fKit x y b K = true) : PySem.W.kitOne K (.ref (He.ga K x)) (.ref (He.ga K y)) = some b := of_decide_eq_true h
def fMro (x : Str) : PySem.W.Frag → Bool := fun K => decide (PySem.W.mroIn K (He.ga K x) (.type "object") = some true)
theorem mro_of {K : PySem.W.Frag} {x : Str} (h : fMro x K = true) : PySem.W.mroIn K (He.ga K x) (.type "object") = some true := of_decide_eq_true h
def fSp : PySem.W.Frag → Bool := fun K => He.eqO (PySem.W.specialIn K (.builtin "object.__class__") "__get__") (some (some (.builtin "getset_descriptor.__get__")))
theorem sp_of {K : PySem.W.Frag} (h : fSp K = true) : PySem.W.specialIn K (.builtin "object.__class__") "__get__" = some (some (.builtin "getset_descriptor.__get__")) := He.eqO_ok h
def fTk : PySem.W.Frag → Bool := fun K => decide (PySem.W.takesIn K (.builtin "object.__class__") = some true)
theorem tk_of {K : PySem.W.Frag} (h : fTk K = true) : PySem.W.takesIn K (.builtin "object.__class__") = some true := of_decide_eq_true h
def fMill : PySem.W.Frag → Bool := fun K => PySem.W.isClsIn K (He.ga K "MillError") && decide (PySem.W.typeIn K (.ref (He.ga K "MillError")) = some (.type "type"))
theorem mill_of {K : PySem.W.Frag} (h : fMill K = true) : PySem.W.isClsIn K (He.ga K "MillError") = true ∧ PySem.W.typeIn K (.ref (He.ga K "MillError")) = some (.type "type") := by
  obtain ⟨a, b⟩ := Bool.and_eq_true_iff.mp h
  exact ⟨a, of_decide_eq_true b⟩
end Mq

namespace Lw
open PySem PySem.Spec PyProof.Rows L2 Mq
open SX (S)
theorem all_mk {P : Program} {w : World} {K : PySem.W.Frag} {h : Heap} {mg : Str → Option Value} {fa CM : Addr} (X : K.In h) (G : h.Ns mainGlobals mg) (hfa : mg "law" = some (.ref fa))
    (aM : PySem.W.nsIn K mainGlobals "MillError" = some (some (.ref CM)))
    (mill : PySem.W.isClsIn K CM = true ∧ PySem.W.typeIn K (.ref CM) = some (.type "type"))
    (sp : PySem.W.specialIn K (.builtin "object.__class__") "__get__" = some (some (.builtin "getset_descriptor.__get__")))
    (tk : PySem.W.takesIn K (.builtin "object.__class__") = some true)
    {CB : Addr}
    (aB : PySem.W.nsIn K mainGlobals "Book" = some (some (.ref CB)))
    (owB : PySem.W.plainGet K CB Str.empty = true ∧ PySem.W.hasDictIn K CB = true ∧ PySem.W.plainOver K CB = true ∧ PySem.W.makesIn K CB = true ∧ PySem.W.keepIn K (.ref CB) = true)
    (saB : PySem.W.findIn K (.ref CB) "__setattr__" = some (some (.builtin "object.__setattr__")))
    (caB : PySem.W.findIn K (.ref CB) "__class__" = some (some (.builtin "object.__class__")))
    (moB : PySem.W.mroIn K CB (.type "object") = some true)
    (kiB : PySem.W.kitOne K (.ref CB) (.ref CB) = some true)
    (nB_letters : PySem.W.findIn K (.ref CB) "letters" = some none)
    (nB_folds : PySem.W.findIn K (.ref CB) "folds" = some none)
    (nB_table : PySem.W.findIn K (.ref CB) "table" = some none)
    {finit : Addr} {odinit aninit : Option Addr} {slinit : Array (Option Value)} {ocinit kVinit dcinit pminit cdinit ctinit : Value}
    (minit : PySem.W.findIn K (.ref CB) "__init__" = some (some (.ref finit)) ∧ PySem.W.isFn K (.ref finit) = true)
    (linit : K.lookup finit = some ⟨ocinit, odinit, .func (PySem.W.fnOf "__init__" "Book.__init__" (defArgs s_Book___init__) (defBody s_Book___init__) (defScope s_Book___init__) .none kVinit dcinit pminit aninit cdinit ctinit), slinit⟩)
    (cinit : PySem.W.codeIn K cdinit "Book.__init__" = true)
    {fleft : Addr} {odleft anleft : Option Addr} {slleft : Array (Option Value)} {ocleft kVleft dcleft pmleft cdleft ctleft : Value}
    (mleft : PySem.W.findIn K (.ref CB) "left_of" = some (some (.ref fleft)) ∧ PySem.W.isFn K (.ref fleft) = true)
    (lleft : K.lookup fleft = some ⟨ocleft, odleft, .func (PySem.W.fnOf "left_of" "Book.left_of" (defArgs s_Book_left_of) (defBody s_Book_left_of) (defScope s_Book_left_of) .none kVleft dcleft pmleft anleft cdleft ctleft), slleft⟩)
    (cleft : PySem.W.codeIn K cdleft "Book.left_of" = true)
    {CW FW : Addr}
    (aW : PySem.W.nsIn K mainGlobals "BadWeb" = some (some (.ref CW)))
    (xW : ClsAt K CM CW)
    (gaW : PySem.W.findIn K (.ref CW) "__getattribute__" = some (some (.builtin "BaseException.__getattribute__")))
    (ggW : PySem.W.findIn K (.ref CW) "__getattr__" = some none)
    (caW : PySem.W.findIn K (.ref CW) "__class__" = some (some (.builtin "object.__class__")))
    (wsW : PySem.W.findIn K (.ref CW) "__setattr__" = some (some (.builtin "object.__setattr__")))
    (ntW : PySem.W.findIn K (.ref CW) "thing" = some none)
    (wiW : PySem.W.findIn K (.ref CW) "__init__" = some (some (.ref FW)))
    {odEW anEW : Option Addr} {slEW : Array (Option Value)} {dcEW pmEW cdEW ctEW : Value}
    (lEW : K.lookup FW = some ⟨.type "function", odEW, .func (PySem.W.fnOf "__init__" "BadWeb.__init__" (MqE_thing.iA ⟨14, 17, 14, 21⟩ ⟨14, 23, 14, 28⟩) (MqE_thing.iB ⟨15, 8, 15, 12⟩ ⟨15, 8, 15, 18⟩ ⟨15, 21, 15, 26⟩ ⟨15, 8, 15, 26⟩) MqE_thing.iS .none .none dcEW pmEW anEW cdEW ctEW), slEW⟩)
    (cEW : PySem.W.codeIn K cdEW "BadWeb.__init__" = true)
    {CV FV : Addr}
    (aV : PySem.W.nsIn K mainGlobals "BadRow" = some (some (.ref CV)))
    (xV : ClsAt K CM CV)
    (gaV : PySem.W.findIn K (.ref CV) "__getattribute__" = some (some (.builtin "BaseException.__getattribute__")))
    (ggV : PySem.W.findIn K (.ref CV) "__getattr__" = some none)
    (caV : PySem.W.findIn K (.ref CV) "__class__" = some (some (.builtin "object.__class__")))
    (wsV : PySem.W.findIn K (.ref CV) "__setattr__" = some (some (.builtin "object.__setattr__")))
    (ntV : PySem.W.findIn K (.ref CV) "thing" = some none)
    (wiV : PySem.W.findIn K (.ref CV) "__init__" = some (some (.ref FV)))
    {odEV anEV : Option Addr} {slEV : Array (Option Value)} {dcEV pmEV cdEV ctEV : Value}
    (lEV : K.lookup FV = some ⟨.type "function", odEV, .func (PySem.W.fnOf "__init__" "BadRow.__init__" (MqE_thing.iA ⟨18, 17, 18, 21⟩ ⟨18, 23, 18, 28⟩) (MqE_thing.iB ⟨19, 8, 19, 12⟩ ⟨19, 8, 19, 18⟩ ⟨19, 21, 19, 26⟩ ⟨19, 8, 19, 26⟩) MqE_thing.iS .none .none dcEV pmEV anEV cdEV ctEV), slEV⟩)
    (cEV : PySem.W.codeIn K cdEV "BadRow.__init__" = true)
    (noVW : PySem.W.exmOne K (.ref CV) (.ref CW) = some false)
    {f0 : Addr} {od0 an0 : Option Addr} {sl0 : Array (Option Value)} {oc0 kV0 dc0 pm0 cd0 ct0 : Value}
    (a0 : PySem.W.nsIn K mainGlobals "is_letters" = some (some (.ref f0)))
    (l0 : K.lookup f0 = some ⟨oc0, od0, .func (PySem.W.fnOf "is_letters" "is_letters" (defArgs s_is_letters) (defBody s_is_letters) (defScope s_is_letters) .none kV0 dc0 pm0 an0 cd0 ct0), sl0⟩)
    (c0 : PySem.W.codeIn K cd0 "is_letters" = true)
    {f1 : Addr} {od1 an1 : Option Addr} {sl1 : Array (Option Value)} {oc1 kV1 dc1 pm1 cd1 ct1 : Value}
    (a1 : PySem.W.nsIn K mainGlobals "is_letter" = some (some (.ref f1)))
    (l1 : K.lookup f1 = some ⟨oc1, od1, .func (PySem.W.fnOf "is_letter" "is_letter" (defArgs s_is_letter) (defBody s_is_letter) (defScope s_is_letter) .none kV1 dc1 pm1 an1 cd1 ct1), sl1⟩)
    (c1 : PySem.W.codeIn K cd1 "is_letter" = true)
    {f2 : Addr} {od2 an2 : Option Addr} {sl2 : Array (Option Value)} {oc2 kV2 dc2 pm2 cd2 ct2 : Value}
    (a2 : PySem.W.nsIn K mainGlobals "is_word" = some (some (.ref f2)))
    (l2 : K.lookup f2 = some ⟨oc2, od2, .func (PySem.W.fnOf "is_word" "is_word" (defArgs s_is_word) (defBody s_is_word) (defScope s_is_word) .none kV2 dc2 pm2 an2 cd2 ct2), sl2⟩)
    (c2 : PySem.W.codeIn K cd2 "is_word" = true)
    {f3 : Addr} {od3 an3 : Option Addr} {sl3 : Array (Option Value)} {oc3 kV3 dc3 pm3 cd3 ct3 : Value}
    (a3 : PySem.W.nsIn K mainGlobals "is_ascending" = some (some (.ref f3)))
    (l3 : K.lookup f3 = some ⟨oc3, od3, .func (PySem.W.fnOf "is_ascending" "is_ascending" (defArgs s_is_ascending) (defBody s_is_ascending) (defScope s_is_ascending) .none kV3 dc3 pm3 an3 cd3 ct3), sl3⟩)
    (c3 : PySem.W.codeIn K cd3 "is_ascending" = true)
    {f4 : Addr} {od4 an4 : Option Addr} {sl4 : Array (Option Value)} {oc4 kV4 dc4 pm4 cd4 ct4 : Value}
    (a4 : PySem.W.nsIn K mainGlobals "is_fold" = some (some (.ref f4)))
    (l4 : K.lookup f4 = some ⟨oc4, od4, .func (PySem.W.fnOf "is_fold" "is_fold" (defArgs s_is_fold) (defBody s_is_fold) (defScope s_is_fold) .none kV4 dc4 pm4 an4 cd4 ct4), sl4⟩)
    (c4 : PySem.W.codeIn K cd4 "is_fold" = true)
    {f5 : Addr} {od5 an5 : Option Addr} {sl5 : Array (Option Value)} {oc5 kV5 dc5 pm5 cd5 ct5 : Value}
    (a5 : PySem.W.nsIn K mainGlobals "is_web" = some (some (.ref f5)))
    (l5 : K.lookup f5 = some ⟨oc5, od5, .func (PySem.W.fnOf "is_web" "is_web" (defArgs s_is_web) (defBody s_is_web) (defScope s_is_web) .none kV5 dc5 pm5 an5 cd5 ct5), sl5⟩)
    (c5 : PySem.W.codeIn K cd5 "is_web" = true)
    {f6 : Addr} {od6 an6 : Option Addr} {sl6 : Array (Option Value)} {oc6 kV6 dc6 pm6 cd6 ct6 : Value}
    (a6 : PySem.W.nsIn K mainGlobals "check_web" = some (some (.ref f6)))
    (l6 : K.lookup f6 = some ⟨oc6, od6, .func (PySem.W.fnOf "check_web" "check_web" (defArgs s_check_web) (defBody s_check_web) (defScope s_check_web) .none kV6 dc6 pm6 an6 cd6 ct6), sl6⟩)
    (c6 : PySem.W.codeIn K cd6 "check_web" = true)
    {f7 : Addr} {od7 an7 : Option Addr} {sl7 : Array (Option Value)} {oc7 kV7 dc7 pm7 cd7 ct7 : Value}
    (a7 : PySem.W.nsIn K mainGlobals "laid_behind" = some (some (.ref f7)))
    (l7 : K.lookup f7 = some ⟨oc7, od7, .func (PySem.W.fnOf "laid_behind" "laid_behind" (defArgs s_laid_behind) (defBody s_laid_behind) (defScope s_laid_behind) .none kV7 dc7 pm7 an7 cd7 ct7), sl7⟩)
    (c7 : PySem.W.codeIn K cd7 "laid_behind" = true)
    {f8 : Addr} {od8 an8 : Option Addr} {sl8 : Array (Option Value)} {oc8 kV8 dc8 pm8 cd8 ct8 : Value}
    (a8 : PySem.W.nsIn K mainGlobals "check_rows" = some (some (.ref f8)))
    (l8 : K.lookup f8 = some ⟨oc8, od8, .func (PySem.W.fnOf "check_rows" "check_rows" (defArgs s_check_rows) (defBody s_check_rows) (defScope s_check_rows) .none kV8 dc8 pm8 an8 cd8 ct8), sl8⟩)
    (c8 : PySem.W.codeIn K cd8 "check_rows" = true)
    {f9 : Addr} {od9 an9 : Option Addr} {sl9 : Array (Option Value)} {oc9 kV9 dc9 pm9 cd9 ct9 : Value}
    (a9 : PySem.W.nsIn K mainGlobals "check_woven" = some (some (.ref f9)))
    (l9 : K.lookup f9 = some ⟨oc9, od9, .func (PySem.W.fnOf "check_woven" "check_woven" (defArgs s_check_woven) (defBody s_check_woven) (defScope s_check_woven) .none kV9 dc9 pm9 an9 cd9 ct9), sl9⟩)
    (c9 : PySem.W.codeIn K cd9 "check_woven" = true)
    {f10 : Addr} {od10 an10 : Option Addr} {sl10 : Array (Option Value)} {oc10 kV10 dc10 pm10 cd10 ct10 : Value}
    (a10 : PySem.W.nsIn K mainGlobals "webs_behind" = some (some (.ref f10)))
    (l10 : K.lookup f10 = some ⟨oc10, od10, .func (PySem.W.fnOf "webs_behind" "webs_behind" (defArgs s_webs_behind) (defBody s_webs_behind) (defScope s_webs_behind) .none kV10 dc10 pm10 an10 cd10 ct10), sl10⟩)
    (c10 : PySem.W.codeIn K cd10 "webs_behind" = true)
    {f11 : Addr} {od11 an11 : Option Addr} {sl11 : Array (Option Value)} {oc11 kV11 dc11 pm11 cd11 ct11 : Value}
    (a11 : PySem.W.nsIn K mainGlobals "webs_along" = some (some (.ref f11)))
    (l11 : K.lookup f11 = some ⟨oc11, od11, .func (PySem.W.fnOf "webs_along" "webs_along" (defArgs s_webs_along) (defBody s_webs_along) (defScope s_webs_along) .none kV11 dc11 pm11 an11 cd11 ct11), sl11⟩)
    (c11 : PySem.W.codeIn K cd11 "webs_along" = true)
    {f12 : Addr} {od12 an12 : Option Addr} {sl12 : Array (Option Value)} {oc12 kV12 dc12 pm12 cd12 ct12 : Value}
    (a12 : PySem.W.nsIn K mainGlobals "told_along" = some (some (.ref f12)))
    (l12 : K.lookup f12 = some ⟨oc12, od12, .func (PySem.W.fnOf "told_along" "told_along" (defArgs s_told_along) (defBody s_told_along) (defScope s_told_along) .none kV12 dc12 pm12 an12 cd12 ct12), sl12⟩)
    (c12 : PySem.W.codeIn K cd12 "told_along" = true)
    {f13 : Addr} {od13 an13 : Option Addr} {sl13 : Array (Option Value)} {oc13 kV13 dc13 pm13 cd13 ct13 : Value}
    (a13 : PySem.W.nsIn K mainGlobals "events" = some (some (.ref f13)))
    (l13 : K.lookup f13 = some ⟨oc13, od13, .func (PySem.W.fnOf "events" "events" (defArgs s_events) (defBody s_events) (defScope s_events) .none kV13 dc13 pm13 an13 cd13 ct13), sl13⟩)
    (c13 : PySem.W.codeIn K cd13 "events" = true)
    {f14 : Addr} {od14 an14 : Option Addr} {sl14 : Array (Option Value)} {oc14 kV14 dc14 pm14 cd14 ct14 : Value}
    (a14 : PySem.W.nsIn K mainGlobals "sources" = some (some (.ref f14)))
    (l14 : K.lookup f14 = some ⟨oc14, od14, .func (PySem.W.fnOf "sources" "sources" (defArgs s_sources) (defBody s_sources) (defScope s_sources) .none kV14 dc14 pm14 an14 cd14 ct14), sl14⟩)
    (c14 : PySem.W.codeIn K cd14 "sources" = true)
    {f15 : Addr} {od15 an15 : Option Addr} {sl15 : Array (Option Value)} {oc15 kV15 dc15 pm15 cd15 ct15 : Value}
    (a15 : PySem.W.nsIn K mainGlobals "_law_deck" = some (some (.ref f15)))
    (l15 : K.lookup f15 = some ⟨oc15, od15, .func (PySem.W.fnOf "_law_deck" "_law_deck" (defArgs s__law_deck) (defBody s__law_deck) (defScope s__law_deck) .none kV15 dc15 pm15 an15 cd15 ct15), sl15⟩)
    (c15 : PySem.W.codeIn K cd15 "_law_deck" = true)
    {f16 : Addr} {od16 an16 : Option Addr} {sl16 : Array (Option Value)} {oc16 kV16 dc16 pm16 cd16 ct16 : Value}
    (a16 : PySem.W.nsIn K mainGlobals "_law_draw" = some (some (.ref f16)))
    (l16 : K.lookup f16 = some ⟨oc16, od16, .func (PySem.W.fnOf "_law_draw" "_law_draw" (defArgs s__law_draw) (defBody s__law_draw) (defScope s__law_draw) .none kV16 dc16 pm16 an16 cd16 ct16), sl16⟩)
    (c16 : PySem.W.codeIn K cd16 "_law_draw" = true)
    {f17 : Addr} {od17 an17 : Option Addr} {sl17 : Array (Option Value)} {oc17 kV17 dc17 pm17 cd17 ct17 : Value}
    (a17 : PySem.W.nsIn K mainGlobals "_law_pick" = some (some (.ref f17)))
    (l17 : K.lookup f17 = some ⟨oc17, od17, .func (PySem.W.fnOf "_law_pick" "_law_pick" (defArgs s__law_pick) (defBody s__law_pick) (defScope s__law_pick) .none kV17 dc17 pm17 an17 cd17 ct17), sl17⟩)
    (c17 : PySem.W.codeIn K cd17 "_law_pick" = true)
    {f18 : Addr} {od18 an18 : Option Addr} {sl18 : Array (Option Value)} {oc18 kV18 dc18 pm18 cd18 ct18 : Value}
    (a18 : PySem.W.nsIn K mainGlobals "_law_book" = some (some (.ref f18)))
    (l18 : K.lookup f18 = some ⟨oc18, od18, .func (PySem.W.fnOf "_law_book" "_law_book" (defArgs s__law_book) (defBody s__law_book) (defScope s__law_book) .none kV18 dc18 pm18 an18 cd18 ct18), sl18⟩)
    (c18 : PySem.W.codeIn K cd18 "_law_book" = true)
    {f19 : Addr} {od19 an19 : Option Addr} {sl19 : Array (Option Value)} {oc19 kV19 dc19 pm19 cd19 ct19 : Value}
    (a19 : PySem.W.nsIn K mainGlobals "_law_code" = some (some (.ref f19)))
    (l19 : K.lookup f19 = some ⟨oc19, od19, .func (PySem.W.fnOf "_law_code" "_law_code" (defArgs s__law_code) (defBody s__law_code) (defScope s__law_code) .none kV19 dc19 pm19 an19 cd19 ct19), sl19⟩)
    (c19 : PySem.W.codeIn K cd19 "_law_code" = true)
    {f20 : Addr} {od20 an20 : Option Addr} {sl20 : Array (Option Value)} {oc20 kV20 dc20 pm20 cd20 ct20 : Value}
    (a20 : PySem.W.nsIn K mainGlobals "_law_lays" = some (some (.ref f20)))
    (l20 : K.lookup f20 = some ⟨oc20, od20, .func (PySem.W.fnOf "_law_lays" "_law_lays" (defArgs s__law_lays) (defBody s__law_lays) (defScope s__law_lays) .none kV20 dc20 pm20 an20 cd20 ct20), sl20⟩)
    (c20 : PySem.W.codeIn K cd20 "_law_lays" = true)
    {f21 : Addr} {od21 an21 : Option Addr} {sl21 : Array (Option Value)} {oc21 kV21 dc21 pm21 cd21 ct21 : Value}
    (a21 : PySem.W.nsIn K mainGlobals "_law_trace" = some (some (.ref f21)))
    (l21 : K.lookup f21 = some ⟨oc21, od21, .func (PySem.W.fnOf "_law_trace" "_law_trace" (defArgs s__law_trace) (defBody s__law_trace) (defScope s__law_trace) .none kV21 dc21 pm21 an21 cd21 ct21), sl21⟩)
    (c21 : PySem.W.codeIn K cd21 "_law_trace" = true)
    {f22 : Addr} {od22 an22 : Option Addr} {sl22 : Array (Option Value)} {oc22 kV22 dc22 pm22 cd22 ct22 : Value}
    (a22 : PySem.W.nsIn K mainGlobals "_law_heard" = some (some (.ref f22)))
    (l22 : K.lookup f22 = some ⟨oc22, od22, .func (PySem.W.fnOf "_law_heard" "_law_heard" (defArgs s__law_heard) (defBody s__law_heard) (defScope s__law_heard) .none kV22 dc22 pm22 an22 cd22 ct22), sl22⟩)
    (c22 : PySem.W.codeIn K cd22 "_law_heard" = true)
    {f23 : Addr} {od23 an23 : Option Addr} {sl23 : Array (Option Value)} {oc23 kV23 dc23 pm23 cd23 ct23 : Value}
    (a23 : PySem.W.nsIn K mainGlobals "_law_right" = some (some (.ref f23)))
    (l23 : K.lookup f23 = some ⟨oc23, od23, .func (PySem.W.fnOf "_law_right" "_law_right" (defArgs s__law_right) (defBody s__law_right) (defScope s__law_right) .none kV23 dc23 pm23 an23 cd23 ct23), sl23⟩)
    (c23 : PySem.W.codeIn K cd23 "_law_right" = true)
    {f24 : Addr} {od24 an24 : Option Addr} {sl24 : Array (Option Value)} {oc24 kV24 dc24 pm24 cd24 ct24 : Value}
    (a24 : PySem.W.nsIn K mainGlobals "_law_odd_right" = some (some (.ref f24)))
    (l24 : K.lookup f24 = some ⟨oc24, od24, .func (PySem.W.fnOf "_law_odd_right" "_law_odd_right" (defArgs s__law_odd_right) (defBody s__law_odd_right) (defScope s__law_odd_right) .none kV24 dc24 pm24 an24 cd24 ct24), sl24⟩)
    (c24 : PySem.W.codeIn K cd24 "_law_odd_right" = true)
    {f25 : Addr} {od25 an25 : Option Addr} {sl25 : Array (Option Value)} {oc25 kV25 dc25 pm25 cd25 ct25 : Value}
    (a25 : PySem.W.nsIn K mainGlobals "law" = some (some (.ref f25)))
    (l25 : K.lookup f25 = some ⟨oc25, od25, .func (PySem.W.fnOf "law" "law" (defArgs s_law) (defBody s_law) (defScope s_law) .none kV25 dc25 pm25 an25 cd25 ct25), sl25⟩)
    (c25 : PySem.W.codeIn K cd25 "law" = true)
    (b_len : PySem.W.nsIn K mainGlobals "len" = some none)
    (b_range : PySem.W.nsIn K mainGlobals "range" = some none)
    (b_isinstance : PySem.W.nsIn K mainGlobals "isinstance" = some none)
    (b_all : PySem.W.nsIn K mainGlobals "all" = some none)
    (b_any : PySem.W.nsIn K mainGlobals "any" = some none)
    (b_int : PySem.W.nsIn K mainGlobals "int" = some none)
    (b_str : PySem.W.nsIn K mainGlobals "str" = some none)
    (b_bool : PySem.W.nsIn K mainGlobals "bool" = some none)
    (b_tuple : PySem.W.nsIn K mainGlobals "tuple" = some none)
    (b_list : PySem.W.nsIn K mainGlobals "list" = some none)
    (b_repr : PySem.W.nsIn K mainGlobals "repr" = some none)
    (b_enumerate : PySem.W.nsIn K mainGlobals "enumerate" = some none)
    (b_sorted : PySem.W.nsIn K mainGlobals "sorted" = some none)
    (t_ALPHABET : ∃ t, PySem.W.nsIn K mainGlobals "ALPHABET" = some (some (.str "abcdefghijklmnopqrstuvwxyz" t))) :
    ∃ fd : FuncData, (∀ (s : Shared) (u : Value), BindsTo s fd ⟨[u], []⟩ [("_law_script", u)]) ∧ ∀ base : Heap, K.In base → base.Ns mainGlobals mg → FnG P w K mg base CX0 9 fa fd ["_law_script"] (spLaw K) := by
  have e := hfa.symm.trans (PySem.W.mg_of X G a25)
  cases e
  have B : Blt mg := ⟨PySem.W.mg_none_of X G b_len, PySem.W.mg_none_of X G b_range, PySem.W.mg_none_of X G b_isinstance, PySem.W.mg_none_of X G b_all, PySem.W.mg_none_of X G b_any, PySem.W.mg_none_of X G b_int, PySem.W.mg_none_of X G b_str, PySem.W.mg_none_of X G b_bool, PySem.W.mg_none_of X G b_tuple, PySem.W.mg_none_of X G b_list, PySem.W.mg_none_of X G b_repr, PySem.W.mg_none_of X G b_enumerate⟩
  have n_sorted : mg "sorted" = none := PySem.W.mg_none_of X G b_sorted
  have U0 := fun_mk (st := s_is_letters) l0 c0 (keep_fn l0)
  have g0 := PySem.W.mg_of X G a0
  have b0 := U0.binds (ps := ["thing"]) fun _ _ _ _ _ _ us hl => match us, hl with | [_], _ => rfl
  have U1 := fun_mk (st := s_is_letter) l1 c1 (keep_fn l1)
  have g1 := PySem.W.mg_of X G a1
  have b1 := U1.binds (ps := ["letters", "thing"]) fun _ _ _ _ _ _ us hl => match us, hl with | [_, _], _ => rfl
  have U2 := fun_mk (st := s_is_word) l2 c2 (keep_fn l2)
  have g2 := PySem.W.mg_of X G a2
  have b2 := U2.binds (ps := ["letters", "thing"]) fun _ _ _ _ _ _ us hl => match us, hl with | [_, _], _ => rfl
  have U3 := fun_mk (st := s_is_ascending) l3 c3 (keep_fn l3)
  have g3 := PySem.W.mg_of X G a3
  have b3 := U3.binds (ps := ["parts"]) fun _ _ _ _ _ _ us hl => match us, hl with | [_], _ => rfl
  have U4 := fun_mk (st := s_is_fold) l4 c4 (keep_fn l4)
  have g4 := PySem.W.mg_of X G a4
  have b4 := U4.binds (ps := ["letters", "thing"]) fun _ _ _ _ _ _ us hl => match us, hl with | [_, _], _ => rfl
  have U5 := fun_mk (st := s_is_web) l5 c5 (keep_fn l5)
  have g5 := PySem.W.mg_of X G a5
  have b5 := U5.binds (ps := ["letters", "thing"]) fun _ _ _ _ _ _ us hl => match us, hl with | [_, _], _ => rfl
  have U6 := fun_mk (st := s_check_web) l6 c6 (keep_fn l6)
  have g6 := PySem.W.mg_of X G a6
  have b6 := U6.binds (ps := ["letters", "thing"]) fun _ _ _ _ _ _ us hl => match us, hl with | [_, _], _ => rfl
  have U7 := fun_mk (st := s_laid_behind) l7 c7 (keep_fn l7)
  have g7 := PySem.W.mg_of X G a7
  have b7 := U7.binds (ps := ["book", "web", "letter"]) fun _ _ _ _ _ _ us hl => match us, hl with | [_, _, _], _ => rfl
  have U8 := fun_mk (st := s_check_rows) l8 c8 (keep_fn l8)
  have g8 := PySem.W.mg_of X G a8
  have U9 := fun_mk (st := s_check_woven) l9 c9 (keep_fn l9)
  have g9 := PySem.W.mg_of X G a9
  have b9 := U9.binds (ps := ["book", "web", "row"]) fun _ _ _ _ _ _ us hl => match us, hl with | [_, _, _], _ => rfl
  have U10 := fun_mk (st := s_webs_behind) l10 c10 (keep_fn l10)
  have g10 := PySem.W.mg_of X G a10
  have b10 := U10.binds (ps := ["book", "web", "row"]) fun _ _ _ _ _ _ us hl => match us, hl with | [_, _, _], _ => rfl
  have U11 := fun_mk (st := s_webs_along) l11 c11 (keep_fn l11)
  have g11 := PySem.W.mg_of X G a11
  have b11 := U11.binds (ps := ["book", "web", "row"]) fun _ _ _ _ _ _ us hl => match us, hl with | [_, _, _], _ => rfl
  have U12 := fun_mk (st := s_told_along) l12 c12 (keep_fn l12)
  have g12 := PySem.W.mg_of X G a12
  have b12 := U12.binds (ps := ["book", "web", "row"]) fun _ _ _ _ _ _ us hl => match us, hl with | [_, _, _], _ => rfl
  have U13 := fun_mk (st := s_events) l13 c13 (keep_fn l13)
  have g13 := PySem.W.mg_of X G a13
  have b13 := U13.binds (ps := ["book", "web", "row"]) fun _ _ _ _ _ _ us hl => match us, hl with | [_, _, _], _ => rfl
  have U14 := fun_mk (st := s_sources) l14 c14 (keep_fn l14)
  have g14 := PySem.W.mg_of X G a14
  have b14 := U14.binds (ps := ["book", "web", "row"]) fun _ _ _ _ _ _ us hl => match us, hl with | [_, _, _], _ => rfl
  have U15 := fun_mk (st := s__law_deck) l15 c15 (keep_fn l15)
  have g15 := PySem.W.mg_of X G a15
  have b15 := U15.binds (ps := ["_law_script"]) fun _ _ _ _ _ _ us hl => match us, hl with | [_], _ => rfl
  have U16 := fun_mk (st := s__law_draw) l16 c16 (keep_fn l16)
  have g16 := PySem.W.mg_of X G a16
  have b16 := U16.binds (ps := ["_law_deck_here", "_law_many"]) fun _ _ _ _ _ _ us hl => match us, hl with | [_, _], _ => rfl
  have U17 := fun_mk (st := s__law_pick) l17 c17 (keep_fn l17)
  have g17 := PySem.W.mg_of X G a17
  have b17 := U17.binds (ps := ["_law_deck_here", "_law_some"]) fun _ _ _ _ _ _ us hl => match us, hl with | [_, _], _ => rfl
  have U18 := fun_mk (st := s__law_book) l18 c18 (keep_fn l18)
  have g18 := PySem.W.mg_of X G a18
  have b18 := U18.binds (ps := ["_law_deck_here", "_law_signs"]) fun _ _ _ _ _ _ us hl => match us, hl with | [_, _], _ => rfl
  have U19 := fun_mk (st := s__law_code) l19 c19 (keep_fn l19)
  have g19 := PySem.W.mg_of X G a19
  have b19 := U19.binds (ps := ["_law_f"]) fun _ _ _ _ _ _ us hl => match us, hl with | [_], _ => rfl
  have U20 := fun_mk (st := s__law_lays) l20 c20 (keep_fn l20)
  have g20 := PySem.W.mg_of X G a20
  have b20 := U20.binds (ps := ["_law_deck_here", "_law_signs", "_law_most"]) fun _ _ _ _ _ _ us hl => match us, hl with | [_, _, _], _ => rfl
  have U21 := fun_mk (st := s__law_trace) l21 c21 (keep_fn l21)
  have g21 := PySem.W.mg_of X G a21
  have b21 := U21.binds (ps := ["_law_f", "_law_cloth", "_law_lays_here"]) fun _ _ _ _ _ _ us hl => match us, hl with | [_, _, _], _ => rfl
  have U22 := fun_mk (st := s__law_heard) l22 c22 (keep_fn l22)
  have g22 := PySem.W.mg_of X G a22
  have b22 := U22.binds (ps := ["_law_code_here", "_law_way", "_law_cloth", "_law_lays_here", "_law_is_named"]) fun _ _ _ _ _ _ us hl => match us, hl with | [_, _, _, _, _], _ => rfl
  have U23 := fun_mk (st := s__law_right) l23 c23 (keep_fn l23)
  have g23 := PySem.W.mg_of X G a23
  have b23 := U23.binds (ps := ["_law_f", "_law_code_here", "_law_cloth", "_law_lays_here"]) fun _ _ _ _ _ _ us hl => match us, hl with | [_, _, _, _], _ => rfl
  have U24 := fun_mk (st := s__law_odd_right) l24 c24 (keep_fn l24)
  have g24 := PySem.W.mg_of X G a24
  have b24 := U24.binds (ps := ["_law_deck_here", "_law_code_here", "_law_cloth", "_law_lays_here"]) fun _ _ _ _ _ _ us hl => match us, hl with | [_, _, _, _], _ => rfl
  have U25 := fun_mk (st := s_law) l25 c25 (keep_fn l25)
  have g25 := PySem.W.mg_of X G a25
  have b25 := U25.binds (ps := ["_law_script"]) fun _ _ _ _ _ _ us hl => match us, hl with | [_], _ => rfl
  have gCB := PySem.W.mg_of X G aB
  have Uinit := fun_mk (st := s_Book___init__) linit cinit (keep_fn linit)
  have binit := Uinit.binds (ps := ["self", "letters", "folds"]) fun _ _ _ _ _ _ us hl => match us, hl with | [_, _, _], _ => rfl
  have Minit : Meth K CB "__init__" finit := ⟨minit.1, minit.2, keep_fn linit⟩
  have Uleft := fun_mk (st := s_Book_left_of) lleft cleft (keep_fn lleft)
  have bleft := Uleft.binds (ps := ["self", "last", "laid"]) fun _ _ _ _ _ _ us hl => match us, hl with | [_, _, _], _ => rfl
  have Mleft : Meth K CB "left_of" fleft := ⟨mleft.1, mleft.2, keep_fn lleft⟩
  have gCW := PySem.W.mg_of X G aW
  have YW : ClsF K CM CW := ⟨xW, gaW, ggW, caW⟩
  have TW : MqE_thing.Txt K mg "BadWeb" "BadWeb.__init__" CW FW := ⟨gCW, YW.at_.keep, YW.at_.init, YW.at_.over, YW.at_.has, NoAttr.taker ntW, wsW, wiW, (by simp [PySem.W.typeIn, lEW]), YW.base, YW.at_.ty, _, _, _, _, _, _, _, _, _, _, _, _, _, _, lEW, cEW⟩
  have gCV := PySem.W.mg_of X G aV
  have YV : ClsF K CM CV := ⟨xV, gaV, ggV, caV⟩
  have TV : MqE_thing.Txt K mg "BadRow" "BadRow.__init__" CV FV := ⟨gCV, YV.at_.keep, YV.at_.init, YV.at_.over, YV.at_.has, NoAttr.taker ntV, wsV, wiV, (by simp [PySem.W.typeIn, lEV]), YV.base, YV.at_.ty, _, _, _, _, _, _, _, _, _, _, _, _, _, _, lEV, cEV⟩
  refine ⟨PySem.W.fnOf "law" "law" (defArgs s_law) (defBody s_law) (defScope s_law) .none kV25 dc25 pm25 an25 cd25 ct25, fun s u => .of_eq rfl, fun base _ _ => ?_⟩
  have R : BkC K CB := ⟨⟨owB.1, owB.2.1, owB.2.2.1, saB⟩, nB_letters, nB_folds, nB_table⟩
  have MK : Mk K CB finit := ⟨owB.2.2.2.1, minit.1, minit.2, owB.2.2.2.2⟩
  have EW : ErrT K mg "BadWeb" "BadWeb.__init__" CW CM FW := ⟨TW, YW.xf, ntW, YW.held sp tk, PySem.W.mg_of X G aM, YW.at_.mill mill.1 mill.2, exm_own YW⟩
  have EV : ErrT K mg "BadRow" "BadRow.__init__" CV CM FV := ⟨TV, YV.xf, ntV, YV.held sp tk, PySem.W.mg_of X G aM, YV.at_.mill mill.1 mill.2, exm_own YV⟩
  obtain ⟨tA, aA⟩ := t_ALPHABET
  have k0 : KBn K _ ["book", "web", "row"] 0 ["row", "web", "book"] rev0 rev0 := kbn_rev3 U11 fun _ _ _ _ _ _ _ _ _ => rfl
  have k1 : KBn K _ ["book", "web", "row"] 0 ["row", "web", "book"] rev0 rev0 := kbn_rev3 U13 fun _ _ _ _ _ _ _ _ _ => rfl
  have k2 : KBn K _ ["book", "web", "row"] 0 ["row", "web", "book"] rev0 rev0 := kbn_rev3 U14 fun _ _ _ _ _ _ _ _ _ => rfl
  have Glets : FnOk P w K mg base CX0 2 f0 _ ["thing"] (spLetters K) := ok_is_letters U0 B U3 g3 b3 ⟨tA, PySem.W.mg_of X G aA⟩
  have Gword : FnOk P w K mg base CX0 1 f2 _ ["letters", "thing"] (spWord K) := ok_is_word U2 B
  have Gfold : FnOk P w K mg base CX0 2 f4 _ ["letters", "thing"] (spFold K) := ok_is_fold U4 B U1 g1 b1
  have Gweb : FnOk P w K mg base CX0 2 f5 _ ["letters", "thing"] (spWord K) := ok_is_web U5 B U2 g2 b2
  have Gche : FnOk P w K mg base (L2.CX P w) 3 f6 _ ["letters", "thing"] (spCheck K CW) := ok_check_web U6 B U5 g5 b5 Gweb TW
  have Gini : FnOk P w K mg base CX0 3 finit _ ["self", "letters", "folds"] (spBook K CB) := ok_book Uinit B R U0 g0 b0 Glets U4 g4 b4 Gfold
  have Gbeh : FnOk P w K mg base CX0 2 f7 _ ["book", "web", "letter"] (spBehind CB) := ok_behind U7 R Uleft Mleft bleft
  have Grow : FnR P w K mg base (L2.CX P w) 3 f8 (spRows K CB CV) := ok_check_rows U8 B R U2 g2 b2 Gword TV
  have Gwov : FnOk P w K mg base (L2.CX P w) 4 f9 _ ["book", "web", "row"] (spWoven K CB CW CV) := ok_check_woven U9 R U6 g6 b6 Gche U8 g8 Grow
  have Gwbe : FnOk P w K mg base CX0 3 f10 _ ["book", "web", "row"] (spWebs CB) := ok_webs_behind U10 U7 g7 b7 Gbeh
  have Gwal : FnOk P w K mg base (L2.CX P w) 5 f11 _ ["book", "web", "row"] (spAns K CB CW CV 0) := ok_webs_along U11 B U9 g9 b9 Gwov U10 g10 b10 Gwbe
  have Gtol : FnOk P w K mg base CX0 2 f12 _ ["book", "web", "row"] (spTold K CB) := ok_told U12 B R Uleft Mleft bleft
  have Geve : FnOk P w K mg base (L2.CX P w) 5 f13 _ ["book", "web", "row"] (spAns K CB CW CV 1) := ok_events U13 B U9 g9 b9 Gwov U12 g12 b12 Gtol
  have Gsou : FnOk P w K mg base (L2.CX P w) 5 f14 _ ["book", "web", "row"] (spAns K CB CW CV 2) := ok_sources U14 B U9 g9 b9 Gwov U12 g12 b12 Gtol
  have Gdec : FnOk P w K mg base CX0 1 f15 _ ["_law_script"] (spDeck K) := ok_deck U15 B
  have Gdra : FnOk P w K mg base CX0 1 f16 _ ["_law_deck_here", "_law_many"] spDraw := ok_draw U16 B
  have Gpic : FnOk P w K mg base CX0 2 f17 _ ["_law_deck_here", "_law_some"] spPick := ok_pick U17 B U16 g16 b16
  have Gboo : FnOk P w K mg base CX0 3 f18 _ ["_law_deck_here", "_law_signs"] spBookL := ok_law_book U18 U16 g16 b16 Gdra U17 g17 b17 Gpic
  have Gcod : FnOk P w K mg base CX0 5 f19 _ ["_law_f"] (spCode K CB) := ok_code U19 B n_sorted gCB MK binit Gini
  have Glay : FnOk P w K mg base CX0 3 f20 _ ["_law_deck_here", "_law_signs", "_law_most"] spLays := ok_lays U20 B U16 g16 b16 Gdra U17 g17 b17 Gpic
  have Gtra : FnOk P w K mg base CX0 1 f21 _ ["_law_f", "_law_cloth", "_law_lays_here"] (spTrace K) := ok_trace U21 B
  have Ghea : FnG P w K mg base CX0 7 f22 _ ["_law_code_here", "_law_way", "_law_cloth", "_law_lays_here", "_law_is_named"] (spHeard K CB) := ok_heard U22 B EW EV noVW U11 g11 b11 k0 Gwal U13 g13 b13 k1 Geve U14 g14 b14 k2 Gsou
  have Grig : FnG P w K mg base CX0 8 f23 _ ["_law_f", "_law_code_here", "_law_cloth", "_law_lays_here"] (spRight CB) := ok_right U23 B U21 g21 b21 Gtra U22 g22 b22 Ghea
  have Godd : FnG P w K mg base CX0 8 f24 _ ["_law_deck_here", "_law_code_here", "_law_cloth", "_law_lays_here"] (spOdd CB) := ok_odd U24 B U17 g17 b17 Gpic U22 g22 b22 Ghea
  exact ok_law U25 B gCB MK binit Gini U15 g15 b15 Gdec U16 g16 b16 Gdra U17 g17 b17 Gpic U18 g18 b18 Gboo U19 g19 b19 Gcod U20 g20 b20 Glay U23 g23 b23 Grig U24 g24 b24 Godd U13 g13 b13 Geve U14 g14 b14 Gsou
end Lw

namespace Lw
open PySem PySem.Spec PyProof.Rows L2 Mq
open SX (S)
def fnL : List He.FnD := [⟨("Book", some "__init__"), "__init__", "Book.__init__", defArgs s_Book___init__, defBody s_Book___init__, defScope s_Book___init__⟩,
  ⟨("Book", some "left_of"), "left_of", "Book.left_of", defArgs s_Book_left_of, defBody s_Book_left_of, defScope s_Book_left_of⟩,
  ⟨("BadWeb", some "__init__"), "__init__", "BadWeb.__init__", MqE_thing.iA ⟨14, 17, 14, 21⟩ ⟨14, 23, 14, 28⟩, MqE_thing.iB ⟨15, 8, 15, 12⟩ ⟨15, 8, 15, 18⟩ ⟨15, 21, 15, 26⟩ ⟨15, 8, 15, 26⟩, MqE_thing.iS⟩,
  ⟨("BadRow", some "__init__"), "__init__", "BadRow.__init__", MqE_thing.iA ⟨18, 17, 18, 21⟩ ⟨18, 23, 18, 28⟩, MqE_thing.iB ⟨19, 8, 19, 12⟩ ⟨19, 8, 19, 18⟩ ⟨19, 21, 19, 26⟩ ⟨19, 8, 19, 26⟩, MqE_thing.iS⟩,
  ⟨("is_letters", none), "is_letters", "is_letters", defArgs s_is_letters, defBody s_is_letters, defScope s_is_letters⟩,
  ⟨("is_letter", none), "is_letter", "is_letter", defArgs s_is_letter, defBody s_is_letter, defScope s_is_letter⟩,
  ⟨("is_word", none), "is_word", "is_word", defArgs s_is_word, defBody s_is_word, defScope s_is_word⟩,
  ⟨("is_ascending", none), "is_ascending", "is_ascending", defArgs s_is_ascending, defBody s_is_ascending, defScope s_is_ascending⟩,
  ⟨("is_fold", none), "is_fold", "is_fold", defArgs s_is_fold, defBody s_is_fold, defScope s_is_fold⟩,
  ⟨("is_web", none), "is_web", "is_web", defArgs s_is_web, defBody s_is_web, defScope s_is_web⟩,
  ⟨("check_web", none), "check_web", "check_web", defArgs s_check_web, defBody s_check_web, defScope s_check_web⟩,
  ⟨("laid_behind", none), "laid_behind", "laid_behind", defArgs s_laid_behind, defBody s_laid_behind, defScope s_laid_behind⟩,
  ⟨("check_rows", none), "check_rows", "check_rows", defArgs s_check_rows, defBody s_check_rows, defScope s_check_rows⟩,
  ⟨("check_woven", none), "check_woven", "check_woven", defArgs s_check_woven, defBody s_check_woven, defScope s_check_woven⟩,
  ⟨("webs_behind", none), "webs_behind", "webs_behind", defArgs s_webs_behind, defBody s_webs_behind, defScope s_webs_behind⟩,
  ⟨("webs_along", none), "webs_along", "webs_along", defArgs s_webs_along, defBody s_webs_along, defScope s_webs_along⟩,
  ⟨("told_along", none), "told_along", "told_along", defArgs s_told_along, defBody s_told_along, defScope s_told_along⟩,
  ⟨("events", none), "events", "events", defArgs s_events, defBody s_events, defScope s_events⟩,
  ⟨("sources", none), "sources", "sources", defArgs s_sources, defBody s_sources, defScope s_sources⟩,
  ⟨("_law_deck", none), "_law_deck", "_law_deck", defArgs s__law_deck, defBody s__law_deck, defScope s__law_deck⟩,
  ⟨("_law_draw", none), "_law_draw", "_law_draw", defArgs s__law_draw, defBody s__law_draw, defScope s__law_draw⟩,
  ⟨("_law_pick", none), "_law_pick", "_law_pick", defArgs s__law_pick, defBody s__law_pick, defScope s__law_pick⟩,
  ⟨("_law_book", none), "_law_book", "_law_book", defArgs s__law_book, defBody s__law_book, defScope s__law_book⟩,
  ⟨("_law_code", none), "_law_code", "_law_code", defArgs s__law_code, defBody s__law_code, defScope s__law_code⟩,
  ⟨("_law_lays", none), "_law_lays", "_law_lays", defArgs s__law_lays, defBody s__law_lays, defScope s__law_lays⟩,
  ⟨("_law_trace", none), "_law_trace", "_law_trace", defArgs s__law_trace, defBody s__law_trace, defScope s__law_trace⟩,
  ⟨("_law_heard", none), "_law_heard", "_law_heard", defArgs s__law_heard, defBody s__law_heard, defScope s__law_heard⟩,
  ⟨("_law_right", none), "_law_right", "_law_right", defArgs s__law_right, defBody s__law_right, defScope s__law_right⟩,
  ⟨("_law_odd_right", none), "_law_odd_right", "_law_odd_right", defArgs s__law_odd_right, defBody s__law_odd_right, defScope s__law_odd_right⟩,
  ⟨("law", none), "law", "law", defArgs s_law, defBody s_law, defScope s_law⟩]
def fs0 : List (PySem.W.Frag → Bool) := [fGlo "MillError",
  fMill,
  fSp,
  fTk,
  fGlo "Book",
  fOwn "Book",
  fFind "Book" "__setattr__" (some (.builtin "object.__setattr__")),
  fFind "Book" "__class__" (some (.builtin "object.__class__")),
  fMro "Book",
  fKit "Book" "Book" true,
  fFind "Book" "letters" none,
  fFind "Book" "folds" none,
  fFind "Book" "table" none,
  fMeth "Book" "__init__",
  fMeth "Book" "left_of",
  fGlo "BadWeb",
  fCls "BadWeb",
  fFind "BadWeb" "__getattribute__" (some (.builtin "BaseException.__getattribute__")),
  fFind "BadWeb" "__getattr__" none,
  fFind "BadWeb" "__class__" (some (.builtin "object.__class__")),
  fFind "BadWeb" "__setattr__" (some (.builtin "object.__setattr__")),
  fFind "BadWeb" "thing" none,
  fInit "BadWeb",
  fFn "BadWeb",
  fGlo "BadRow",
  fCls "BadRow",
  fFind "BadRow" "__getattribute__" (some (.builtin "BaseException.__getattribute__")),
  fFind "BadRow" "__getattr__" none,
  fFind "BadRow" "__class__" (some (.builtin "object.__class__")),
  fFind "BadRow" "__setattr__" (some (.builtin "object.__setattr__"))]
def fs1 : List (PySem.W.Frag → Bool) := [fFind "BadRow" "thing" none,
  fInit "BadRow",
  fFn "BadRow",
  fExm "BadRow" "BadWeb" false,
  fGlo "is_letters",
  fGlo "is_letter",
  fGlo "is_word",
  fGlo "is_ascending",
  fGlo "is_fold",
  fGlo "is_web",
  fGlo "check_web",
  fGlo "laid_behind",
  fGlo "check_rows",
  fGlo "check_woven",
  fGlo "webs_behind",
  fGlo "webs_along",
  fGlo "told_along",
  fGlo "events",
  fGlo "sources",
  fGlo "_law_deck",
  fGlo "_law_draw",
  fGlo "_law_pick",
  fGlo "_law_book",
  fGlo "_law_code",
  fGlo "_law_lays",
  fGlo "_law_trace",
  fGlo "_law_heard",
  fGlo "_law_right",
  fGlo "_law_odd_right",
  fGlo "law"]
def fs2 : List (PySem.W.Frag → Bool) := [fFree "len",
  fFree "range",
  fFree "isinstance",
  fFree "all",
  fFree "any",
  fFree "int",
  fFree "str",
  fFree "bool",
  fFree "tuple",
  fFree "list",
  fFree "repr",
  fFree "enumerate",
  fFree "sorted",
  fTxt "ALPHABET" "abcdefghijklmnopqrstuvwxyz"]
def fsL : List (PySem.W.Frag → Bool) := fs0 ++ fs1 ++ fs2
theorem facts {P : Program} {w : World} {K : PySem.W.Frag} {h : Heap} {mg : Str → Option Value} {fa : Addr} (X : K.In h) (G : h.Ns mainGlobals mg) (hfa : mg ("law" : Str) = some (.ref fa)) (c : He.SaysE [] fnL K) (hx : exB fsL K = true) :
    ∃ fd : FuncData, (∀ (s : Shared) (u : Value), BindsTo s fd ⟨[u], []⟩ [("_law_script", u)]) ∧ ∀ base : Heap, K.In base → base.Ns mainGlobals mg → FnG P w K mg base CX0 9 fa fd ["_law_script"] (spLaw K) := by
  obtain ⟨_, _, _, _, _, _, _, _, _, linit, cinit⟩ := c.def_ 0 rfl
  obtain ⟨_, _, _, _, _, _, _, _, _, lleft, cleft⟩ := c.def_ 1 rfl
  obtain ⟨_, _, _, _, _, _, _, _, _, lEW, cEW⟩ := c.def_ 2 rfl
  obtain ⟨rfl, rfl⟩ := fnB_ok (exAt hx 23 (f := fFn "BadWeb") rfl) lEW
  obtain ⟨_, _, _, _, _, _, _, _, _, lEV, cEV⟩ := c.def_ 3 rfl
  obtain ⟨rfl, rfl⟩ := fnB_ok (exAt hx 32 (f := fFn "BadRow") rfl) lEV
  obtain ⟨_, _, _, _, _, _, _, _, _, l0, c0⟩ := c.def_ 4 rfl
  obtain ⟨_, _, _, _, _, _, _, _, _, l1, c1⟩ := c.def_ 5 rfl
  obtain ⟨_, _, _, _, _, _, _, _, _, l2, c2⟩ := c.def_ 6 rfl
  obtain ⟨_, _, _, _, _, _, _, _, _, l3, c3⟩ := c.def_ 7 rfl
  obtain ⟨_, _, _, _, _, _, _, _, _, l4, c4⟩ := c.def_ 8 rfl
  obtain ⟨_, _, _, _, _, _, _, _, _, l5, c5⟩ := c.def_ 9 rfl
  obtain ⟨_, _, _, _, _, _, _, _, _, l6, c6⟩ := c.def_ 10 rfl
  obtain ⟨_, _, _, _, _, _, _, _, _, l7, c7⟩ := c.def_ 11 rfl
  obtain ⟨_, _, _, _, _, _, _, _, _, l8, c8⟩ := c.def_ 12 rfl
  obtain ⟨_, _, _, _, _, _, _, _, _, l9, c9⟩ := c.def_ 13 rfl
  obtain ⟨_, _, _, _, _, _, _, _, _, l10, c10⟩ := c.def_ 14 rfl
  obtain ⟨_, _, _, _, _, _, _, _, _, l11, c11⟩ := c.def_ 15 rfl
  obtain ⟨_, _, _, _, _, _, _, _, _, l12, c12⟩ := c.def_ 16 rfl
  obtain ⟨_, _, _, _, _, _, _, _, _, l13, c13⟩ := c.def_ 17 rfl
  obtain ⟨_, _, _, _, _, _, _, _, _, l14, c14⟩ := c.def_ 18 rfl
  obtain ⟨_, _, _, _, _, _, _, _, _, l15, c15⟩ := c.def_ 19 rfl
  obtain ⟨_, _, _, _, _, _, _, _, _, l16, c16⟩ := c.def_ 20 rfl
  obtain ⟨_, _, _, _, _, _, _, _, _, l17, c17⟩ := c.def_ 21 rfl
  obtain ⟨_, _, _, _, _, _, _, _, _, l18, c18⟩ := c.def_ 22 rfl
  obtain ⟨_, _, _, _, _, _, _, _, _, l19, c19⟩ := c.def_ 23 rfl
  obtain ⟨_, _, _, _, _, _, _, _, _, l20, c20⟩ := c.def_ 24 rfl
  obtain ⟨_, _, _, _, _, _, _, _, _, l21, c21⟩ := c.def_ 25 rfl
  obtain ⟨_, _, _, _, _, _, _, _, _, l22, c22⟩ := c.def_ 26 rfl
  obtain ⟨_, _, _, _, _, _, _, _, _, l23, c23⟩ := c.def_ 27 rfl
  obtain ⟨_, _, _, _, _, _, _, _, _, l24, c24⟩ := c.def_ 28 rfl
  obtain ⟨_, _, _, _, _, _, _, _, _, l25, c25⟩ := c.def_ 29 rfl
  exact all_mk X G hfa (glo_of (exAt hx 0 (f := fGlo "MillError") rfl)) (mill_of (exAt hx 1 (f := fMill) rfl)) (sp_of (exAt hx 2 (f := fSp) rfl)) (tk_of (exAt hx 3 (f := fTk) rfl)) (glo_of (exAt hx 4 (f := fGlo "Book") rfl)) (own_of (exAt hx 5 (f := fOwn "Book") rfl)) (find_of (exAt hx 6 (f := fFind "Book" "__setattr__" (some (.builtin "object.__setattr__"))) rfl)) (find_of (exAt hx 7 (f := fFind "Book" "__class__" (some (.builtin "object.__class__"))) rfl)) (mro_of (exAt hx 8 (f := fMro "Book") rfl)) (kit_of (exAt hx 9 (f := fKit "Book" "Book" true) rfl)) (find_of (exAt hx 10 (f := fFind "Book" "letters" none) rfl)) (find_of (exAt hx 11 (f := fFind "Book" "folds" none) rfl)) (find_of (exAt hx 12 (f := fFind "Book" "table" none) rfl)) (meth_of (exAt hx 13 (f := fMeth "Book" "__init__") rfl)) linit cinit (meth_of (exAt hx 14 (f := fMeth "Book" "left_of") rfl)) lleft cleft (glo_of (exAt hx 15 (f := fGlo "BadWeb") rfl)) (cls_of (exAt hx 16 (f := fCls "BadWeb") rfl)) (find_of (exAt hx 17 (f := fFind "BadWeb" "__getattribute__" (some (.builtin "BaseException.__getattribute__"))) rfl)) (find_of (exAt hx 18 (f := fFind "BadWeb" "__getattr__" none) rfl)) (find_of (exAt hx 19 (f := fFind "BadWeb" "__class__" (some (.builtin "object.__class__"))) rfl)) (find_of (exAt hx 20 (f := fFind "BadWeb" "__setattr__" (some (.builtin "object.__setattr__"))) rfl)) (find_of (exAt hx 21 (f := fFind "BadWeb" "thing" none) rfl)) (init_of (exAt hx 22 (f := fInit "BadWeb") rfl)) lEW cEW (glo_of (exAt hx 24 (f := fGlo "BadRow") rfl)) (cls_of (exAt hx 25 (f := fCls "BadRow") rfl)) (find_of (exAt hx 26 (f := fFind "BadRow" "__getattribute__" (some (.builtin "BaseException.__getattribute__"))) rfl)) (find_of (exAt hx 27 (f := fFind "BadRow" "__getattr__" none) rfl)) (find_of (exAt hx 28 (f := fFind "BadRow" "__class__" (some (.builtin "object.__class__"))) rfl)) (find_of (exAt hx 29 (f := fFind "BadRow" "__setattr__" (some (.builtin "object.__setattr__"))) rfl)) (find_of (exAt hx 30 (f := fFind "BadRow" "thing" none) rfl)) (init_of (exAt hx 31 (f := fInit "BadRow") rfl)) lEV cEV (exm_of (exAt hx 33 (f := fExm "BadRow" "BadWeb" false) rfl)) (glo_of (exAt hx 34 (f := fGlo "is_letters") rfl)) l0 c0 (glo_of (exAt hx 35 (f := fGlo "is_letter") rfl)) l1 c1 (glo_of (exAt hx 36 (f := fGlo "is_word") rfl)) l2 c2 (glo_of (exAt hx 37 (f := fGlo "is_ascending") rfl)) l3 c3 (glo_of (exAt hx 38 (f := fGlo "is_fold") rfl)) l4 c4 (glo_of (exAt hx 39 (f := fGlo "is_web") rfl)) l5 c5 (glo_of (exAt hx 40 (f := fGlo "check_web") rfl)) l6 c6 (glo_of (exAt hx 41 (f := fGlo "laid_behind") rfl)) l7 c7 (glo_of (exAt hx 42 (f := fGlo "check_rows") rfl)) l8 c8 (glo_of (exAt hx 43 (f := fGlo "check_woven") rfl)) l9 c9 (glo_of (exAt hx 44 (f := fGlo "webs_behind") rfl)) l10 c10 (glo_of (exAt hx 45 (f := fGlo "webs_along") rfl)) l11 c11 (glo_of (exAt hx 46 (f := fGlo "told_along") rfl)) l12 c12 (glo_of (exAt hx 47 (f := fGlo "events") rfl)) l13 c13 (glo_of (exAt hx 48 (f := fGlo "sources") rfl)) l14 c14 (glo_of (exAt hx 49 (f := fGlo "_law_deck") rfl)) l15 c15 (glo_of (exAt hx 50 (f := fGlo "_law_draw") rfl)) l16 c16 (glo_of (exAt hx 51 (f := fGlo "_law_pick") rfl)) l17 c17 (glo_of (exAt hx 52 (f := fGlo "_law_book") rfl)) l18 c18 (glo_of (exAt hx 53 (f := fGlo "_law_code") rfl)) l19 c19 (glo_of (exAt hx 54 (f := fGlo "_law_lays") rfl)) l20 c20 (glo_of (exAt hx 55 (f := fGlo "_law_trace") rfl)) l21 c21 (glo_of (exAt hx 56 (f := fGlo "_law_heard") rfl)) l22 c22 (glo_of (exAt hx 57 (f := fGlo "_law_right") rfl)) l23 c23 (glo_of (exAt hx 58 (f := fGlo "_law_odd_right") rfl)) l24 c24 (glo_of (exAt hx 59 (f := fGlo "law") rfl)) l25 c25 (free_of (exAt hx 60 (f := fFree "len") rfl)) (free_of (exAt hx 61 (f := fFree "range") rfl)) (free_of (exAt hx 62 (f := fFree "isinstance") rfl)) (free_of (exAt hx 63 (f := fFree "all") rfl)) (free_of (exAt hx 64 (f := fFree "any") rfl)) (free_of (exAt hx 65 (f := fFree "int") rfl)) (free_of (exAt hx 66 (f := fFree "str") rfl)) (free_of (exAt hx 67 (f := fFree "bool") rfl)) (free_of (exAt hx 68 (f := fFree "tuple") rfl)) (free_of (exAt hx 69 (f := fFree "list") rfl)) (free_of (exAt hx 70 (f := fFree "repr") rfl)) (free_of (exAt hx 71 (f := fFree "enumerate") rfl)) (free_of (exAt hx 72 (f := fFree "sorted") rfl)) (txt_of (exAt hx 73 (f := fTxt "ALPHABET" "abcdefghijklmnopqrstuvwxyz") rfl))
end Lw

namespace Lw
open PySem PySem.W PySem.Calls PyProof.Rows Mq
abbrev RR : OpenRow := OpenLaw.row PySem.Challenge.rw_millhands_k65_where_letters_come_from
def nm0 : List PySem.Str := ["MillError", "BadBook", "BadText", "BadWeb", "BadRow", "is_letters", "is_letter", "is_word", "is_ascending", "text_parts", "Book", "is_fold", "fold_read", "is_web", "check_web", "laid_behind", "check_rows", "check_woven", "webs_behind", "webs_along", "told_along", "events", "sources", "_law_deck", "_law_draw", "_law_pick", "_law_book", "_law_code", "_law_lays", "_law_trace"]
def nm1 : List PySem.Str := ["_law_heard", "_law_right", "_law_odd_right", "ALPHABET"]
abbrev nmL : List PySem.Str := nm0 ++ nm1
abbrev hk : Hook := hookM 5 fnL fsL
def ob (s : SharedT) : AlT := obsM 5 fnL fsL (HandSHeadRun.getT s)
theorem ob_eq (s : SharedT) : ob s = hk.obs s.abs := obsM_eq (HandSHeadRun.getT_eq s)
theorem run (w : World) : HandSHeadRun.RunEq RR (view RR.prog [40]) hk ob 9600 nmL w := by
  intro os
  kernel_rfl
end Lw

open PySem PySem.W PySem.Calls PyProof.Rows
theorem PySem.Challenge.cw_millhands_k65_where_letters_come_from_holds : PySem.Challenge.rw_millhands_k65_where_letters_come_from.Holds := by
  w_on; o_law
  refine HandSHeadRun.head_any (r := OpenLaw.row PySem.Challenge.rw_millhands_k65_where_letters_come_from) (q := view (OpenLaw.row PySem.Challenge.rw_millhands_k65_where_letters_come_from).prog [40]) (H := Lw.hk) (ob := Lw.ob) (M := 9600) (loose := Lw.nmL) (d := HandSHeadRun.topDef (OpenLaw.row PySem.Challenge.rw_millhands_k65_where_letters_come_from).prog 40) (kwd := []) Lw.ob_eq
    (by kernel_rfl) (fun s => by kernel_rfl) Lw.run (by kernel_rfl) (by kernel_rfl) (by kernel_rfl) (by rfl) (by first | assumption | decide +kernel) (by decide +kernel) ⟨rfl, rfl, rfl, rfl, rfl, by decide +kernel⟩ ?hw ?hc
  case hw => w_witness2
  case hc =>
    refine Mq.walk_ofGE (l := PySem.Challenge.rw_millhands_k65_where_letters_come_from) (n := 63) (k := 9) (x := "_law_script") (CX := L2.CX0) rfl (by decide) (by kernel_rfl) ⟨rfl, by decide, by decide⟩ ?F (fun _ _ _ _ z => z)
    intro w mg fa h Y G hmg0
    obtain ⟨K, KX, c, hx⟩ := Y
    have hmg : mg ("law" : PySem.Str) = some (.ref fa) := by
      have e : (HandSHeadRun.topDef (OpenLaw.row PySem.Challenge.rw_millhands_k65_where_letters_come_from).prog 40).name = ("law" : PySem.Str) := by kernel_rfl
      rw [← e]
      exact hmg0
    obtain ⟨fd, hb, hF⟩ := Lw.facts (P := (PySem.Challenge.rw_millhands_k65_where_letters_come_from).prog) (w := w) KX G hmg c hx
    exact ⟨K, fd, Lw.spLaw K, KX, hb, fun H a ns hl _ hS => ⟨a, ns, rfl, hS, hl, fun _ => rfl⟩, hF⟩

