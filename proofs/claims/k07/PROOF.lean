import PyProof.Rows.All
import Wide.All
import OpenK.AllK
import Wide.FinOn
import PyProof.EqAt
import PyProof.EqKinds
import PyProof.TupleCall
import PyProof.ReprReads
import KE.KExcInit
import HandS.ForMost
import HandS.ForExc
import HandS.ExcField
import HandS.Flow
import HandS.Style
import PyProof.ReprRoads
import HandS.ExcIs
import KE.KExcIs
import HandS.Defaults
import HandS.Walk
import HandS.IsInst
import HandS.Codes
import HandS.StrMore
import KE.GoesMore
import HandS.CallLocal
import HandS.More
import PyProof.StrOps2
import PySem.Challenge.RW_millhands_k07_readers_of_any_values
import HandS.Replace
import KE.KSortTupG
import KE.KDictSum
import HandS.Iter
import HandS.Dict
import HandS.Conv
import HandS.TupLe
import PyProof.StrLawsChain
import PyProof.Rows.StrItems
import HandS.MakeKwOnly
import HandS.ClsMeth
import HandS.Text
import HandS.Set
import HandS.SetFor
import HandS.SetTxt0
import HandS.Strs
import HandS.SetTxtIn
import HandS.TupAny
import PyProof.ListStr
import PyProof.ListMulRight
import PyProof.AutoIntG3
import PyProof.ReprLen
import HandS.FStr
import HandS.Star
import HandS.ExcValue
import HandS.Property
import KE.KCallOwn
import HandS.OwnEq
import PyProof.InstEq
import PyProof.NeKinds
import HandS.HeadEnd
import HandS.Head0
import HandS.Head1
import HandS.Head2
import HandS.HeadHook1
import HandS.HeadHook2
import KE.DataCmp
import HandS.Deep
import HandS.TupMul
set_option Elab.async false
set_option linter.all false
set_option maxRecDepth 100000
set_option maxHeartbeats 0
namespace Mq
open PySem PySem.Spec PyProof.Rows L2

/-! ### defs that are entered where no repr is under way -/
def Still (A : Around) : Prop := A.guards = some []

structure FnG (P : Program) (w : World) (K : PySem.W.Frag) (mg : Str → Option Value)
    (base : Heap) (CX : CXT) (k : Nat) (f : Addr) (fd : FuncData) (ps : List Str) (sp : Sp) : Prop where
  many : ∀ vs H Q E, sp vs H Q E → vs.length = ps.length
  go : ∀ (A : Around) (outer : List Env) (s : Shared) (H : Hp) (args : Args)
    (us : List Value) (vs : List V) (Q : VK) (E : XK), Still A → Room k A →
    Env0 P w K mg base A outer s H → BindsTo s fd args (ps.zip us) → Vals vs us → sp vs H Q E →
    codeAny (model P w) A (.call (.ref f) args) (CR CX outer P w H s Q E) s

theorem FnG.of {P : Program} {w : World} {K : PySem.W.Frag} {mg : Str → Option Value}
    {base : Heap} {CX : CXT} {k : Nat} {f : Addr} {fd : FuncData} {ps : List Str} {sp : Sp}
    (F : FnOk P w K mg base CX k f fd ps sp) : FnG P w K mg base CX k f fd ps sp :=
  ⟨F.len, fun A outer s H args us vs Q E _ => F.run A outer s H args us vs Q E⟩

section
variable {P : Program} {w : World} {K : PySem.W.Frag} {mg : Str → Option Value} {base : Heap}

theorem Fun.okG {CX : CXT} {x qual : Str} {st : Stmt} {f : Addr} {fd : FuncData} {N ps : List Str}
    {k : Nat} {sp : Sp} (F : L2.Fun K x qual st f fd) (S : FnScope N ps (defScope st))
    (many : ∀ vs H Q E, sp vs H Q E → vs.length = ps.length)
    (body : ∀ (cdv : Value) (A : Around) (outer : List Env) (s : Shared) (H : Hp) (vs : List V) (Q : VK) (E : XK),
      Still (A.deeper (envOfC qual (defScope st) s.heap.objs.size f cdv)) →
      Room k (A.deeper (envOfC qual (defScope st) s.heap.objs.size f cdv)) → sp vs H Q E →
      ∃ t, PSs (cxOf CX P w K mg base N qual (defScope st) f cdv A outer s H E) (defBody st) t ∧
        t { nx := fun _ H' => Q .non H', rt := Q } (start N vs) H) :
    FnG P w K mg base CX (k + 1) f fd ps sp := by
  obtain ⟨oc, od, kV, doc, pm, an, cdv, ct, osl, rfl, lk, hcd⟩ := F.ex
  refine ⟨many, fun A outer s H args us vs Q E gA hr e0 hb r h => ?_⟩
  have old : ∀ b o, base.get? b = some o → s.heap.get? b = some o := fun b o e => (e0.bs b o e).1
  have KX := e0.mod.kin.keeps old
  have lim := e0.mod.nolimit.keeps old
  have hlen := many _ _ _ _ h
  have kinds : ∀ y ∈ ps.zip us, (defScope st).names.lookup y.1 = some .local ∨
      ((defScope st).names.lookup y.1 = some .cell ∧
        ((cellsFrom (s.heap.objs.size + 1) (defScope st).names []).lookup y.1).isSome = true) := by
    rintro ⟨n, v⟩ hy
    rcases S.par n (List.of_mem_zip hy).1 with q | q
    · exact Or.inl q
    · exact Or.inr ⟨q, PySem.W.cellsFrom_some _ _ _ (Or.inl q)⟩
  refine codeAny_call_function hr.depth (KX _ _ lk) rfl S.co S.gen rfl
    (PySem.W.codeRec_of KX hcd) (hb _ _ _ _ ?_)
  refine wpAny_newFunctionEnv_cells S.kind kinds (fun env he s1 x => ?_)
  subst he
  refine ⟨lim.keeps x.toInCall.keep, codeAny_func ?_⟩
  obtain ⟨t, ht, hq⟩ := body cdv A outer s H vs Q E gA (hr.deeper _) h
  have I := inv_start (CX := CX) (E := E) S hr.hd e0 hlen r x
  refine wpAny_mono (ht.run [] s1 (start N vs) H _ I hq) (fun fl s' hs => ?_) (fun e s' hs => hs)
  cases fl with
  | ret u =>
    obtain ⟨v, σ', H', J, rv, q⟩ := hs
    exact ⟨v, H', J.os, J.bare, J.base, J.hok, rv, q⟩
  | next =>
    obtain ⟨σ', H', J, q⟩ := hs
    exact ⟨V.non, H', J.os, J.bare, J.base, J.hok, rfl, q⟩
  | brk =>
    obtain ⟨_, _, _, q⟩ := hs
    exact q.elim
  | cont =>
    obtain ⟨_, _, _, q⟩ := hs
    exact q.elim
end

section
variable {X : Cx} {CX : CXT} {k : Nat} {f : Addr} {fd : FuncData} {ps : List Str} {sp : Sp}
  {E : XK} {x : Str} {p pos : Pos} {e : Expr} {es : List Expr} {t : TA}

theorem run_G {pins : List (Addr × Obj)} {σ : L2.St} {H : Hp} {s : Shared} {Q : VK} {us : List Value} {vs : List V}
    (F : FnG X.prog X.w X.K X.mg X.base CX k f fd ps sp) (gA : Still X.A) (hr : Room k X.A)
    (hb : Binds X.K fd ps []) (hx : Passes CX X E) (I : Inv X pins σ H s) (r : Vals vs us) (h : sp vs H Q E) :
    wpAny (model X.prog X.w) X.A (call (.ref f) us) (EP X pins σ Q) X.xe s := by
  have hl : us.length = ps.length := by rw [← r.length]; exact F.many _ _ _ _ h
  have b := hb s us I.kIn (by rw [List.append_nil]; exact hl)
  rw [List.append_nil] at b
  refine wpAny_call (codeAny_mono (F.go X.A X.stack s H ⟨us, []⟩ us vs Q E gA hr I.env0 b r h) (fun r s' hq => ?_))
  match r, hq with
  | .error er, hq => exact hx pins σ H s er s' I hq
  | .ok (.ret u), hq => exact I.after hq
  | .ok .next, hq => exact hq.elim
  | .ok .brk, hq => exact hq.elim
  | .ok .cont, hq => exact hq.elim

/-- f(e, ..) where no repr is under way -/
theorem pe_callG (F : FnG X.prog X.w X.K X.mg X.base CX k f fd ps sp) (gA : Still X.A) (hr : Room k X.A)
    (hg : Gl X x) (hm : X.mg x = some (.ref f)) (hk : PySem.W.keepIn X.K (.ref f) = true)
    (hb : Binds X.K fd ps []) (hx : Passes CX X E) (ha : PA X (e :: es) t)
    (hdb : (x == ("__debug__" : Str)) = false := by decide)
    (he : starEach (e :: es) X.env = (false, eval e X.env) :: starEach es X.env := by rfl)
    (hpl : (backTo pos (starEach es X.env)).any (·.1) = false := by rfl) :
    PE X (.Call (.Name x p) (e :: es) [] pos) (tCall sp [] E t) := by
  refine ⟨fun pins s σ H Q I h => wpAny_Call_Name_kw (ld_glob I hg hm ?_ hdb)⟩
  refine PySem.W.callWith_K (h₀ := X.base) I.ok.mod.kin hk (thn (ha.run pos pins s σ H _ I h) ?_) he hpl
  rintro us s1 ⟨vs, H1, I1, r, q⟩
  rw [List.append_nil] at q
  exact ⟨I1.kIn, run_G F gA hr hb hx I1 r q⟩
end

/-! ### the law's own call -/
theorem law_callG {P : Program} {w : World} {K : PySem.W.Frag} {mg mb : Str → Option Value} {CX : CXT} {k : Nat}
    {fa a : Addr} {fd : FuncData} {x : Str} {sp : Sp} {s₁ : Shared} {vs : List Value} {ns : List Int}
    (KX : K.In s₁.heap) (hns : s₁.heap.Ns mainGlobals mg) (hb : s₁.heap.Ns builtinsNs mb)
    (hbb : ∀ x : Str, x ≠ "__name__" → mb x = bootBuiltins x) (hlim : s₁.heap.NoLimit) (hg : s₁.gens = #[])
    (ha : s₁.heap.get? a = some { cls := .type "list", data := .seq vs.toArray }) (hi : IntsAre vs ns)
    (hl : ns.length ≤ sizeLine) (hr : Room k callerA)
    (F : ∀ base : Heap, K.In base → base.Ns mainGlobals mg → FnG P w K mg base CX k fa fd [x] sp)
    (hbind : ∀ (s : Shared) (u : Value), BindsTo s fd ⟨[u], []⟩ [(x, u)])
    (hsp : ∀ H : Hp, Only H → SqL K H a (ns.map V.int) → sp [.ref a] H (fun v _ => v = .bl true) fun _ _ _ => False)
    (hCX : ∀ H e s', CX [] H s₁ (fun _ _ _ => False) e s' → False) :
    codeAny (model P w) callerA (.call (.ref fa) ⟨[.ref a], []⟩)
      (fun r s' => r = .ok (.ret (.bool true)) ∧ OldK s₁.heap s'.heap ∧ s'.os = s₁.os ∧ AllBare s'.gens) s₁ := by
  have rv := vals_ints hi
  have core : ∀ H : Hp, Only H → SqL K H a (ns.map V.int) → HOk P w H s₁.heap →
      (∀ b, H b ≠ none → b = a) → (H a ≠ none → K.lookup a = none) →
      codeAny (model P w) callerA (.call (.ref fa) ⟨[.ref a], []⟩)
        (fun r s' => r = .ok (.ret (.bool true)) ∧ OldK s₁.heap s'.heap ∧ s'.os = s₁.os ∧ AllBare s'.gens) s₁ := by
    intro H hO hS hok hA hK
    have only : ∀ {b : Addr} {u : HO}, H b = some u → b = a := fun {b u} q => hA b (by rw [q]; exact fun z => by cases z)
    have noD : ∀ {b : Addr} {o : Obj} {es : Array DictEntry} {ep : Nat}, s₁.heap.get? b = some o →
        o.data = .dict es ep → H b = none := by
      intro b o es ep e d
      cases q : H b with
      | none => rfl
      | some u =>
        have e' := only q
        subst e'
        rw [ha] at e
        cases e
        cases d
    have nsK : ∀ {b : Addr} {m : Str → Option Value}, s₁.heap.Ns b m → (hidT s₁.heap H).Ns b m := by
      rintro b m ⟨o, es, ep, e, d, r⟩
      exact ⟨o, es, ep, hidT_get e (noD e d), d, r⟩
    have hKb : K.In (hidT s₁.heap H) := by
      intro b o e
      refine hidT_get (KX b o e) ?_
      cases q : H b with
      | none => rfl
      | some u =>
        have e' := only q
        subst e'
        rw [hK (by rw [q]; exact fun z => by cases z)] at e
        cases e
    obtain ⟨mc, l1, l2⟩ := hlim
    have hM : Mod K mg (hidT s₁.heap H) := ⟨hKb, nsK hns, ⟨mb, nsK hb, hbb⟩, ⟨mc, nsK l1, l2⟩⟩
    have nil : ∀ {b : Addr}, b ∉ ([] : List Addr) := fun h => by cases h
    have e0 : Env0 P w K mg (hidT s₁.heap H) callerA [] s₁ H :=
      ⟨rfl, hM, fun b o e => of_hidT e, Nat.le_of_eq (hidT_size _ _), trivial, fun b hb => (nil hb).elim, hok, .of_eq hg⟩
    refine codeAny_mono ((F _ hKb (nsK hns)).go callerA [] s₁ H ⟨[.ref a], []⟩ [.ref a] [.ref a] _ _ rfl hr e0
      (hbind s₁ (.ref a)) (.cons rfl .nil) (hsp H hO hS)) (fun r s' h => ?_)
    match r, h with
    | .error e, h => exact (hCX H e s' h).elim
    | .ok .next, h => exact h.elim
    | .ok .brk, h => exact h.elim
    | .ok .cont, h => exact h.elim
    | .ok (.ret u), h =>
      obtain ⟨v, H', os, bare, un, hok', r', q⟩ := h
      have q' : v = .bl true := q
      subst q'
      cases (show u = Value.bool true from r')
      refine ⟨rfl, OldK.of_keep (fun b o e => ?_), os, bare⟩
      rcases hO b with z | ⟨ob, xs, z⟩
      · exact un.keep b o e z nil nil
      · obtain ⟨e1, _⟩ := hok b _ z
        obtain ⟨e2, _⟩ := hok' b _ (un.frzs b ob _ z)
        rw [e] at e1
        cases e1
        exact e2
  cases hk : K.lookup a with
  | some o =>
    have e := KX a o hk
    rw [ha] at e
    cases e
    refine core (fun _ => none) (fun _ => Or.inl rfl) (Or.inr ⟨_, vs.toArray, _, hk, rfl, rfl, rfl, ?_, by simpa using rv⟩)
      (fun b u z => by cases (show (none : Option HO) = some u from z)) (fun b z => (z rfl).elim) (fun z => (z rfl).elim)
    rw [List.size_toArray, hi.length]
    exact hl
  | none =>
    let o0 : Obj := { cls := .type "list", data := .seq vs.toArray }
    refine core (fun b => if b = a then some (.frz o0 (.lst (ns.map V.int))) else none) (fun b => ?_)
      (Or.inl (Or.inr ⟨o0, if_pos rfl⟩)) (fun b u z => ?_) (fun b z => ?_) (fun _ => hk)
    · by_cases hb : b = a
      · exact Or.inr ⟨_, _, if_pos hb⟩
      · exact Or.inl (if_neg hb)
    · by_cases hb : b = a
      · cases (if_pos hb).symm.trans z
        subst hb
        exact ⟨ha, by rw [List.length_map]; exact hl, vs, _, rv, ha⟩
      · cases (if_neg hb).symm.trans z
    · by_cases hb : b = a
      · exact hb
      · exact (z (if_neg hb)).elim

theorem walk_ofG {l : PySem.W.OpenLaw} {n k : Nat} {q : Program} {loose : List Str}
    {XP : (Str → Option Value) → Heap → Prop} {YP : World → Heap → Prop} {d : DefRec}
    {K : Params → PySem.W.Frag} {CX : World → CXT} {sp : World → Sp} {x : Str}
    (hn : l.most = some n) (hn2 : n ≤ sizeLine) (hdf : d.params.defaults = []) (hr : Room k callerA)
    (hY : ∀ (w : World) (h : Heap), YP w h → (K w.params).In h)
    (F : ∀ (w : World) (mg : Str → Option Value) (fa : Addr) (h : Heap), (K w.params).In h →
      h.Ns mainGlobals mg → mg d.name = some (.ref fa) →
      ∃ fd : FuncData, (∀ (s : Shared) (u : Value), BindsTo s fd ⟨[u], []⟩ [(x, u)]) ∧
        ∀ base : Heap, (K w.params).In base → base.Ns mainGlobals mg →
          FnG l.prog w (K w.params) mg base (CX w) k fa fd [x] (sp w))
    (hsp : ∀ (w : World) (H : Hp) (a : Addr) (ns : List Int), ns.length ≤ n → Only H →
      SqL (K w.params) H a (ns.map V.int) → sp w [.ref a] H (fun v _ => v = .bl true) fun _ _ _ => False)
    (hCX : ∀ (w : World) (H : Hp) (s : Shared) (e : Value) (s' : Shared), CX w [] H s (fun _ _ _ => False) e s' → False) :
    PySem.W.WalkO q loose XP YP l.row.toRowW d [] (fun f vs => PySem.call f vs) := by
  refine Att.attach_call hn hdf ?_
  intro w s₀ s₁ mg mb fa o pm cd doc a vs ns G Y ho hd hcd hmg hobj hints hlen hg
  obtain ⟨fd, hb, hF⟩ := F w mg fa _ (hY w _ Y) G.T.g hmg
  exact law_callG (hY w _ Y) G.T.g G.T.b G.T.builtins G.T.nolimit hg hobj hints (Nat.le_trans hlen hn2) hr hF hb
    (fun H hO hS => hsp w H a ns hlen hO hS) (fun H e s' => hCX w H s₁ e s')
end Mq

namespace Mq
open PySem PySem.Spec PyProof.Rows L2

/-! ### repr of data, dicts among them -/
def keyD : Key → PyData
  | .inl i => .int i
  | .inr x => .str x
mutual
inductive Dg (K : PySem.W.Frag) (H : Hp) : V → PyData → Prop
  | non : Dg K H .non .none
  | bl (b : Bool) : Dg K H (.bl b) (.bool b)
  | int (i : Int) : Dg K H (.int i) (.int i)
  | str (x : Str) : Dg K H (.str x) (.str x)
  | lst {a : Addr} {xs : List V} {ds : List PyData} : a ≠ sysModules → SqL K H a xs → DgAll K H xs ds → Dg K H (.ref a) (.list ds)
  | tup {a : Addr} {xs : List V} {ds : List PyData} : SqT K H a xs → DgAll K H xs ds → Dg K H (.ref a) (.tuple ds)
  | dct {a : Addr} {kvs : List (Key × V)} {ds : List (PyData × PyData)} : H a = some (.dK kvs) → DgKv K H kvs ds → Dg K H (.ref a) (.dict ds)
inductive DgAll (K : PySem.W.Frag) (H : Hp) : List V → List PyData → Prop
  | nil : DgAll K H [] []
  | cons {v : V} {vs : List V} {d : PyData} {ds : List PyData} : Dg K H v d → DgAll K H vs ds → DgAll K H (v :: vs) (d :: ds)
inductive DgKv (K : PySem.W.Frag) (H : Hp) : List (Key × V) → List (PyData × PyData) → Prop
  | nil : DgKv K H [] []
  | cons {k : Key} {v : V} {vs : List (Key × V)} {d : PyData} {ds : List (PyData × PyData)} : Dg K H v d → DgKv K H vs ds → DgKv K H ((k, v) :: vs) ((keyD k, d) :: ds)
end
section
variable {X : Cx} {pins : List (Addr × Obj)} {σ : L2.St} {H : Hp} {s : Shared}
theorem reads_key {h : Heap} {k : Key} {u : Value} (e : keyIs k u = true) : Reads h u (keyD k) [] := by
  rcases keyIs_shape e with ⟨i, t, rfl, rfl⟩ | ⟨x, t, rfl, rfl⟩
  · exact Reads.int i t
  · exact Reads.str x t
mutual
theorem Dg.rd (I : Inv X pins σ H s) : ∀ {d : PyData} {v : V} {u : Value}, Dg X.K H v d → RelV v u →
    ∃ as, Reads s.heap u d as ∧ sysModules ∉ as
  | _, _, _, .non, r => by cases r; exact ⟨[], .none, fun h => by cases h⟩
  | _, _, _, .bl b, r => by cases r; exact ⟨[], .bool b, fun h => by cases h⟩
  | _, _, _, .int i, r => by obtain ⟨t, rfl⟩ := r; exact ⟨[], .int i t, fun h => by cases h⟩
  | _, _, _, .str x, r => by obtain ⟨t, rfl⟩ := r; exact ⟨[], .str x t, fun h => by cases h⟩
  | _, _, _, .lst ne hs ha, r => by
    cases r
    obtain ⟨its, rv, ⟨o, n, ho, hc, _, hd⟩, _⟩ := I.list hs
    obtain ⟨as, hr, hn⟩ := DgAll.rd I ha rv
    refine ⟨_, Reads.list ho hc hd hr, fun hm => ?_⟩
    rcases List.mem_cons.mp hm with e | e
    · exact ne e.symm
    · exact hn e
  | _, _, _, .tup hs ha, r => by
    cases r
    obtain ⟨its, rv, ⟨o, ho, hc, n, hd⟩, _⟩ := I.tuple hs
    obtain ⟨as, hr, hn⟩ := DgAll.rd I ha rv
    exact ⟨_, Reads.tuple ho hc hd hr, hn⟩
  | _, _, _, .dct (a := a) hs ha, r => by
    cases r
    obtain ⟨_, ns, us, rk, o, es, ep, ho, hx, hd, _, hp, _⟩ := I.hok a _ hs
    obtain ⟨as, bs, r1, r2, n1, n2⟩ := DgKv.rd I ha rk hp
    refine ⟨_, Reads.dict ho hx.1 hd r1 r2, fun hm => ?_⟩
    rcases List.mem_append.mp hm with hm | hm
    · rcases List.mem_cons.mp hm with e | e
      · rw [← e] at ns
        simp at ns
      · exact n1 e
    · exact n2 hm
theorem DgAll.rd (I : Inv X pins σ H s) : ∀ {ds : List PyData} {vs : List V} {us : List Value}, DgAll X.K H vs ds → Vals vs us →
    ∃ as, ReadsAll s.heap us ds as ∧ sysModules ∉ as
  | _, _, _, .nil, r => by cases r; exact ⟨[], .nil, fun h => by cases h⟩
  | _, _, _, .cons h1 h2, r => by
    cases r with
    | cons r1 r2 =>
      obtain ⟨as, q1, n1⟩ := Dg.rd I h1 r1
      obtain ⟨bs, q2, n2⟩ := DgAll.rd I h2 r2
      exact ⟨_, ReadsAll.cons q1 q2, fun hm => (List.mem_append.mp hm).elim n1 n2⟩
theorem DgKv.rd (I : Inv X pins σ H s) : ∀ {ds : List (PyData × PyData)} {vs : List (Key × V)} {us : List (Key × Value)} {es : List DictEntry}, DgKv X.K H vs ds → KV vs us →
    Pairs (mixKind X.prog X.w) es us →
    ∃ as bs, ReadsAll s.heap (es.map (·.key)) (ds.map (·.1)) as ∧ ReadsAll s.heap (es.map (·.val)) (ds.map (·.2)) bs ∧ sysModules ∉ as ∧ sysModules ∉ bs
  | _, _, _, _, .nil, r, p => by
    cases r
    cases p
    exact ⟨[], [], ReadsAll.nil, ReadsAll.nil, (fun h => by cases h), (fun h => by cases h)⟩
  | _, _, _, _, .cons h1 h2, r, p => by
    cases r with
    | cons r1 r2 =>
      cases p with
      | cons p3 p4 p2 =>
        obtain ⟨e1, e2⟩ := r1
        obtain ⟨as, q1, n1⟩ := Dg.rd I h1 e2
        obtain ⟨bs, cs, q2, q3, n2, n3⟩ := DgKv.rd I h2 r2 p2
        rw [← p4] at q1
        have p3' := p3
        rw [← e1] at p3'
        exact ⟨_, _, ReadsAll.cons (reads_key p3') q2, ReadsAll.cons q1 q3, fun hm => (List.mem_append.mp hm).elim (fun z => by cases z) n2,
          fun hm => (List.mem_append.mp hm).elim n1 n3⟩
end
/-- repr(v), v data -/
def rRep (K : PySem.W.Frag) : List V → Hp → VK → Prop := fun xs H Q => ∃ v d, xs = [v] ∧ Dg K H v d ∧ d.showable = true ∧
  d.depth ≤ 40 ∧ d.shown.length ≤ sizeLine ∧ Q (.str d.shown) H
theorem call_rep {k : Nat} (hr : Room k X.A) (gA : Still X.A) : CallR X (.builtin "repr") (rRep X.K) := by
  intro pins s σ H xs us Q I r h
  obtain ⟨v, d, rfl, hd, hs, hz, hl, q⟩ := h
  cases r with
  | cons rx rr =>
    cases rr
    have hu := hr.units
    obtain ⟨as, rd, hn⟩ := Dg.rd I hd rx
    have leaf : ∀ {d : PyData} {t : Tok}, Q (.str d.shown) H → EP X pins σ Q (.str d.shown t) { s with toks := s.toks + 1 } :=
      fun {d t} q => ⟨.str d.shown, H, I.tok _, ⟨_, rfl⟩, q⟩
    cases hd with
    | non =>
      cases rx
      exact PySem.P.repr_of_none (leaf (d := .none) q)
    | bl b =>
      cases rx
      exact PySem.P.repr_of_bool (leaf (d := .bool b) q)
    | int i =>
      obtain ⟨t, rfl⟩ := rx
      exact PySem.P.repr_of_int (by simpa [PyData.showable] using hs) (leaf (d := .int i) q)
    | str x =>
      obtain ⟨t, rfl⟩ := rx
      refine PySem.P.repr_of_str (leaf (d := .str x) q) ?_
      simpa only [PyData.shown] using hl
    | lst ne h1 h2 =>
      cases rx
      exact repr_of_reads' rd hs (fun _ => hn) gA (by omega) (fun _ _ e => e) (fun h' u tk k => ⟨.str _, H, I.kept k, ⟨_, rfl⟩, q⟩) hl
    | tup h1 h2 =>
      cases rx
      exact repr_of_reads' rd hs (fun _ => hn) gA (by omega) (fun _ _ e => e) (fun h' u tk k => ⟨.str _, H, I.kept k, ⟨_, rfl⟩, q⟩) hl
    | dct h1 h2 =>
      cases rx
      exact repr_of_reads' rd hs (fun _ => hn) gA (by omega) (fun _ _ e => e) (fun h' u tk k => ⟨.str _, H, I.kept k, ⟨_, rfl⟩, q⟩) hl
/-- no new object stands where the modules stand -/
theorem Inv.low (I : Inv X pins σ H s) : sysModules < s.heap.objs.size := by
  have h1 := I.mod.glob.lt
  have h2 := I.ok.bsz
  have h3 := I.sz
  have h4 : sysModules < mainGlobals := by decide
  exact Nat.lt_of_lt_of_le (Nat.lt_trans h4 h1) (Nat.le_trans h2 h3)
/-- a list display, told to stand elsewhere than the modules -/
def tLs (t : TA) : TE := fun σ H Q => t σ H fun xs H1 => xs.length ≤ sizeLine ∧ ∀ p, H1 p = none → p ≠ sysModules → Q (.ref p) (upd H1 p (.lst xs))
theorem pe_ls {es : List Expr} {t : TA} {pos : Pos} (h : PA X es t) : PE X (.List es pos) (tLs t) := by
  refine ⟨fun pins s σ H Q I hq => wpAny_List_spliced (thn (h.run pos pins s σ H _ I hq) ?_)⟩
  rintro us s1 ⟨xs, H1, I1, r, z, q⟩
  have hz : us.length ≤ sizeLine := by rw [← r.length]; exact z
  have nw : H1 s1.heap.objs.size = none := I1.hok.fresh (Nat.le_refl _)
  refine ⟨hz, .ref s1.heap.objs.size, upd H1 s1.heap.objs.size (.lst xs), ?_, rfl, q _ nw (Nat.ne_of_gt (Inv.low I1))⟩
  exact I1.laid (t' := s1.toks) (fun b u e => Heap.get?_push_of_some _ e) (Nat.le_refl _) ⟨z, us, 0, r, Heap.get?_push_size _ rfl⟩
end
end Mq

namespace Mq
open PySem PySem.Spec PyProof.Rows L2
open PySem.W (Frag)
open PySem.Builtin.ObjectAttr
/-! ### own errors over Exception, with one field -/
abbrev exTail : List Value := [.type "Exception", .type "BaseException", .type "object"]
section
variable {prog : Program} {w : World} {A : Around} {E : Value → Shared → Prop} {R : Result → Shared → Prop}
  {hp : Heap} {g : Array GenState} {d : Drawn} {t : Nat} {os : OsState} {K : Frag}
theorem osa_first {name : Str} {tk : Tok} {v : Value} {x C t1 : Addr} (X : K.In hp)
    (hx : hp.get? x = some (PySem.W.excObj C t1 none .none)) (ho : PySem.W.excOver K C exTail = true)
    (hh : PySem.W.hasDictIn K C = true) (ht : PySem.W.takerIn K C name = some none)
    (hq : ∀ h' tk' dx, (∀ b o, b ≠ x → hp.get? b = some o → h'.get? b = some o) → hp.objs.size ≤ dx → dx ≠ x →
      h'.get? x = some (PySem.W.excObj C t1 (some dx) .none) → h'.Ns1 dx (fun y => if y = name then some v else none) →
      R (.ok (.ret .none)) ⟨h', g, d, tk', os⟩) :
    codeAny (model prog w) A (.call (.builtin "object.__setattr__") ⟨[.ref x, .str name tk, v], []⟩) R ⟨hp, g, d, t, os⟩ := by
  refine PySem.W.osa_openX (od := none) (s := ⟨hp, g, d, t, os⟩) F.store_Exception X ⟨hx, rfl, rfl, trivial⟩ ho ht (fun b => ?_)
  obtain ⟨cd, hc, hd'⟩ := PySem.W.any_some hh
  refine wpAny_bind (wpAny_pure (wpAny_bind (PySem.W.instanceDict_exc hx (PySem.W.looks_clsIn X hc) hd' ?_)))
  show wpAny _ _ (storeInDict hp.objs.size (.str name tk) name v) _ _ _
  have hxs : x ≠ hp.objs.size := Nat.ne_of_lt (Heap.lt_size hx)
  have hx1 : (hp.push (PySem.W.dictOf [] 0)).get? x = some (PySem.W.excObj C t1 none .none) := Heap.get?_push_of_some _ hx
  refine PySem.HandSPX.store_in_new ?_ ?_
  · exact ⟨_, #[], _, (Heap.get?_update_ne _ _ _ _ hxs.symm).trans (Heap.get?_push_at rfl rfl), rfl, (fun e he => absurd he (by simp)), fun _ => rfl⟩
  · intro h' tk' hn' hs
    refine hq h' tk' hp.objs.size (fun b o hb ho => ?_) (Nat.le_refl _) hxs.symm ?_ hn'
    · exact (hs.2 b (Nat.ne_of_lt (Heap.lt_size ho))).trans ((Heap.get?_update_ne _ _ _ _ hb).trans (Heap.get?_push_of_some _ ho))
    · exact (hs.2 x hxs).trans (Heap.get?_update_self _ hx1 rfl)
end
end Mq

namespace Mq
open PySem PySem.Spec PyProof.Rows L2
/-! ### the error that a suite holds: its class, its field -/
/-- what the class at D says, so that isinstance asks its errors rightly -/
structure HeldC (K : PySem.W.Frag) (D : Addr) : Prop where
  cl : (PySem.W.clsIn K D).isSome = true
  ga : PySem.W.findIn K (.ref D) "__getattribute__" = some (some (.builtin "BaseException.__getattribute__"))
  gg : PySem.W.findIn K (.ref D) "__getattr__" = some none
  sb : PySem.W.subIn K (.ref D) (.type "BaseException") = some true
  ca : PySem.W.findIn K (.ref D) "__class__" = some (some (.builtin "object.__class__"))
  sp : PySem.W.specialIn K (.builtin "object.__class__") "__get__" = some (some (.builtin "getset_descriptor.__get__"))
  tk : PySem.W.takesIn K (.builtin "object.__class__") = some true
  mo : PySem.W.mroIn K D (.type "object") = some true
/-- isinstance(e, c), e the error at a -/
def rHeld (K : PySem.W.Frag) (D a : Addr) (d : Option Addr) : List V → Hp → VK → Prop := fun xs H Q => ∃ (dd c : Addr) (fs : List (Str × V)) (b : Bool),
  xs = [.ref a, .ref c] ∧ d = some dd ∧ H dd = some (.xd fs) ∧ PySem.W.kitOne K (.ref D) (.ref c) = some b ∧ Q (.bl b) H
theorem call_held {X : Cx} {a D : Addr} {oe : Obj} {d : Option Addr} {pn : List (Addr × Obj)} (C : HeldC X.K D) (hz : Zc (.ref D) d oe)
    (hf : ∃ vs, oe.data = .fields vs) : CallR (X.suite a ((a, oe) :: pn)) (.builtin "isinstance") (rHeld X.K D a d) := by
  intro pins s σ H xs us Q I r h
  obtain ⟨dd, c, fs, b, rfl, rfl, hd, e, q⟩ := h
  cases r with
  | cons rx rr =>
    cases rr with
    | cons rt rr =>
      cases rr
      cases rx
      cases rt
      obtain ⟨hget, _⟩ := I.pin (a, oe) (List.mem_append.mpr (Or.inl List.mem_cons_self))
      obtain ⟨vs, hv⟩ := hf
      obtain ⟨mA, ⟨od, es, ep, ho, _⟩, _⟩ := (show ObjOk X.prog X.w H s.heap dd (.xd fs) from I.hok dd _ hd)
      have J : PySem.W.InstAt s.heap a oe D (some od) := by
        refine ⟨hget, hz.1, ?_, ?_⟩
        · unfold PySem.W.notCls
          rw [hv]
        · rw [hz.2]
          exact ho
      refine PySem.W.kia_one (PySem.W.kitx_exc C.cl C.ga C.gg C.sb C.ca C.sp C.tk C.mo) I.kIn J e (fun z => by cases z) (fun tk => ?_)
      exact ⟨.bl b, H, I.kept (t' := tk) (fun _ _ z => z), rfl, q⟩
/-! ### methods that raise, called within a try -/
section
variable {X : Cx} {CX : CXT} {k : Nat} {f C : Addr} {fd : FuncData} {ps : List Str} {sp : Sp}
  {E : L2.St → XK} {m : Str} {pos apos : Pos} {e o : Expr} {es : List Expr} {kws : List Keyword} {ta : TE} {t tk : TA}
def tMethT (C : Addr) (m : Str) (sp : Sp) (E : L2.St → XK) (ta : TE) (t : TA) : TE := fun σ H Q => ta σ H fun x H1 => ∃ a dx fs,
  x = .ref a ∧ H1 a = some (.ins C dx fs) ∧ fs.lookup m = none ∧ t σ H1 fun vs H2 => sp (x :: vs) H2 Q (E σ)
theorem pe_methT {pl : Sem Bool} (he : PE X o ta) (c : Cls X.K C) (hm : Meth X.K C m f)
    (F : FnOk X.prog X.w X.K X.mg X.base CX k f fd ps sp) (hr : Room k X.A) (hb : Binds X.K fd ps [])
    (hx : ∀ σ, PassesAt CX X σ (E σ)) (ha : PA X (e :: es) t)
    (hst : starEach (e :: es) X.env = (false, eval e X.env) :: starEach es X.env := by rfl)
    (hpl : (backTo pos (starEach es X.env)).any (·.1) = false := by rfl)
    (ht : eval (.Call (.Attribute o m apos) (e :: es) [] pos) X.env = (do
      let ov ← eval o X.env
      standAt apos.atName
      let (f, first) ← holding [ov] (getMethod ov m pl)
      callWith pos f first (backTo pos (starEach (e :: es) X.env)) (backToKw pos (keywordEach [] X.env))) := by rfl) :
    PE X (.Call (.Attribute o m apos) (e :: es) [] pos) (tMethT C m sp E ta t) := by
  refine ⟨fun pins s σ H Q I h => PySem.W.methodCall_KW (pl := pl) (thn (he.run pins s σ H _ I h) ?_) ht⟩
  rintro u s1 ⟨x, H1, I1, rx, a, dx, fs, rfl, ea, l, q⟩
  cases rx
  refine getmeth_ok I1 ea c hm l ?_
  refine PySem.W.callWith_K (first := [.ref a]) (h₀ := X.base) I.ok.mod.kin hm.kp (thn (ha.run pos pins s1 σ H1 _ I1 q) ?_) hst hpl
  rintro us s2 ⟨vs, H2, I2, r, q2⟩
  exact ⟨I2.kIn, run_fnS (us := .ref a :: us) (vs := .ref a :: vs) F hr hb (hx σ) I2 (.cons rfl r) q2⟩
end
end Mq
namespace Mq
open PySem PySem.Spec PyProof.Rows L2
section
variable {X : Cx} {CX : CXT} {k : Nat} {f C : Addr} {fd : FuncData} {ps ks : List Str} {sp : Sp}
  {E : L2.St → XK} {m : Str} {pos apos : Pos} {o : Expr} {kws : List Keyword} {ta : TE} {tk : TA}
  {g : List Value → List Value → List Value} {gV : List V → List V → List V}
def tMethK (C : Addr) (m : Str) (many : Nat) (sp : Sp) (gV : List V → List V → List V) (E : L2.St → XK) (ta : TE) (tk : TA) : TE := fun σ H Q => ta σ H fun x H1 => ∃ a dx fs,
  x = .ref a ∧ H1 a = some (.ins C dx fs) ∧ fs.lookup m = none ∧ tk σ H1 fun zs H2 => zs.length = many ∧ sp (gV [x] zs) H2 Q (E σ)
/-- o.m(k = v, ..), what is raised being wished for at the slots as they stand -/
theorem pe_methK {pl : Sem Bool} (he : PE X o ta) (c : Cls X.K C) (hm : Meth X.K C m f)
    (F : FnOk X.prog X.w X.K X.mg X.base CX k f fd ps sp) (hr : Room k X.A) (hb : KBn X.K fd ps 1 ks g gV)
    (hx : ∀ σ, PassesAt CX X σ (E σ)) (hkw : PK X kws tk)
    (hall : (backToKw pos (keywordEach kws X.env)).all (·.1.isSome) = true := by rfl)
    (hks : (backToKw pos (keywordEach kws X.env)).filterMap (·.1) = ks := by rfl)
    (hpl : ((backTo pos (starEach [] X.env)).any (·.1) || (backToKw pos (keywordEach kws X.env)).any (·.1.isNone)) = false := by rfl)
    (ht : eval (.Call (.Attribute o m apos) [] kws pos) X.env = (do
      let ov ← eval o X.env
      standAt apos.atName
      let (f, first) ← holding [ov] (getMethod ov m pl)
      callWith pos f first (backTo pos (starEach [] X.env)) (backToKw pos (keywordEach kws X.env))) := by rfl) :
    PE X (.Call (.Attribute o m apos) [] kws pos) (tMethK C m ks.length sp gV E ta tk) := by
  refine ⟨fun pins s σ H Q I h => PySem.W.methodCall_KW (pl := pl) (thn (he.run pins s σ H _ I h) ?_) ht⟩
  rintro u s1 ⟨x, H1, I1, rx, a, dx, fs, rfl, ea, l, q⟩
  cases rx
  refine getmeth_ok I1 ea c hm l ?_
  refine PySem.W.callWith_KW0 (first := [.ref a]) (h₀ := X.base) I.ok.mod.kin hm.kp hall (thn (hkw.run pos pins s1 σ H1 _ I1 q) ?_) hpl
  rintro ws s2 ⟨zs, H2, I2, rz, hl, q2⟩
  refine ⟨I2.kIn, ?_⟩
  rw [hks]
  have r1 : Vals [V.ref a] [Value.ref a] := .cons rfl .nil
  have r2 := hb.rel r1 rz
  have lw : ws.length = ks.length := rz.length.symm.trans hl
  show wpAny _ _ (call (.ref f) [.ref a] (ks.zip ws)) _ _ _
  refine wpAny_call (codeAny_mono (F.run X.A X.stack s2 H2 ⟨[.ref a], ks.zip ws⟩ (g [.ref a] ws) (gV [.ref a] zs) Q (E σ) hr I2.env0
    (hb.to s2 [.ref a] ws I2.kIn rfl lw) r2 q2) (fun r s' hq => ?_))
  match r, hq with
  | .error er, hq => exact hx σ pins H2 s2 er s' I2 hq
  | .ok (.ret u), hq => exact I2.after hq
  | .ok .next, hq => exact hq.elim
  | .ok .brk, hq => exact hq.elim
  | .ok .cont, hq => exact hq.elim
end
end Mq

namespace Mq
open PySem PySem.Spec PyProof.Rows L2
open SX (S)
/-! ### what the module leaves of the built-in names -/
structure Blt (mg : Str → Option Value) : Prop where
  len : mg "len" = none
  range : mg "range" = none
  isi : mg "isinstance" = none
  all : mg "all" = none
  any : mg "any" = none
  int : mg "int" = none
  str : mg "str" = none
  bool : mg "bool" = none
  tuple : mg "tuple" = none
  list : mg "list" = none
  repr : mg "repr" = none
  enumerate : mg "enumerate" = none
/-! ### heaps that keep what was told -/
theorem same_new {H : Hp} {p : Addr} {o : HO} (h : H p = none) : Same H (upd H p o) := fun b u e => by
  rw [upd_ne (ne_of_none e h)]
  exact e
theorem Same.tup {K : PySem.W.Frag} {H H' : Hp} {a : Addr} {xs : List V} (e : Same H H') (h : SqT K H a xs) : SqT K H' a xs := by
  rcases h with (h | ⟨o, h⟩) | h
  · exact Or.inl (Or.inl (e _ _ h))
  · exact Or.inl (Or.inr ⟨o, e _ _ h⟩)
  · exact Or.inr h
mutual
theorem Dg.same {K : PySem.W.Frag} {H H' : Hp} (e : Same H H') : ∀ {v : V} {d : PyData}, Dg K H v d → Dg K H' v d
  | _, _, .non => .non
  | _, _, .bl b => .bl b
  | _, _, .int i => .int i
  | _, _, .str x => .str x
  | _, _, .lst n h a => .lst n (e.seq h) (DgAll.same e a)
  | _, _, .tup h a => .tup (Same.tup e h) (DgAll.same e a)
  | _, _, .dct h a => .dct (e _ _ h) (DgKv.same e a)
theorem DgAll.same {K : PySem.W.Frag} {H H' : Hp} (e : Same H H') : ∀ {v : List V} {d : List PyData}, DgAll K H v d → DgAll K H' v d
  | _, _, .nil => .nil
  | _, _, .cons a b => .cons (Dg.same e a) (DgAll.same e b)
theorem DgKv.same {K : PySem.W.Frag} {H H' : Hp} (e : Same H H') : ∀ {v : List (Key × V)} {d : List (PyData × PyData)}, DgKv K H v d → DgKv K H' v d
  | _, _, .nil => .nil
  | _, _, .cons a b => .cons (Dg.same e a) (DgKv.same e b)
end
mutual
theorem Dp.same {K : PySem.W.Frag} {H H' : Hp} (e : Same H H') : ∀ {v : V} {d : PyData}, Dp K H v d → Dp K H' v d
  | _, _, .non => .non
  | _, _, .bl b => .bl b
  | _, _, .int i => .int i
  | _, _, .str x => .str x
  | _, _, .lst h a => .lst (e.seq h) (DpAll.same e a)
  | _, _, .tup h a => .tup (Same.tup e h) (DpAll.same e a)
theorem DpAll.same {K : PySem.W.Frag} {H H' : Hp} (e : Same H H') : ∀ {v : List V} {d : List PyData}, DpAll K H v d → DpAll K H' v d
  | _, _, .nil => .nil
  | _, _, .cons a b => .cons (Dp.same e a) (DpAll.same e b)
end
/-! ### the kind of a value -/
def kindOf : PyData → String
  | .none => "NoneType"
  | .bool _ => "bool"
  | .int _ => "int"
  | .str _ => "str"
  | .list _ => "list"
  | .tuple _ => "tuple"
  | .dict _ => "dict"
theorem ty_list {K : PySem.W.Frag} {H : Hp} {a : Addr} {xs : List V} (h : SqL K H a xs) : TyX K H (.ref a) (.type "list") := by
  rcases h with (h | ⟨o, h⟩) | ⟨o, its, n, h, hc, _⟩
  · exact .base (.lst h)
  · exact .base (.frz h)
  · exact .kList h hc
theorem ty_tup {K : PySem.W.Frag} {H : Hp} {a : Addr} {xs : List V} (h : SqT K H a xs) : TyX K H (.ref a) (.type "tuple") := by
  rcases h with (h | ⟨o, h⟩) | ⟨o, its, n, h, hc, _⟩
  · exact .base (.tup h)
  · exact .fTuple h
  · exact .kTuple h hc
theorem Dg.ty {K : PySem.W.Frag} {H : Hp} {v : V} {d : PyData} (h : Dg K H v d) : TyX K H v (.type (kindOf d)) := by
  cases h with
  | non => exact .base .non
  | bl b => exact .base (.bl b)
  | int i => exact .base (.int i)
  | str x => exact .base (.str x)
  | lst _ h _ => exact ty_list h
  | tup h _ => exact ty_tup h
  | dct h _ => exact .base (.dK h)
theorem Dp.ty {K : PySem.W.Frag} {H : Hp} {v : V} {d : PyData} (h : Dp K H v d) : TyX K H v (.type (kindOf d)) := by
  cases h with
  | non => exact .base .non
  | bl b => exact .base (.bl b)
  | int i => exact .base (.int i)
  | str x => exact .base (.str x)
  | lst h _ => exact ty_list h
  | tup h _ => exact ty_tup h
/-- isinstance(x, T), T a built-in class -/
theorem isi_ty {K : PySem.W.Frag} {x : V} {a b : String} {r : Bool} {H : Hp} {Q : VK} (h : TyX K H x (.type a)) (e : kitB a b = some r) (q : Q (.bl r) H) :
    rIsi K [x, .ty b] H Q := ⟨x, .ty b, _, _, r, rfl, .ty b, h, kit_ty e, q⟩
theorem kit_known (a b : String) (ha : a ∈ ["NoneType", "bool", "int", "str", "list", "tuple", "dict"]) (hb : b ∈ ["str", "tuple", "list", "bool", "dict"]) :
    kitB a b = some (decide (a = b)) := by
  have h : (["NoneType", "bool", "int", "str", "list", "tuple", "dict"].all fun a => ["str", "tuple", "list", "bool", "dict"].all fun b =>
      decide (kitB a b = some (decide (a = b)))) = true := by decide +kernel
  have h1 := List.all_eq_true.mp h a ha
  have h2 := List.all_eq_true.mp h1 b hb
  exact of_decide_eq_true h2
theorem kind_in (d : PyData) : kindOf d ∈ ["NoneType", "bool", "int", "str", "list", "tuple", "dict"] := by
  cases d <;> simp [kindOf]
/-! ### comprehensions whose turns change nothing -/
theorem walk_rng {n : Nat} : Walk (Itr 0 n) n (fun _ => True) (YFn fun i => .int (i : Nat)) :=
  walk_range.mono (fun _ h => h) (fun i H x H' _ _ y => ⟨y.1, by rw [y.2]; show V.int (0 + (i : Int)) = V.int (i : Int); rw [Int.zero_add]⟩)
theorem lc_map {wi : TI} {J : It} {n : Nat} {G : Hp → Prop} {Y : Nat → Hp → V → Hp → Prop} (w : Walk J n G Y) {g : TG} {te : TE} {vs : List Nat} {σ : L2.St} {H0 : Hp} {Q : VK}
    (f : Nat → V) (hn : n ≤ 1000000) (hw : ∀ R : It → Hp → Prop, (∀ H, Same H0 H → G H → R J H) → wi σ H0 R) (hG : ∀ H H', Same H0 H → G H → Same H H' → G H')
    (hs : ∀ i x H H' (R : V → Hp → Prop), i < n → Same H0 H → Y i H x H' → (∀ H4, Same H H4 → R (f i) H4) →
      g x (wipe σ vs) H' fun σ2 H2 => wipe σ2 vs = wipe σ vs ∧ te σ2 H2 R)
    (hd : ∀ D H', H0 D = none → Same H0 H' → H' D = some (.lst ((List.range n).map f)) → Q (.ref D) H') : tLc wi g tYes te vs σ H0 Q := by
  refine hw _ (fun H sm0 hg0 D hD => ?_)
  have hD0 := sm0.free hD
  let Nx : Nat → Hp → Prop := fun i H' => Same H H' ∧ H' D = some (.lst ((List.range i).map f))
  refine ⟨fun i m H' => m = n - i ∧ i ≤ n ∧ Nx i H', ⟨n, by simp, Nat.zero_le _, same_new hD, upd_same⟩, ?_⟩
  rintro i m H' ⟨rfl, hi, sm, hl⟩
  have hg := hG H H' sm0 hg0 sm
  have sm' := sm0.trans sm
  by_cases hlt : i < n
  · refine Or.inr ⟨w.goes i H' hlt hg, Nx (i + 1), fun H'' p => ⟨n - (i + 1), by omega, rfl, hlt, p⟩, fun x H'' y => ?_⟩
    refine hs i x H' H'' _ hlt sm' (w.yields i H' x H'' hlt hg y) (fun H4 s4 => ?_)
    refine ⟨_, s4 D _ hl, ?_, fun b o e => ?_, ?_⟩
    · rw [List.length_map, List.length_range]
      exact Nat.lt_of_lt_of_le (Nat.lt_of_lt_of_le hlt hn) (by decide)
    · rw [upd_ne (ne_of_none e hD)]
      exact s4 b o (sm b o e)
    · rw [upd_same, List.range_succ, List.map_append]
      rfl
  · have e : i = n := by omega
    subst e
    exact Or.inl ⟨w.stops H' hg, hd D H' hD0 sm' hl⟩
end Mq

namespace Mq
open PySem PySem.Spec PyProof.Rows L2
/-! ### enumerate(v), v a tuple -/
theorem meets_enumT (l : Addr) (items : Array Value) :
    Meets (Builtin.«enumerate.__new__» ⟨[.type "enumerate", .ref l], []⟩) (fun _ R s => s.heap.IsTuple l items ∧
      R (.ok (.ret (.ref (s.heap.push { cls := .type "tuple_iterator", data := .fields #[.ref l, .int 0 0] }).objs.size)))
        { s with heap := (s.heap.push { cls := .type "tuple_iterator", data := .fields #[.ref l, .int 0 0] }).push { cls := .type "enumerate", data := .fields #[.none, .bool false, .ref s.heap.objs.size, rawInt 0, .none, .none] } }) :=
  .of_wp fun prog w A R s h => by
    obtain ⟨hp, g, d, tk, os⟩ := s; obtain ⟨hl, h⟩ := h
    have hsub := sub_enumerate
    have hL : Heap.IsTuple (Shared.heap ⟨hp, g, d, tk, os⟩) l items := hl
    obtain ⟨o, ho, _⟩ := id hl
    wp_walk using AutoSeq1.wpAny_loadPart' ho
    refine wpAny_stack_any fun st => wpAny_pure ?_
    split
    · rename_i c _ _ _ _ _
      cases (c == Value.type "enumerate")
      · wp_walk using AutoSeq1.wpAny_loadPart' ho, wpAny_pyIter_tuple hL
        exact ⟨_, rfl, h⟩
      · wp_walk using AutoSeq1.wpAny_loadPart' ho, wpAny_pyIter_tuple hL
        exact ⟨_, rfl, h⟩
    · wp_walk using AutoSeq1.wpAny_loadPart' ho, wpAny_pyIter_tuple hL
      exact ⟨_, rfl, h⟩
theorem call_enumT {prog : Program} {w : World} {A : Around} {E : Value → Shared → Prop} {s : Shared} {l : Addr} {items : Array Value} {Q : Value → Shared → Prop} (hL : s.heap.IsTuple l items)
    (h : ∀ h', IsEnum h' (s.heap.objs.size + 1) s.heap.objs.size 0 .none → h'.IsTupleIter s.heap.objs.size l 0 → h'.objs.size = s.heap.objs.size + 2 →
      (∀ b o, s.heap.get? b = some o → h'.get? b = some o) → Q (.ref (s.heap.objs.size + 1)) { s with heap := h' }) :
    wpAny (model prog w) A (call (.type "enumerate") [.ref l]) Q E s := by
  refine callType_new F.called_enumerate (by decide) (F.typeCall_enumerate_1 _) (F.newCall_enumerate_1 _) (fun obj => F.args_object_init_2 obj _) F.entry_enumerate_new
    (meets_enumT l items) ⟨hL, ?_⟩
  have hz : (s.heap.push { cls := .type "tuple_iterator", data := .fields #[.ref l, .int 0 0] }).objs.size = s.heap.objs.size + 1 := Heap.size_push ..
  show _ ∧ _
  rw [hz]
  have he : IsEnum ((s.heap.push { cls := .type "tuple_iterator", data := .fields #[.ref l, .int 0 0] }).push
      { cls := .type "enumerate", data := .fields #[.none, .bool false, .ref s.heap.objs.size, rawInt 0, .none, .none] }) (s.heap.objs.size + 1) s.heap.objs.size 0 .none := by
    have := Heap.get?_push_size (s.heap.push { cls := .type "tuple_iterator", data := .fields #[.ref l, .int 0 0] })
      (o := { cls := .type "enumerate", data := .fields #[.none, .bool false, .ref s.heap.objs.size, rawInt 0, .none, .none] }) rfl
    rw [hz] at this; exact this
  refine ⟨⟨_, he, rfl⟩, h _ he ⟨_, Heap.get?_push_of_some _ (Heap.get?_push_size _ rfl), rfl, rfl⟩ (by rw [Heap.size_push, hz]) fun b o x => Heap.get?_push_of_some _ (Heap.get?_push_of_some _ x)⟩
/-- the tuple at a, each item in a new pair -/
def Iee (K : PySem.W.Frag) (a : Addr) : It :=
  ⟨fun i H => ∃ (xs : List V) (x : V), SqT K H a xs ∧ xs[i]? = some x, fun i H v H' => ∃ T x, v = .ref T ∧ H T = none ∧ H' = upd H T (.tup [.int (i : Nat), x]) ∧ ∀ xs, SqT K H a xs → xs[i]? = some x, fun i H => ∃ xs : List V, SqT K H a xs ∧ xs.length ≤ i⟩
theorem turn_enumT {P : Program} {w : World} {K : PySem.W.Frag} {elts : List Expr} {kk : Nat} {tpos : Pos} (a e it : Addr) (ha : a ≠ it) (hae : a ≠ e) :
    Turn P w K (.Tuple elts kk tpos) (Iee K a) [e, it] e (fun i h => (∃ old, IsEnum h e it ((i : Nat) : Int) old) ∧ h.IsTupleIter it a i ∧ e ≠ it) where
  mem := by simp
  obj := fun i h st b hb => by
    obtain ⟨⟨old, he⟩, ⟨o, ho, hc, hd⟩, _⟩ := st
    have e' : b = e ∨ b = it := by simpa using hb
    rcases e' with z | z
    · rw [z]; exact ⟨_, he, fun v q => nomatch q⟩
    · rw [z]; exact ⟨o, ho, fun v q => by rw [hd] at q; cases q⟩
  keep := fun i h h' st k => let ⟨⟨old, he⟩, hi, hne⟩ := st; ⟨⟨old, k e (by simp) _ he⟩, hi.at fun o q => k it (by simp) o q, hne⟩
  item := by
    intro X hP hw hK hc i pins s σ H E I hf st hg
    subst hP hw hK
    obtain ⟨⟨old, he⟩, hit, hne⟩ := st
    obtain ⟨xs, x, hq, hx⟩ := hg
    obtain ⟨its, rv, p, hz⟩ := I.tuple hq
    obtain ⟨u, hu, ru⟩ := rv.get hx
    have hel : e < s.heap.objs.size := Heap.lt_size he
    have hil : it < s.heap.objs.size := by obtain ⟨_, q, _⟩ := hit; exact Heap.lt_size q
    have hp : s.heap.IsTuple a its.toArray := p
    have hu' : its.toArray[i]? = some u := by simpa using hu
    have hlt : i < its.toArray.size := by
      rw [List.size_toArray]
      rcases Nat.lt_or_ge i its.length with h | h
      · exact h
      · rw [List.getElem?_eq_none h] at hu
        cases hu
    refine wpAny_pyNext_enum_itemD (n := its.toArray.size) (Draws.tuple (show X.A.in1.handled = none from I.ok.hd hc) it a ha its.toArray) he ⟨hit, hp⟩ hlt hne (by simp only [List.mem_cons, List.not_mem_nil, or_false, not_or]; exact ⟨hne, fun z => hae z.symm⟩) fun x' h' tk hP' ho hst' hT hsz hk => ?_
    have ex : x' = u := by
      have h1 : some x' = some u := by rw [← hP', hu']
      exact Option.some.inj h1
    subst ex
    refine ⟨_, rfl, wpAny_letOwnedTupleGo_enum (s := { s with heap := h', toks := tk + 1 }) ho fun h'' he' sb => ?_⟩
    have hT2 : h''.get? s.heap.objs.size = some { cls := .type "tuple", data := .seq #[.int i tk, x'] } := (sb.2 _ (Nat.ne_of_gt hel)).trans hT
    have new : ObjOk X.prog X.w (upd H s.heap.objs.size (.tup [.int (i : Nat), x])) h'' s.heap.objs.size (.tup [.int (i : Nat), x]) :=
      ⟨by show 2 ≤ sizeLine; decide, [.int i tk, x'], .cons ⟨_, rfl⟩ (.cons ru .nil), ⟨_, hT2, rfl, _, rfl⟩⟩
    have I1 : Inv X pins σ (upd H s.heap.objs.size (.tup [.int (i : Nat), x])) { s with heap := h'', toks := tk + 1 } :=
      I.turnedNew (ch := [e, it]) (fun b ob hb q => (sb.2 b (fun z => hb (by simp [z]))).trans (hk b ob (fun z => hb (by simp [z])) (fun z => hb (by simp [z])) q)) hf (Nat.le_refl _) new
    refine ⟨.ref s.heap.objs.size, _, I1, rfl, ⟨_, x, rfl, I.hok.fresh (Nat.le_refl _), rfl, fun ys hy => by rw [I.tuple_inj hy hq]; exact hx⟩, ⟨⟨x', ?_⟩, hst'.1.at fun o q => (sb.2 it (Ne.symm hne)).trans q, hne⟩, fun b hb => ?_⟩
    · have e1 : ((i + 1 : Nat) : Int) = (i : Int) + 1 := by omega
      rw [e1]; exact he'
    · have hb' : b < s.heap.objs.size := by
        have e' : b = e ∨ b = it := by simpa using hb
        rcases e' with z | z
        · rw [z]; exact hel
        · rw [z]; exact hil
      rw [upd_ne (Nat.ne_of_lt hb')]
      exact (hf b hb).1
  done := by
    intro X hP hw hK hc i pins s σ H E I hf st hg
    subst hP hw hK
    obtain ⟨⟨old, he⟩, hit, hne⟩ := st
    obtain ⟨xs, hq, hx⟩ := hg
    obtain ⟨its, rv, p, hz⟩ := I.tuple hq
    obtain ⟨f0, f1, f2, f3, f4, f5⟩ := hf it (by simp)
    have hl := rv.length
    have hp : s.heap.IsTuple a its.toArray := p
    have D : Draws X.prog X.w X.A.in1 it [it, a] i (fun _ _ => False) (fun j h => j = i ∧ h.IsTupleIter it a i ∧ h.IsTuple a its.toArray) :=
      { live := fun _ _ st => let ⟨o, ho, _⟩ := st.2.1; ⟨o, ho⟩
        frame := fun _ _ _ st hk => ⟨st.1, st.2.1.at fun o e => hk it (by simp) o e, st.2.2.at fun o e => hk a (by simp) o e⟩
        item := fun j s Q E hi st hQ => absurd hi (by rw [st.1]; exact Nat.lt_irrefl i)
        done := fun s Q E st hE => wpAny_nextOf_tuple_end (show X.A.in1.handled = none from I.ok.hd hc) st.2.1 st.2.2 (by simp; omega) hE }
    exact wpAny_pyNext_enum_endD D he ⟨rfl, hit, hp⟩ fun h' eb => ⟨rfl, I.turned (t' := s.toks) (fun b o hb q => eb b o hb q) f0 f1 f3 f4 f5⟩
  self := fun A i s Q E st h => let ⟨⟨_, he⟩, _⟩ := st; wpAny_pyIter_enum he h
def iEnumT (K : PySem.W.Frag) (ta : TA) : TI := fun σ H R => ta σ H fun vs H1 => ∃ a xs, vs = [.ref a] ∧ SqT K H1 a xs ∧ R (Iee K a) H1
theorem pi_enumT {X : Cx} {e : Expr} {ta : TA} {p pos tpos : Pos} {elts : List Expr} {kk : Nat} (hg : Gl X "enumerate") (hm : X.mg "enumerate" = none) (ha : PA X [e] ta) (hs : starEach [e] X.env = [(false, eval e X.env)] := by rfl) :
    PI X (.Tuple elts kk tpos) (.Call (.Name "enumerate" p) [e] [] pos) (iEnumT X.K ta) := by
  refine ⟨fun pins s σ H R I h => ?_⟩
  refine Call_ (ld_blt I hg hm boot_enumerate (PyProof.Rows.callWith_type1 (thn (ha.run pos pins s σ H _ I h) fun us s1 ⟨vs, H1, I1, r1, q1⟩ => ?_) hs rfl))
  obtain ⟨a, xs, ex, hq, q⟩ := q1
  subst ex
  cases r1 with
  | cons r rr =>
    cases rr
    cases r
    obtain ⟨its, rv, p', hz⟩ := I1.tuple hq
    have hp : s1.heap.IsTuple a its.toArray := p'
    have hal : a < s1.heap.objs.size := by obtain ⟨_, q, _⟩ := hp; exact Heap.lt_size q
    refine call_enumT hp fun h' he hit hsz hk => wpAny_pyIter_enum he ?_
    have I2 : Inv X pins σ H1 { s1 with heap := h' } := I1.kept (t' := s1.toks) hk
    refine ⟨s1.heap.objs.size + 1, [s1.heap.objs.size + 1, s1.heap.objs.size], _, _, H1, rfl, I2, turn_enumT a (s1.heap.objs.size + 1) s1.heap.objs.size (Nat.ne_of_lt hal) (Nat.ne_of_lt (Nat.lt_succ_of_lt hal)), ⟨⟨.none, he⟩, hit, Nat.succ_ne_self _⟩, fun b hb => ?_, q⟩
    have e' : b = s1.heap.objs.size + 1 ∨ b = s1.heap.objs.size := by simpa using hb
    have hle : s1.heap.objs.size ≤ b := by
      rcases e' with z | z
      · rw [z]; exact Nat.le_add_right _ _
      · rw [z]; exact Nat.le_refl _
    exact I1.fpOk hle (I1.hok.fresh hle)
/-- the same, where what is walked is laid on the way -/
theorem lc_mapJ {wi : TI} {n : Nat} {Y : Nat → Hp → V → Hp → Prop} {g : TG} {te : TE} {vs : List Nat} {σ : L2.St} {H0 : Hp} {Q : VK}
    (f : Nat → V) (hn : n ≤ 1000000) (hw : ∀ R : It → Hp → Prop, (∀ (J : It) (G : Hp → Prop) (H : Hp), Walk J n G Y → (∀ H', G H → Same H H' → G H') → Same H0 H → G H → R J H) → wi σ H0 R)
    (hs : ∀ i x H H' (R : V → Hp → Prop), i < n → Same H0 H → Y i H x H' → (∀ H4, Same H H4 → R (f i) H4) →
      g x (wipe σ vs) H' fun σ2 H2 => wipe σ2 vs = wipe σ vs ∧ te σ2 H2 R)
    (hd : ∀ D H', H0 D = none → Same H0 H' → H' D = some (.lst ((List.range n).map f)) → Q (.ref D) H') : tLc wi g tYes te vs σ H0 Q := by
  refine hw _ (fun J G H w hG sm0 hg0 D hD => ?_)
  have hD0 := sm0.free hD
  let Nx : Nat → Hp → Prop := fun i H' => Same H H' ∧ H' D = some (.lst ((List.range i).map f))
  refine ⟨fun i m H' => m = n - i ∧ i ≤ n ∧ Nx i H', ⟨n, by simp, Nat.zero_le _, same_new hD, upd_same⟩, ?_⟩
  rintro i m H' ⟨rfl, hi, sm, hl⟩
  have hg := hG H' hg0 sm
  have sm' := sm0.trans sm
  by_cases hlt : i < n
  · refine Or.inr ⟨w.goes i H' hlt hg, Nx (i + 1), fun H'' p => ⟨n - (i + 1), by omega, rfl, hlt, p⟩, fun x H'' y => ?_⟩
    refine hs i x H' H'' _ hlt sm' (w.yields i H' x H'' hlt hg y) (fun H4 s4 => ?_)
    refine ⟨_, s4 D _ hl, ?_, fun b o e => ?_, ?_⟩
    · rw [List.length_map, List.length_range]
      exact Nat.lt_of_lt_of_le (Nat.lt_of_lt_of_le hlt hn) (by decide)
    · rw [upd_ne (ne_of_none e hD)]
      exact s4 b o (sm b o e)
    · rw [upd_same, List.range_succ, List.map_append]
      rfl
  · have e : i = n := by omega
    subst e
    exact Or.inl ⟨w.stops H' hg, hd D H' hD0 sm' hl⟩
end Mq

namespace Mq
open PySem PySem.Spec PyProof.Rows L2
/-- a comprehension without a test over what w walks -/
theorem lc_yes {J : It} {n : Nat} {G : Hp → Prop} {Y : Nat → Hp → V → Hp → Prop} (w : Walk J n G Y) {g : TG} {te : TE} {vs : List Nat} {σ : L2.St} {H1 : Hp} {D : Addr} {Qd : Hp → Prop} (Pv : Nat → Hp → Prop)
    (h0 : Pv 0 (upd H1 D (.lst []))) (hG : ∀ i H, i ≤ n → Pv i H → G H)
    (hs : ∀ i x H H', i < n → Pv i H → Y i H x H' → g x (wipe σ vs) H' fun σ2 H2 => wipe σ2 vs = wipe σ vs ∧ te σ2 H2 fun y H4 => ∃ acc, H4 D = some (.lst acc) ∧ acc.length < sizeLine ∧ Pv (i + 1) (upd H4 D (.lst (acc ++ [y]))))
    (hd : ∀ H, Pv n H → Qd H) :
    ∃ W : Nat → Nat → Hp → Prop, (∃ m, W 0 m (upd H1 D (.lst []))) ∧ ∀ i m H, W i m H →
      (J.stop i H ∧ Qd H) ∨ (J.go i H ∧ ∃ Nx : Hp → Prop, (∀ H', Nx H' → ∃ m', m' < m ∧ W (i + 1) m' H') ∧ ∀ x H', J.yld i H x H' → g x (wipe σ vs) H' fun σ2 H2 => wipe σ2 vs = wipe σ vs ∧ tYes σ2 H2 fun b H3 =>
        if b = true then te σ2 H3 fun y H4 => ∃ acc, H4 D = some (.lst acc) ∧ acc.length < sizeLine ∧ Nx (upd H4 D (.lst (acc ++ [y]))) else Nx H3) :=
  lc_it (tt := tYes) w Pv h0 hG hs hd
end Mq

namespace Mq
open PySem PySem.Spec PyProof.Rows L2
/-- isinstance(e, c), the held error's class being told among the values -/
theorem call_heldX {X : Cx} {a D : Addr} {oe : Obj} {cls : Value} {d : Option Addr} {pn : List (Addr × Obj)} (C : HeldC X.K D) (hz : Zc cls d oe)
    (hf : ∃ vs, oe.data = .fields vs) : CallR (X.suite a ((a, oe) :: pn)) (.builtin "isinstance") (fun xs H Q => cls = .ref D ∧ rHeld X.K D a d xs H Q) := by
  intro pins s σ H xs us Q I r h
  obtain ⟨rfl, h⟩ := h
  exact call_held C hz hf pins s σ H xs us Q I r h
/-! ### lists whose items are equal, told by != and == -/
theorem op_neFl {X : Cx} (hu : X.A.units + 64 < cLine) : OpR X (compareOp .NotEq) (fun x y H Q => ∃ a b xs, x = .ref a ∧ y = .ref b ∧ SqL X.K H a xs ∧ SqL X.K H b xs ∧ (∀ v ∈ xs, flatB v = true) ∧ Q (.bl false) H) := by
  intro pins s σ H x y v u Q I rx ry h
  obtain ⟨a, b, xs, rfl, rfl, ha, hb, hf, q⟩ := h
  cases (show v = Value.ref a from rx)
  cases (show u = Value.ref b from ry)
  obtain ⟨us, r1, p1, _⟩ := I.list ha
  obtain ⟨ws, r2, p2, _⟩ := I.list hb
  have hsz : us.toArray.size = ws.toArray.size := by
    rw [List.size_toArray, List.size_toArray, ← r1.length, ← r2.length]
  have he : ∀ j (h1 : j < us.toArray.size) (h2 : j < ws.toArray.size), SeqAt.EqAt X.A.in1 s us.toArray[j] ws.toArray[j] true := by
    intro j h1 h2
    have h1' : j < us.length := by simpa using h1
    have h2' : j < ws.length := by simpa using h2
    have e1 : xs.length = us.length := r1.length
    obtain ⟨u1, g1, k1⟩ := r1.get (i := j) (x := xs[j]'(by omega)) (List.getElem?_eq_getElem (by omega))
    obtain ⟨u2, g2, k2⟩ := r2.get (i := j) (x := xs[j]'(by omega)) (List.getElem?_eq_getElem (by omega))
    rw [List.getElem?_eq_getElem h1'] at g1
    rw [List.getElem?_eq_getElem h2'] at g2
    have k := eqAt_same (A := X.A.in1) (s := s) k1 k2 (hf _ (List.getElem_mem _))
    cases g1
    cases g2
    simpa using k
  have k := SeqAt.RcNeAt.lists (A := X.A) (s := s) (e := fun _ => true) p1.isList p2.isList hsz (by omega) he
  have z : (!(List.range us.toArray.size).all fun _ => true) = false := by rw [show ((List.range us.toArray.size).all fun _ => true) = true from List.all_eq_true.mpr fun _ _ => rfl]; rfl
  rw [z] at k
  exact k X.prog X.w _ _ ⟨.bl false, H, I, rfl, q⟩
/-- list(v), v a tuple: the new list is told to stand elsewhere than the modules -/
theorem call_lsN {X : Cx} : CallR X (.type "list") (fun xs H Q => ∃ p ys, xs = [.ref p] ∧ SqT X.K H p ys ∧ ∀ l, H l = none → l ≠ sysModules → Q (.ref l) (upd H l (.lst ys))) := by
  intro pins s σ H xs us Q I r hw
  obtain ⟨t, ys, rfl, ht, k⟩ := hw
  cases r with
  | cons r0 rr =>
    cases rr
    cases r0
    obtain ⟨its, rv, pl, hz⟩ := I.tuple ht
    have hlen := rv.length
    obtain ⟨o, ho, hc, n, hd⟩ := pl
    refine call_list_seq t (.inr rfl) ho hc hd (fun h2 c2 kp e => ?_) (by rw [List.size_toArray]; omega)
    have new : ObjOk X.prog X.w (upd H s.heap.objs.size (.lst ys)) h2 s.heap.objs.size (.lst ys) := ⟨hz, its, c2, rv, e⟩
    refine ⟨.ref _, upd H s.heap.objs.size (.lst ys), ?_, rfl, ?_⟩
    · exact I.laid (t' := s.toks) kp (Nat.le_refl _) new
    · exact k _ (I.hok.fresh (Nat.le_refl _)) (Nat.ne_of_gt (Inv.low I))
/-! ### how long what is shown can be -/
theorem small_short : ∀ n : Nat, n ≤ 1000 → (PyData.int (n : Nat)).shown.length ≤ 13 ∧ (PyData.int (n : Nat)).showable = true ∧ (PyData.int (n : Nat)).weight ≤ 20 := by
  have h : ((List.range 1001).all fun n => decide ((PyData.int (n : Nat)).shown.length ≤ 13) && ((PyData.int (n : Nat)).showable && decide ((PyData.int (n : Nat)).weight ≤ 20))) = true := by decide +kernel
  intro n hn
  have h1 := List.all_eq_true.mp h n (List.mem_range.mpr (by omega))
  obtain ⟨a, b⟩ := Bool.and_eq_true_iff.mp h1
  obtain ⟨b, c⟩ := Bool.and_eq_true_iff.mp b
  exact ⟨of_decide_eq_true a, b, of_decide_eq_true c⟩
theorem shown_fits {d : PyData} (h1 : d.canLay0 = true) (h2 : d.depth ≤ 64) (h3 : d.weight ≤ 1000000) (h4 : d.intsShort 13 = true) : d.shown.length ≤ sizeLine := by
  have h5 : d.weight ≤ 2 ^ 20 := Nat.le_trans h3 (by decide)
  have hl : PyData.layable0 d = true := by
    unfold PyData.layable0
    rw [h1, decide_eq_true h2, decide_eq_true h5]
    rfl
  exact Nat.le_trans (PyProof.Rows.shown_le13 hl h4) (by decide)
end Mq

namespace Mq
open PySem PySem.Spec PyProof.Rows L2
/-! ### a text, so many times -/
def repS (x : Str) (n : Nat) : Str := ⟨(List.replicate n x.cps).foldl (· ++ ·) #[]⟩
theorem op_mulS {X : Cx} : OpR X (binaryOp .Mult) (fun x y H Q => ∃ (z : Str) (n : Nat), x = .str z ∧ y = .int (n : Nat) ∧ 2 ≤ n ∧ n ≤ 1000 ∧ 1 ≤ z.length ∧ z.length ≤ 1000 ∧ (repS z n).length ≤ sizeLine ∧ Q (.str (repS z n)) H) := by
  intro pins s σ H x y v u Q I rx ry h
  obtain ⟨z, n, rfl, rfl, h1, h2, h3, h4, h5, q⟩ := h
  obtain ⟨t, rfl⟩ := rx
  obtain ⟨t', rfl⟩ := ry
  have hm : z.length * n ≤ 1000 * 1000 := Nat.mul_le_mul h4 h2
  have e1 : decide (((n : Nat) : Int) < -(2 ^ 63 : Int)) = false := decide_eq_false (by omega)
  have e2 : decide (((n : Nat) : Int) ≥ 2 ^ 63) = false := decide_eq_false (by omega)
  have e3 : (((n : Nat) : Int) == 1) = false := by
    rw [beq_eq_false_iff_ne]
    omega
  have e4 : (z.length == 0) = false := by
    rw [beq_eq_false_iff_ne]
    omega
  refine P.mul_str (by rw [e1, e2]; rfl) (fun _ _ => ?_) (fun _ _ => ?_) ?_
  · have hd : (1000 : Int) ≤ (2 ^ 63 - 1) / ((n : Nat) : Int) := by
      refine (Int.le_ediv_iff_mul_le (by omega)).mpr ?_
      omega
    omega
  · rw [Int.toNat_natCast]
    unfold Builtin.Str.tooLong
    exact decide_eq_false (by have : (1000 * 1000 : Nat) ≤ sizeLine := by decide
                              omega)
  · rw [if_neg (show ¬ ((n : Nat) : Int) < 1 by omega), e3, e4]
    exact ⟨h5, .str (repS z n), H, I.tok _, ⟨_, rfl⟩, q⟩
end Mq


namespace MqE_thing
open PySem PySem.Spec PyProof.Rows L2 Mq PySem.W PySem.Calls
/-! ### errors whose one parameter is thing -/
def iA (p1 p2 : Pos) : Arguments := { posonlyargs := [], args := [{ arg := "self", annotation := none, pos := p1 }, { arg := "thing", annotation := none, pos := p2 }], vararg := none, kwonlyargs := [], kw_defaults := [], kwarg := none, defaults := [] }
def iB (q1 q2 q3 q4 : Pos) : List Stmt := [.Assign [.Attribute (.Name "self" q1) "thing" q2] (.Name "thing" q3) q4]
def iS : Scope := { kind := .function, names := [(PySem.Str.ofString "self", .local), (PySem.Str.ofString "thing", .local)], isGenerator := false, isCoroutine := false, more := [] }
/-- what the written part says of the class x at C, and of its __init__ at fI -/
structure Txt (K : Frag) (mg : Str → Option Value) (x qual : Str) (C fI : Addr) : Prop where
  gC : mg x = some (.ref C)
  kC : keepIn K (.ref C) = true
  ex : excInitIn K C exTail "Exception.__new__" = true
  ov : excOver K C exTail = true
  hdC : hasDictIn K C = true
  tk : takerIn K C "thing" = some none
  sa : findIn K (.ref C) "__setattr__" = some (some (.builtin "object.__setattr__"))
  iC : findIn K (.ref C) "__init__" = some (some (.ref fI))
  tC : typeIn K (.ref fI) = some (.type "function")
  exC : subIn K (.ref C) (.type "BaseException") = some true
  tyC : typeIn K (.ref C) = some (.type "type")
  fn : ∃ (oc : Value) (od : Option Addr) (doc pm : Value) (an : Option Addr) (cdv ct : Value) (osl : Array (Option Value)) (p1 p2 q1 q2 q3 q4 : Pos),
    K.lookup fI = some ⟨oc, od, .func (fnOf "__init__" qual (iA p1 p2) (iB q1 q2 q3 q4) iS .none .none doc pm an cdv ct), osl⟩ ∧ codeIn K cdv qual = true
theorem ld_loc {M : Model} {s : Shared} {name : Str} {scope : Scope} {L a : Addr} {cd : Value} {m : Str → Option Value} {y : Str} {pos : Pos} {v : Value}
    {Q : Value → Shared → Prop} {A : Around} {E : Value → Shared → Prop} (hn : s.heap.Ns L m) (hv : m y = some v) (h : Q v s)
    (hk : scope.kind = .function := by rfl) (hl : (envOfC name scope L a cd).kindOf y = some .local := by rfl) (hd : (y == ("__debug__" : Str)) = false := by decide) :
    wpAny M A (eval (.Name y pos) (envOfC name scope L a cd)) Q E s := wpAny_Name (wpAny_loadName_local hk hl hn hv h) hd
/-- what __init__ leaves of a new error at e -/
structure Filled (h h' : Heap) (e C dx t1 : Addr) (v : Value) : Prop where
  keep : ∀ b o, b ≠ e → h.get? b = some o → h'.get? b = some o
  obj : h'.get? e = some (excObj C t1 (some dx) .none)
  big : h.objs.size ≤ dx
  ne : dx ≠ e
  ns : h'.Ns1 dx (fun y => if y = "thing" then some v else none)
/-- a made error -/
structure Made (h h' : Heap) (e C d : Addr) (v : Value) : Prop where
  keep : ∀ b o, h.get? b = some o → h'.get? b = some o
  new : h.objs.size ≤ e
  obj : ∃ oe vs, h'.get? e = some oe ∧ oe.cls = .ref C ∧ oe.dict = some d ∧ oe.data = .fields vs ∧ vs[1]? = some .none
  big : h.objs.size ≤ d
  ne : d ≠ e
  ns : h'.Ns1 d (fun y => if y = "thing" then some v else none)
section
variable {prog : Program} {w : World} {A : Around} {E : Value → Shared → Prop} {R : Result → Shared → Prop} {s : Shared} {K : Frag} {mg : Str → Option Value} {x qual : Str} {C fI : Addr}
theorem init_run (T : Txt K mg x qual C fI) {e t0 : Addr} {v : Value} (X : K.In s.heap) (lim : s.heap.NoLimit) (he : s.heap.get? e = some (excObj C t0 none .none)) (room : A.depth < recursionLimit)
    (hq : ∀ h' tk dx, Filled s.heap h' e C dx t0 v → R (.ok (.ret .none)) { s with heap := h', toks := tk }) :
    codeAny (model prog w) A (.call (.ref fI) ⟨[.ref e, v], []⟩) R s := by
  obtain ⟨oc, od, doc, pm, an, cdv, ct, osl, p1, p2, q1, q2, q3, q4, ho, hcd⟩ := T.fn
  refine Att.call_fn (binds := [("self", .ref e), ("thing", v)]) X lim ho hcd room (BindsTo.of_eq (by first | rfl | with_unfolding_all rfl)) (by first | rfl | decide | with_unfolding_all rfl) (fun s₁ IC => ?_) rfl rfl rfl
  obtain ⟨h₁, tk₁, rfl⟩ := IC.toInCall.same
  have k : ∀ b o, s.heap.get? b = some o → h₁.get? b = some o := IC.toInCall.keep
  have hn := IC.toInCall.ns
  have X₁ : K.In h₁ := X.keeps k
  have he₁ := k _ _ he
  show wpAny _ _ (execs _ _) _ _ _
  refine wpAny_execs_cons (plainObj_wpAny_Assign_Attribute ?_)
  refine ld_loc (v := v) hn (by first | rfl | with_unfolding_all rfl | kernel_rfl) (ld_loc (v := .ref e) hn (by first | rfl | with_unfolding_all rfl | kernel_rfl) ?_)
  refine set_plain X₁ (ox := excObj C t0 none .none) (od := none) ⟨he₁, rfl, rfl, trivial⟩ T.sa ?_
  refine osa_first X₁ he₁ T.ov T.hdC T.tk (fun h₃ tk₃ dx k₃ dn dne he₃ hn₃ => ?_)
  show wpAny _ _ (execs _ _) _ _ _
  have z : s.heap.objs.size < h₁.objs.size := hn.lt
  exact wpAny_execs_nil (hq h₃ tk₃ dx ⟨fun b o hb e => k₃ b o hb (k b o e), he₃, Nat.le_of_lt (Nat.lt_of_lt_of_le z dn), dne, hn₃⟩)
theorem made_run (T : Txt K mg x qual C fI) {v : Value} (X : K.In s.heap) (lim : s.heap.NoLimit) (room : A.depth + 1 < recursionLimit)
    (hq : ∀ h' tk e d, Made s.heap h' e C d v → R (.ok (.ret (.ref e))) { s with heap := h', toks := tk }) :
    codeAny (model prog w) A (.call (.ref C) ⟨[v], []⟩) R s := by
  obtain ⟨nm, N, qn, bs, bm, hdct, sn, sub, ab, col, dd, k0, k1, k2, k3, k5, hC, hT⟩ := excInit_of X T.ex
  obtain ⟨hp, g, dr, tk, os⟩ := s
  have k : ∀ b o, hp.get? b = some o → ((hp.push (kdv_tup [v])).push (HandSPX.excO C hp.objs.size)).get? b = some o := fun b o e => Heap.get?_push_of_some _ (Heap.get?_push_of_some _ e)
  have hget : ((hp.push (kdv_tup [v])).push (HandSPX.excO C hp.objs.size)).get? (hp.objs.size + 1) = some (excObj C hp.objs.size none .none) := by heap_get
  refine HandSPX.call_own F.excBase_Exception hT hC (looks_findIn X T.iC) (fun self => bind_fn X self T.tC) (by rw [sizeLine_eq]; exact (by decide : 1 ≤ 16777216)) ?_
  refine init_run (s := ⟨(hp.push (kdv_tup [v])).push (HandSPX.excO C hp.objs.size), g, dr, tk, os⟩) T (X.keeps k) (lim.keeps k) hget ?_ (fun h' tk' dx M => ?_)
  · show A.depth + 1 < recursionLimit
    exact room
  · obtain ⟨k', hx, dn, dne, hns⟩ := M
    have old : ∀ b o, hp.get? b = some o → h'.get? b = some o := fun b o e => k' b o (Nat.ne_of_lt (Nat.lt_succ_of_lt (Heap.lt_size e))) (k b o e)
    have z : hp.objs.size + 1 + 1 ≤ dx := by
      have q := dn
      rw [Heap.size_push, Heap.size_push] at q
      exact q
    exact ⟨rfl, hq h' tk' (hp.objs.size + 1) dx ⟨old, Nat.le_succ _, ⟨_, _, hx, rfl, rfl, rfl, rfl⟩, Nat.le_trans (Nat.le_trans (Nat.le_succ _) (Nat.le_succ _)) z, dne, hns⟩⟩
end
theorem relO_f {v : V} {v' : Value} (r : RelV v v') (f : Str) : RelO (List.lookup f [(("thing" : Str), v)]) (if f = "thing" then some v' else none) := by
  by_cases hw : f = "thing"
  · subst hw
    rw [if_pos rfl]
    have q : List.lookup ("thing" : Str) [(("thing" : Str), v)] = some v := by simp [List.lookup]
    rw [q]
    exact r
  · rw [if_neg hw]
    have qw : (f == ("thing" : Str)) = false := by simpa using hw
    have q2 : List.lookup f [(("thing" : Str), v)] = none := by simp [List.lookup, qw]
    rw [q2]
    trivial
section
variable {X : Cx} {C fI : Addr} {x qual : Str}
/-- x(e) -/
def tMk (C : Addr) (ta : TA) : L2.St → Hp → XK → Prop := fun σ H Q => ta σ H fun vs H1 => ∃ v, vs = [v] ∧ ∀ d, H1 d = none → Q (.ref C) (some d) (upd H1 d (.xd [(("thing" : Str), v)]))
theorem pmk {a : Expr} {ta : TA} {p pos : Pos} {k : Nat} (T : Txt X.K X.mg x qual C fI) (hr : Room k X.A) (ha : PA X [a] ta) (hg : Gl X x := by rfl) (hdb : (x == ("__debug__" : Str)) = false := by decide)
    (he : starEach (a :: []) X.env = (false, eval a X.env) :: starEach [] X.env := by rfl) (hpl : (backTo pos (starEach [] X.env)).any (·.1) = false := by rfl) :
    PMk X (.Call (.Name x p) [a] [] pos) (tMk C ta) := by
  intro pins s σ H Q I h
  refine wpAny_Call_Name_kw (ld_glob I hg T.gC ?_ hdb)
  refine callWith_K (h₀ := X.base) I.ok.mod.kin T.kC (thn (ha.run pos pins s σ H _ I h) fun us s1 hh => ?_) he hpl
  obtain ⟨vs, H1, I1, r1, v, ev, q1⟩ := hh
  subst ev
  refine ⟨I1.kIn, ?_⟩
  cases r1 with
  | cons rv rn =>
    rename_i v' us'
    cases rn
    show wpAny _ _ (call (.ref C) [v']) _ _ _
    have hlim := I1.nolimit
    obtain ⟨hp, g, dr, tk, os⟩ := s1
    refine wpAny_call (made_run T I1.kIn hlim (by have := hr.dp; omega) (fun h' tk' e d M => ?_))
    show MkP X pins σ Q (.ref e) ⟨h', g, dr, tk', os⟩
    obtain ⟨oe, fv, hoe, hc, hd, hdat, h1⟩ := M.obj
    have hns := M.ns
    obtain ⟨G', g1, g2⟩ := restrict h' fun b => decide (b ≠ e)
    have gk : ∀ b, b ≠ e → G'.get? b = h'.get? b := fun b hb => g1 b (decide_eq_true hb)
    have ge : G'.get? e = none := g2 e (by simp)
    have old : ∀ b o, hp.get? b = some o → G'.get? b = some o := fun b o q => (gk b (Nat.ne_of_lt (Nat.lt_of_lt_of_le (Heap.lt_size q) M.new))).trans (M.keep b o q)
    have ob : ObjOk X.prog X.w (upd H1 d (.xd [(("thing" : Str), v)])) G' d (.xd [(("thing" : Str), v)]) :=
      ⟨_, hns.at (fun o q => (gk d M.ne).trans q), fun f => relO_f rv f⟩
    have J : L2.Inv X pins σ (upd H1 d (.xd [(("thing" : Str), v)])) ⟨G', g, dr, tk', os⟩ := I1.laid (t' := tk') old M.big ob
    refine ⟨e, oe, fv, ⟨G', g, dr, tk', os⟩, _, .ref C, some d, rfl, J, (fun b o q => ?_), ge, hoe, ⟨hc, hd⟩, hdat, h1, ?_, rfl, I1.bare, raises_own T.exC T.tyC, q1 d (I1.hok.fresh M.big)⟩
    · by_cases hb : b = e
      · have q' : G'.get? b = some o := q
        rw [hb, ge] at q'
        cases q'
      · exact (gk b hb).symm.trans q
    · rw [upd_ne (Ne.symm M.ne)]
      exact I1.hok.fresh M.new
/-- raise x(e) -/
def tRaise (C : Addr) (W : WX) (ta : TA) : TS := fun _ σ H => tMk C ta σ H fun cls d H' => W cls d σ H'
theorem ps_raise {a : Expr} {ta : TA} {W : WX} {p pos pos2 : Pos} {k : Nat} (hc : X.calm = true) (T : Txt X.K X.mg x qual C fI) (hr : Room k X.A) (tk : Takes X W) (ha : PA X [a] ta) (hg : Gl X x := by rfl) (hdb : (x == ("__debug__" : Str)) = false := by decide)
    (he : starEach (a :: []) X.env = (false, eval a X.env) :: starEach [] X.env := by rfl) (hpl : (backTo pos (starEach [] X.env)).any (·.1) = false := by rfl) :
    PS X (.Raise (some (.Call (.Name x p) [a] [] pos)) none pos2) (tRaise C W ta) := L2.ps_raise hc tk (pmk T hr ha hg hdb he hpl)
end
end MqE_thing

namespace Lw
open PySem PySem.Spec PyProof.Rows L2 Mq
/-! ### where the defs stand -/
def topS (i : Nat) : Stmt := PySem.Challenge.pw_millhands_k07_readers_of_any_values.main.body.getD i (.Pass ⟨0, 0, 0, 0⟩)
abbrev s__wall : Stmt := topS 0
theorem sc__wall : FnScope ["k"] ["k"] (defScope s__wall) := ⟨rfl, rfl, rfl, by decide +kernel, rfl, by decide +kernel, by decide +kernel⟩
abbrev s_BadText___init__ : Stmt := inClass (topS 3) 0
theorem sc_BadText___init__ : FnScope ["self", "line"] ["self", "line"] (defScope s_BadText___init__) := ⟨rfl, rfl, rfl, by decide +kernel, rfl, by decide +kernel, by decide +kernel⟩
abbrev s_BadWeb___init__ : Stmt := inClass (topS 4) 0
theorem sc_BadWeb___init__ : FnScope ["self", "thing"] ["self", "thing"] (defScope s_BadWeb___init__) := ⟨rfl, rfl, rfl, by decide +kernel, rfl, by decide +kernel, by decide +kernel⟩
abbrev s_BadReader___init__ : Stmt := inClass (topS 5) 0
theorem sc_BadReader___init__ : FnScope ["self", "part"] ["self", "part"] (defScope s_BadReader___init__) := ⟨rfl, rfl, rfl, by decide +kernel, rfl, by decide +kernel, by decide +kernel⟩
abbrev s_is_letters : Stmt := topS 10
theorem sc_is_letters : FnScope ["thing", "letter"] ["thing"] (defScope s_is_letters) := ⟨rfl, rfl, rfl, by decide +kernel, rfl, by decide +kernel, by decide +kernel⟩
abbrev s_is_word : Stmt := topS 11
theorem sc_is_word : FnScope ["letters", "thing", "letter"] ["letters", "thing"] (defScope s_is_word) := ⟨rfl, rfl, rfl, by decide +kernel, rfl, by decide +kernel, by decide +kernel⟩
abbrev s_is_number : Stmt := topS 12
theorem sc_is_number : FnScope ["thing"] ["thing"] (defScope s_is_number) := ⟨rfl, rfl, rfl, by decide +kernel, rfl, by decide +kernel, by decide +kernel⟩
abbrev s_is_below : Stmt := topS 13
theorem sc_is_below : FnScope ["thing", "many"] ["thing", "many"] (defScope s_is_below) := ⟨rfl, rfl, rfl, by decide +kernel, rfl, by decide +kernel, by decide +kernel⟩
abbrev s_is_ascending : Stmt := topS 14
theorem sc_is_ascending : FnScope ["parts", "k"] ["parts"] (defScope s_is_ascending) := ⟨rfl, rfl, rfl, by decide +kernel, rfl, by decide +kernel, by decide +kernel⟩
abbrev s_integer_read : Stmt := topS 15
theorem sc_integer_read : FnScope ["text", "figure"] ["text"] (defScope s_integer_read) := ⟨rfl, rfl, rfl, by decide +kernel, rfl, by decide +kernel, by decide +kernel⟩
abbrev s_number_read : Stmt := topS 16
theorem sc_number_read : FnScope ["text", "many", "number"] ["text", "many"] (defScope s_number_read) := ⟨rfl, rfl, rfl, by decide +kernel, rfl, by decide +kernel, by decide +kernel⟩
abbrev s_numbers_read : Stmt := topS 17
theorem sc_numbers_read : FnScope ["words", "many", "numbers", "word"] ["words", "many"] (defScope s_numbers_read) := ⟨rfl, rfl, rfl, by decide +kernel, rfl, by decide +kernel, by decide +kernel⟩
abbrev s_text_parts : Stmt := topS 18
theorem sc_text_parts : FnScope ["word", "text", "lines", "words"] ["word", "text"] (defScope s_text_parts) := ⟨rfl, rfl, rfl, by decide +kernel, rfl, by decide +kernel, by decide +kernel⟩
abbrev s_nodes_read : Stmt := topS 19
theorem sc_nodes_read : FnScope ["word", "text", "node_of", "most", "letters", "lines", "nodes", "line"] ["word", "text", "node_of", "most"] (defScope s_nodes_read) := ⟨rfl, rfl, rfl, by decide +kernel, rfl, by decide +kernel, by decide +kernel⟩
abbrev s_is_reading : Stmt := topS 20
theorem sc_is_reading : FnScope ["letters", "node", "many", "number"] ["letters", "node", "many"] (defScope s_is_reading) := ⟨rfl, rfl, rfl, by decide +kernel, rfl, by decide +kernel, by decide +kernel⟩
abbrev s_has_head : Stmt := topS 21
theorem sc_has_head : FnScope ["thing"] ["thing"] (defScope s_has_head) := ⟨rfl, rfl, rfl, by decide +kernel, rfl, by decide +kernel, by decide +kernel⟩
abbrev s_wrong_part : Stmt := topS 22
theorem sc_wrong_part : FnScope ["letters", "nodes", "is_node", "word", "most", "number", "node"] ["letters", "nodes", "is_node", "word", "most"] (defScope s_wrong_part) := ⟨rfl, rfl, rfl, by decide +kernel, rfl, by decide +kernel, by decide +kernel⟩
abbrev s_walked : Stmt := topS 23
theorem sc_walked : FnScope ["letters", "nodes", "start", "web", "at", "left"] ["letters", "nodes", "start", "web"] (defScope s_walked) := ⟨rfl, rfl, rfl, by decide +kernel, rfl, by decide +kernel, by decide +kernel⟩
abbrev s_is_web : Stmt := topS 25
theorem sc_is_web : FnScope ["letters", "thing"] ["letters", "thing"] (defScope s_is_web) := ⟨rfl, rfl, rfl, by decide +kernel, rfl, by decide +kernel, by decide +kernel⟩
abbrev s_check_web : Stmt := topS 26
theorem sc_check_web : FnScope ["letters", "thing"] ["letters", "thing"] (defScope s_check_web) := ⟨rfl, rfl, rfl, by decide +kernel, rfl, by decide +kernel, by decide +kernel⟩
abbrev s_Reader___init__ : Stmt := inClass (topS 28) 0
theorem sc_Reader___init__ : FnScope ["self", "letters", "nodes", "part"] ["self", "letters", "nodes"] (defScope s_Reader___init__) := ⟨rfl, rfl, rfl, by decide +kernel, rfl, by decide +kernel, by decide +kernel⟩
abbrev s_Reader___len__ : Stmt := inClass (topS 28) 1
theorem sc_Reader___len__ : FnScope ["self"] ["self"] (defScope s_Reader___len__) := ⟨rfl, rfl, rfl, by decide +kernel, rfl, by decide +kernel, by decide +kernel⟩
abbrev s_Reader___eq__ : Stmt := inClass (topS 28) 2
theorem sc_Reader___eq__ : FnScope ["self", "other"] ["self", "other"] (defScope s_Reader___eq__) := ⟨rfl, rfl, rfl, by decide +kernel, rfl, by decide +kernel, by decide +kernel⟩
abbrev s_Reader___str__ : Stmt := inClass (topS 28) 3
theorem sc_Reader___str__ : FnScope ["self", "lines", "node"] ["self"] (defScope s_Reader___str__) := ⟨rfl, rfl, rfl, by decide +kernel, rfl, by decide +kernel, by decide +kernel⟩
abbrev s_Reader_read : Stmt := inClass (topS 28) 4
theorem sc_Reader_read : FnScope ["cls", "text", "letters", "nodes"] ["cls", "text"] (defScope s_Reader_read) := ⟨rfl, rfl, rfl, by decide +kernel, rfl, by decide +kernel, by decide +kernel⟩
abbrev s_Reader_made : Stmt := inClass (topS 28) 5
theorem sc_Reader_made : FnScope ["self", "web"] ["self", "web"] (defScope s_Reader_made) := ⟨rfl, rfl, rfl, by decide +kernel, rfl, by decide +kernel, by decide +kernel⟩
abbrev s_Reader_read_of : Stmt := inClass (topS 28) 6
theorem sc_Reader_read_of : FnScope ["self", "web"] ["self", "web"] (defScope s_Reader_read_of) := ⟨rfl, rfl, rfl, by decide +kernel, rfl, by decide +kernel, by decide +kernel⟩
abbrev s_Reader_least : Stmt := inClass (topS 28) 7
theorem sc_Reader_least : FnScope ["self"] ["self"] (defScope s_Reader_least) := ⟨rfl, rfl, rfl, by decide +kernel, rfl, by decide +kernel, by decide +kernel⟩
abbrev s_Reader_is_least : Stmt := inClass (topS 28) 8
theorem sc_Reader_is_least : FnScope ["self"] ["self"] (defScope s_Reader_is_least) := ⟨rfl, rfl, rfl, by decide +kernel, rfl, by decide +kernel, by decide +kernel⟩
abbrev s_is_reader_node : Stmt := topS 29
theorem sc_is_reader_node : FnScope ["letters", "node", "many"] ["letters", "node", "many"] (defScope s_is_reader_node) := ⟨rfl, rfl, rfl, by decide +kernel, rfl, by decide +kernel, by decide +kernel⟩
abbrev s_node_line : Stmt := topS 30
theorem sc_node_line : FnScope ["node", "words", "number"] ["node"] (defScope s_node_line) := ⟨rfl, rfl, rfl, by decide +kernel, rfl, by decide +kernel, by decide +kernel⟩
abbrev s_node_read : Stmt := topS 31
theorem sc_node_read : FnScope ["letters", "line", "many", "words", "told", "node", "numbers"] ["letters", "line", "many"] (defScope s_node_read) := ⟨rfl, rfl, rfl, by decide +kernel, rfl, by decide +kernel, by decide +kernel⟩
abbrev s_made_by : Stmt := topS 32
theorem sc_made_by : FnScope ["letters", "nodes", "web", "at", "left", "node"] ["letters", "nodes", "web"] (defScope s_made_by) := ⟨rfl, rfl, rfl, by decide +kernel, rfl, by decide +kernel, by decide +kernel⟩
abbrev s__law_deck : Stmt := topS 34
theorem sc__law_deck : FnScope ["_law_script", "_law_cells", "_law_mixed", "_law_cell"] ["_law_script"] (defScope s__law_deck) := ⟨rfl, rfl, rfl, by decide +kernel, rfl, by decide +kernel, by decide +kernel⟩
abbrev s__law_draw : Stmt := topS 35
theorem sc__law_draw : FnScope ["_law_deck_here", "_law_below", "_law_mixed", "_law_cell"] ["_law_deck_here", "_law_below"] (defScope s__law_draw) := ⟨rfl, rfl, rfl, by decide +kernel, rfl, by decide +kernel, by decide +kernel⟩
abbrev s__law_pick : Stmt := topS 36
theorem sc__law_pick : FnScope ["_law_deck_here", "_law_some"] ["_law_deck_here", "_law_some"] (defScope s__law_pick) := ⟨rfl, rfl, rfl, by decide +kernel, rfl, by decide +kernel, by decide +kernel⟩
abbrev s__law_word : Stmt := topS 37
theorem sc__law_word : FnScope ["_law_deck_here", "_law_signs", "_law_most", "_law_k"] ["_law_deck_here", "_law_signs", "_law_most"] (defScope s__law_word) := ⟨rfl, rfl, rfl, by decide +kernel, rfl, by decide +kernel, by decide +kernel⟩
abbrev s__law_nodes : Stmt := topS 38
theorem sc__law_nodes : FnScope ["_law_deck_here", "_law_signs", "_law_top", "_law_size", "_law_found", "_law_k", "_law_way", "_law_bare", "_law_x"] ["_law_deck_here", "_law_signs", "_law_top"] (defScope s__law_nodes) := ⟨rfl, rfl, rfl, by decide +kernel, rfl, by decide +kernel, by decide +kernel⟩
abbrev s__law_are_letters : Stmt := topS 39
theorem sc__law_are_letters : FnScope ["_law_it", "_law_x"] ["_law_it"] (defScope s__law_are_letters) := ⟨rfl, rfl, rfl, by decide +kernel, rfl, by decide +kernel, by decide +kernel⟩
abbrev s__law_is_web : Stmt := topS 40
theorem sc__law_is_web : FnScope ["_law_signs", "_law_it", "_law_x"] ["_law_signs", "_law_it"] (defScope s__law_is_web) := ⟨rfl, rfl, rfl, by decide +kernel, rfl, by decide +kernel, by decide +kernel⟩
abbrev s__law_is_node : Stmt := topS 41
theorem sc__law_is_node : FnScope ["_law_signs", "_law_size", "_law_it", "_law_t"] ["_law_signs", "_law_size", "_law_it"] (defScope s__law_is_node) := ⟨rfl, rfl, rfl, by decide +kernel, rfl, by decide +kernel, by decide +kernel⟩
abbrev s__law_due : Stmt := topS 42
theorem sc__law_due : FnScope ["_law_signs", "_law_nodes_here", "_law_wrong", "_law_k", "_law_it"] ["_law_signs", "_law_nodes_here"] (defScope s__law_due) := ⟨rfl, rfl, rfl, by decide +kernel, rfl, by decide +kernel, by decide +kernel⟩
abbrev s__law_odd : Stmt := topS 43
theorem sc__law_odd : FnScope ["_law_deck_here", "_law_it", "_law_some"] ["_law_deck_here", "_law_it"] (defScope s__law_odd) := ⟨rfl, rfl, rfl, by decide +kernel, rfl, by decide +kernel, by decide +kernel⟩
abbrev s__law_bent : Stmt := topS 44
theorem sc__law_bent : FnScope ["_law_deck_here", "_law_it", "_law_at", "_law_way"] ["_law_deck_here", "_law_it"] (defScope s__law_bent) := ⟨rfl, rfl, rfl, by decide +kernel, rfl, by decide +kernel, by decide +kernel⟩
abbrev s__law_heard : Stmt := topS 45
theorem sc__law_heard : FnScope ["_law_signs", "_law_nodes_here", "_law_is_named", "_law_found", "_law_code", "e"] ["_law_signs", "_law_nodes_here", "_law_is_named"] (defScope s__law_heard) := ⟨rfl, rfl, rfl, by decide +kernel, rfl, by decide +kernel, by decide +kernel⟩
abbrev s__law_made_right : Stmt := topS 46
theorem sc__law_made_right : FnScope ["_law_signs", "_law_nodes_here", "_law_wrong", "_law_was", "_law_due_here", "_law_told"] ["_law_signs", "_law_nodes_here"] (defScope s__law_made_right) := ⟨rfl, rfl, rfl, by decide +kernel, rfl, by decide +kernel, by decide +kernel⟩
abbrev s__law_page : Stmt := topS 47
theorem sc__law_page : FnScope ["_law_signs", "_law_nodes_here", "_law_lines", "_law_it", "_law_bare", "_law_t"] ["_law_signs", "_law_nodes_here"] (defScope s__law_page) := ⟨rfl, rfl, rfl, by decide +kernel, rfl, by decide +kernel, by decide +kernel⟩
abbrev s__law_number : Stmt := topS 48
theorem sc__law_number : FnScope ["_law_word_here", "_law_below", "_law_x"] ["_law_word_here", "_law_below"] (defScope s__law_number) := ⟨rfl, rfl, rfl, by decide +kernel, rfl, by decide +kernel, by decide +kernel⟩
abbrev s__law_node_of : Stmt := topS 49
theorem sc__law_node_of : FnScope ["_law_signs", "_law_size", "_law_line", "_law_words", "_law_bare", "_law_some", "_law_word_here"] ["_law_signs", "_law_size", "_law_line"] (defScope s__law_node_of) := ⟨rfl, rfl, rfl, by decide +kernel, rfl, by decide +kernel, by decide +kernel⟩
abbrev s__law_parts : Stmt := topS 50
theorem sc__law_parts : FnScope ["_law_page_here", "_law_lines", "_law_signs", "_law_found", "_law_line"] ["_law_page_here"] (defScope s__law_parts) := ⟨rfl, rfl, rfl, by decide +kernel, rfl, by decide +kernel, by decide +kernel⟩
abbrev s__law_read : Stmt := topS 51
theorem sc__law_read : FnScope ["_law_page_here", "_law_is_named", "_law_found", "_law_code", "e"] ["_law_page_here", "_law_is_named"] (defScope s__law_read) := ⟨rfl, rfl, rfl, by decide +kernel, rfl, by decide +kernel, by decide +kernel⟩
abbrev s__law_read_right : Stmt := topS 52
theorem sc__law_read_right : FnScope ["_law_page_here", "_law_due_here"] ["_law_page_here"] (defScope s__law_read_right) := ⟨rfl, rfl, rfl, by decide +kernel, rfl, by decide +kernel, by decide +kernel⟩
abbrev s__law_bent_page : Stmt := topS 53
theorem sc__law_bent_page : FnScope ["_law_deck_here", "_law_page_here", "_law_lines", "_law_way", "_law_at", "_law_to", "_law_words", "_law_spot", "_law_some"] ["_law_deck_here", "_law_page_here"] (defScope s__law_bent_page) := ⟨rfl, rfl, rfl, by decide +kernel, rfl, by decide +kernel, by decide +kernel⟩
abbrev s__law_equal_right : Stmt := topS 54
theorem sc__law_equal_right : FnScope ["_law_signs", "_law_nodes_here", "_law_more", "_law_code", "_law_other", "_law_odd_here", "_law_it"] ["_law_signs", "_law_nodes_here", "_law_more"] (defScope s__law_equal_right) := ⟨rfl, rfl, rfl, by decide +kernel, rfl, by decide +kernel, by decide +kernel⟩
abbrev s_law : Stmt := topS 55
theorem sc_law : FnScope ["_law_script", "_law_deck_here", "_law_go", "_law_signs", "_law_nodes_here", "_law_turn", "_law_bent_here", "_law_page_here", "_law_far", "_law_odd_here", "_law_wide", "_law_near", "_law_it", "_law_k"] ["_law_script"] (defScope s_law) := ⟨rfl, rfl, rfl, by decide +kernel, rfl, by decide +kernel, by decide +kernel⟩
end Lw

namespace Lw
open PySem PySem.Spec PyProof.Rows L2 Mq
open SX (S)
/-! ### letters -/
def ascB (l : List Nat) : Bool := ((List.range (l.length - 1)).map fun k => decide (l.getD k 0 < l.getD (k + 1) 0)).all id
theorem lt_sign (c d : Nat) : decide ((S [c]).cps.toList < (S [d]).cps.toList) = decide (c < d) := by
  have h : ((S [c]).cps.toList < (S [d]).cps.toList) ↔ c < d := by
    show ([c] : List Nat) < [d] ↔ c < d
    rw [List.cons_lt_cons_iff]
    simp
  exact decide_eq_decide.mpr h
theorem sz_le {n : Nat} (h : n ≤ 1000000) : n ≤ sizeLine := Nat.le_trans h (by decide)
theorem sz_lt {n : Nat} (h : n ≤ 1000000) : n < sizeLine := Nat.lt_of_le_of_lt h (by decide)
theorem at_get {l : List Nat} {k : Nat} (h : k < l.length) : atI (S l).cps.toList (k : Int) = some (l.getD k 0) := by
  refine atI_nat ?_
  show l[k]? = _
  rw [List.getElem?_eq_getElem h, List.getD_eq_getElem?_getD, List.getElem?_eq_getElem h]
  rfl
theorem ix_sign {l : List Nat} {k : Nat} {H : Hp} {Q : VK} (hl : l.length ≤ 100000) (h : k < l.length) (q : Q (.str (S [l.getD k 0])) H) : rIxS (.str (S l)) (.int (k : Int)) H Q :=
  ⟨S l, (k : Int), l.getD k 0, rfl, rfl, sz_le (by rw [SX.S_len]; omega), at_get h, q⟩
theorem len_S {K : PySem.W.Frag} {H : Hp} {l : List Nat} (hl : l.length ≤ 100000) : LenV K (.str (S l)) H (l.length : Nat) := by
  have hz := SX.S_len l
  refine ⟨?_, ?_⟩
  · rw [hz]
    exact sz_le (by omega)
  · rw [hz]
def spAsc : Sp := fun vs H Q _ => ∃ l : List Nat, vs = [.str (S l)] ∧ l.length ≤ 100000 ∧ ∀ H', Same H H' → Q (.bl (ascB l)) H'
section
variable {P : Program} {w : World} {K : PySem.W.Frag} {mg : Str → Option Value} {base : Heap}
theorem ok_is_ascending {f : Addr} {fd : FuncData} (F : Fun K "is_ascending" "is_ascending" s_is_ascending f fd) (B : Blt mg) :
    FnOk P w K mg base CX0 1 f fd ["parts"] spAsc := by
  refine F.ok sc_is_ascending (fun vs H Q E h => ?_) (fun cdv A outer s H vs Q E hr h => ?_)
  · obtain ⟨l, rfl, _⟩ := h
    rfl
  · obtain ⟨l, rfl, hl, q⟩ := h
    have hz : (S l).length = l.length := SX.S_len l
    refine ⟨_, pss_one (ps_ret (pe_callB (cr_all rfl) (by rfl) B.all (by decide +kernel) (pa_cons (pe_lc (own := [("k", 1)]) (g := gName 1) (tt := tYes) rfl sc_is_ascending.nd
      (pi_range1 (by rfl) B.range (pa_cons (pe_op op_sub (pe_callB call_len (by rfl) B.len (by decide +kernel) (pa_cons (pv 0) pa_nil)) pe_int) pa_nil))
      (blkOk_by (own := [("k", 1)]) (N := ["parts", "k"]) (sc := defScope s_is_ascending) (by decide +kernel)) (fun _ _ _ _ _ => pg_name (i := 1) sc_is_ascending.nd rfl (Or.inl rfl)) (fun _ _ _ _ _ => pts_nil)
      (fun _ _ _ _ _ => pe_cmpR op_lt_str (pe_ix ix_str (pv 0) (pv 1) (fun _ _ => rfl)) (pe_ix ix_str (pv 0) (pe_op op_add (pv 1) pe_int) (fun _ _ => rfl)) (nomark _))) pa_nil))), ?_⟩
    have e1 : ((l.length : Int) - 1).toNat = l.length - 1 := by omega
    unfold tRet tCB tCons
    refine lc_map (n := l.length - 1) walk_rng (fun k => .bl (decide (l.getD k 0 < l.getD (k + 1) 0))) (by omega) (fun R k => ?_) (fun _ _ _ _ _ => trivial) ?_ ?_
    · refine ⟨.str (S l), rfl, .str (S l), l.length, rfl, len_S hl, _, _, rfl, rfl, (l.length : Int) - 1, rfl, by omega, by omega, ?_⟩
      rw [e1]
      exact k _ (Same.refl _) trivial
    · rintro i x H' H'' R hi sm ⟨rfl, rfl⟩ k
      refine ⟨rfl, .str (S l), rfl, .int (i : Nat), rfl, ?_⟩
      refine ix_sign hl (by omega) ⟨.str (S l), rfl, .int (i : Nat), rfl, _, _, rfl, rfl, ?_⟩
      refine ix_sign (k := i + 1) hl (by omega) ?_
      refine ⟨S [l.getD i 0], S [l.getD (i + 1) 0], rfl, rfl, ?_⟩
      rw [lt_sign]
      exact k _ (Same.refl _)
    · intro D H' hD sm hl'
      refine ⟨D, (List.range (l.length - 1)).map fun k => decide (l.getD k 0 < l.getD (k + 1) 0), rfl, SqL.of ?_, q H' sm⟩
      rw [List.map_map]
      exact hl'
end
end Lw

namespace Lw
open PySem PySem.Spec PyProof.Rows L2 Mq
open SX (S)
def alpha : List Nat := List.range' 97 26
theorem alpha_is : ("abcdefghijklmnopqrstuvwxyz" : Str) = S alpha := by decide +kernel
def inB (c : Nat) (l : List Nat) : Bool := decide (c ∈ l)
def allB (l s : List Nat) : Bool := ((List.range l.length).map fun k => inB (l.getD k 0) s).all id
def lettersB (l : List Nat) : Bool := !decide (l = []) && (ascB l && allB l alpha)
/-- a value of a known kind that is no text -/
def NoStr (K : PySem.W.Frag) (H : Hp) (v : V) : Prop := ∃ a, TyX K H v (.type a) ∧ a ∈ ["NoneType", "bool", "int", "str", "list", "tuple", "dict"] ∧ a ≠ "str"
theorem kit_no {K : PySem.W.Frag} {a : String} (m : a ∈ ["NoneType", "bool", "int", "str", "list", "tuple", "dict"]) (n : a ≠ "str") : PySem.W.kitOne K (.type a) (.type "str") = some false :=
  kit_ty (by rw [kit_known a "str" m (by simp), decide_eq_false n])
theorem kit_self {K : PySem.W.Frag} : PySem.W.kitOne K (.type "str") (.type "str") = some true := kit_ty (by decide +kernel)
theorem str_is_nil (l : List Nat) : decide (V.str (S l) = V.str "") = decide (l = []) := by
  refine decide_eq_decide.mpr ⟨fun h => ?_, fun h => by rw [h]; rfl⟩
  have h1 : S l = S [] := V.str.inj h
  exact SX.S_inj h1
theorem walk_S (l : List Nat) : Walk (Its (S l)) l.length (fun _ => True) (YFn fun i => .str (S [l.getD i 0])) := by
  refine walk_str.mono (fun _ h => h) (fun i H x H' hi _ y => ⟨y.1, ?_⟩)
  obtain ⟨_, c, hc, rfl⟩ := y
  have hc' : l[i]? = some c := by simpa using hc
  show V.str (S [c]) = V.str (S [l.getD i 0])
  rw [List.getD_eq_getElem?_getD, hc']
  rfl
/-- what a name is looked up in: letters, signs -/
def spLetters (K : PySem.W.Frag) : Sp := fun vs H Q _ => ∃ v, vs = [v] ∧
  ((∃ l : List Nat, v = .str (S l) ∧ l.length ≤ 100000 ∧ ∀ H', Same H H' → Q (.bl (lettersB l)) H') ∨ (NoStr K H v ∧ ∀ H', Same H H' → Q (.bl false) H'))
def spWord (K : PySem.W.Frag) : Sp := fun vs H Q _ => ∃ (s : List Nat) (v : V), vs = [.str (S s), v] ∧
  ((∃ l : List Nat, v = .str (S l) ∧ l.length ≤ 100000 ∧ ∀ H', Same H H' → Q (.bl (allB l s)) H') ∨ (NoStr K H v ∧ ∀ H', Same H H' → Q (.bl false) H'))
section
variable {P : Program} {w : World} {K : PySem.W.Frag} {mg : Str → Option Value} {base : Heap}
theorem ok_is_letters {f fA : Addr} {fd fdA : FuncData} (F : Fun K "is_letters" "is_letters" s_is_letters f fd) (B : Blt mg)
    (FA : Fun K "is_ascending" "is_ascending" s_is_ascending fA fdA) (gA : mg "is_ascending" = some (.ref fA)) (bA : Binds K fdA ["parts"] [])
    (al : ∃ t, mg "ALPHABET" = some (.str "abcdefghijklmnopqrstuvwxyz" t)) :
    FnOk P w K mg base CX0 2 f fd ["thing"] (spLetters K) := by
  have GA : FnOk P w K mg base CX0 1 fA fdA ["parts"] spAsc := ok_is_ascending FA B
  obtain ⟨ta, al⟩ := al
  refine F.ok sc_is_letters (fun vs H Q E h => ?_) (fun cdv A outer s H vs Q E hr h => ?_)
  · obtain ⟨v, rfl, _⟩ := h
    rfl
  · obtain ⟨v, rfl, h⟩ := h
    refine ⟨_, pss_cons (ps_if (PW.pt (pw_or (pt_not (pt_val (pe_callB call_isi (by rfl) B.isi (by decide +kernel) (pa_cons (pv 0) (pa_cons (pe_bltn (v := .ty "str") (by rfl) B.str (by decide +kernel) rfl) pa_nil)))))
        (pw_or1 (pt_cmpR op_eq (pv 0) pe_str (nomark _))))) (pss_one (ps_ret pe_bl)) pss_nil)
      (pss_one (ps_ret (pe_and (pe_call GA (hr.mono (by decide)) (by rfl) gA FA.kp bA .nil pass0 (pa_cons (pv 0) pa_nil))
        (pe_one (pe_callB (cr_all rfl) (by rfl) B.all (by decide +kernel) (pa_cons (pe_lc (own := [("letter", 1)]) (g := gName 1) (tt := tYes) rfl sc_is_letters.nd (pi_str (pv 0))
          (blkOk_by (own := [("letter", 1)]) (N := ["thing", "letter"]) (sc := defScope s_is_letters) (by decide +kernel)) (fun _ _ _ _ _ => pg_name (i := 1) sc_is_letters.nd rfl (Or.inl rfl)) (fun _ _ _ _ _ => pts_nil)
          (fun _ _ _ _ _ => pe_cmpR op_in_sign (pv 1) (pe_glob (v := .str "abcdefghijklmnopqrstuvwxyz") rfl al ⟨_, rfl⟩) rfl)) pa_nil)))))), ?_⟩
    rcases h with ⟨l, rfl, hl, q⟩ | ⟨hn, q⟩
    · refine ⟨.str (S l), rfl, .str (S l), .ty "str", _, _, true, rfl, .ty _, .base (.str _), kit_self, true, rfl, iteF ⟨.str (S l), rfl, rfl, _, rfl, ?_⟩⟩
      rw [str_is_nil]
      cases e : decide (l = []) with
      | true =>
        refine iteT ?_
        have q' := q H (Same.refl H)
        unfold lettersB at q'
        rw [e] at q'
        exact q'
      | false =>
        refine iteF ⟨.str (S l), rfl, l, rfl, hl, fun H1 s1 => ⟨_, rfl, ?_⟩⟩
        have q' : ∀ H', Same H H' → Q (.bl (ascB l && allB l alpha)) H' := fun H' sm => by
          have z := q H' sm
          unfold lettersB at z
          rw [e] at z
          exact z
        cases ea : ascB l with
        | false =>
          refine iteF ?_
          have z := q' H1 s1
          rw [ea] at z
          exact z
        | true =>
          refine iteT ?_
          rw [ea] at q'
          unfold tCB tCons
          refine lc_map (n := l.length) (walk_S l) (fun k => .bl (inB (l.getD k 0) alpha)) (by omega) (fun R k => ⟨_, rfl, S l, rfl, k _ (Same.refl _) trivial⟩) (fun _ _ _ _ _ => trivial) ?_ ?_
          · rintro i x H' H'' R hi sm ⟨rfl, rfl⟩ k
            refine ⟨rfl, .str (S [l.getD i 0]), rfl, ?_⟩
            rw [alpha_is]
            exact ⟨l.getD i 0, S alpha, rfl, rfl, k _ (Same.refl _)⟩
          · intro D H' hD sm hl'
            refine ⟨D, (List.range l.length).map fun k => inB (l.getD k 0) alpha, rfl, SqL.of ?_, q' H' (s1.trans sm)⟩
            rw [List.map_map]
            exact hl'
    · obtain ⟨a, t, m, n⟩ := hn
      exact ⟨v, rfl, v, .ty "str", .type a, _, false, rfl, .ty _, t, kit_no m n, false, rfl, iteT (iteT (q H (Same.refl H)))⟩
theorem ok_is_word {f : Addr} {fd : FuncData} (F : Fun K "is_word" "is_word" s_is_word f fd) (B : Blt mg) : FnOk P w K mg base CX0 1 f fd ["letters", "thing"] (spWord K) := by
  refine F.ok sc_is_word (fun vs H Q E h => ?_) (fun cdv A outer s H vs Q E hr h => ?_)
  · obtain ⟨s, v, rfl, _⟩ := h
    rfl
  · obtain ⟨sg, v, rfl, h⟩ := h
    refine ⟨_, pss_one (ps_ret (pe_and (pe_callB call_isi (by rfl) B.isi (by decide +kernel) (pa_cons (pv 1) (pa_cons (pe_bltn (v := .ty "str") (by rfl) B.str (by decide +kernel) rfl) pa_nil)))
      (pe_one (pe_callB (cr_all rfl) (by rfl) B.all (by decide +kernel) (pa_cons (pe_lc (own := [("letter", 2)]) (g := gName 2) (tt := tYes) rfl sc_is_word.nd (pi_str (pv 1))
        (blkOk_by (own := [("letter", 2)]) (N := ["letters", "thing", "letter"]) (sc := defScope s_is_word) (by decide +kernel)) (fun _ _ _ _ _ => pg_name (i := 2) sc_is_word.nd rfl (Or.inl rfl)) (fun _ _ _ _ _ => pts_nil)
        (fun _ _ _ _ _ => pe_cmpR op_in_sign (pv 2) (pv 0) rfl)) pa_nil))))), ?_⟩
    rcases h with ⟨l, rfl, hl, q⟩ | ⟨hn, q⟩
    · refine ⟨.str (S l), rfl, .str (S l), .ty "str", _, _, true, rfl, .ty _, .base (.str _), kit_self, true, rfl, iteT ?_⟩
      unfold tCB tCons
      refine lc_map (n := l.length) (walk_S l) (fun k => .bl (inB (l.getD k 0) sg)) (by omega) (fun R k => ⟨_, rfl, S l, rfl, k _ (Same.refl _) trivial⟩) (fun _ _ _ _ _ => trivial) ?_ ?_
      · rintro i x H' H'' R hi sm ⟨rfl, rfl⟩ k
        exact ⟨rfl, .str (S [l.getD i 0]), rfl, .str (S sg), rfl, l.getD i 0, S sg, rfl, rfl, k _ (Same.refl _)⟩
      · intro D H' hD sm hl'
        refine ⟨D, (List.range l.length).map fun k => inB (l.getD k 0) sg, rfl, SqL.of ?_, q H' sm⟩
        rw [List.map_map]
        exact hl'
    · obtain ⟨a, t, m, n⟩ := hn
      exact ⟨v, rfl, v, .ty "str", .type a, _, false, rfl, .ty _, t, kit_no m n, false, rfl, iteF (q H (Same.refl H))⟩
theorem ok_is_web {f fW : Addr} {fd fdW : FuncData} (F : Fun K "is_web" "is_web" s_is_web f fd) (B : Blt mg)
    (FW : Fun K "is_word" "is_word" s_is_word fW fdW) (gW : mg "is_word" = some (.ref fW)) (bW : Binds K fdW ["letters", "thing"] []) :
    FnOk P w K mg base CX0 2 f fd ["letters", "thing"] (spWord K) := by
  have GW : FnOk P w K mg base CX0 1 fW fdW ["letters", "thing"] (spWord K) := ok_is_word FW B
  refine F.ok sc_is_web (fun vs H Q E h => ?_) (fun cdv A outer s H vs Q E hr h => ?_)
  · obtain ⟨s, v, rfl, _⟩ := h
    rfl
  · have h' := h
    obtain ⟨sg, v, rfl, _⟩ := h'
    exact ⟨_, pss_one (ps_ret (pe_call GW (hr.mono (by decide)) (by rfl) gW FW.kp bW .nil pass0 (pa_cons (pv 0) (pa_cons (pv 1) pa_nil)))), _, rfl, _, rfl, h⟩
end
end Lw

namespace Lw
open PySem PySem.Spec PyProof.Rows L2 Mq
open SX (S)
theorem ifF {c : Bool} {p q : Prop} (h : c = false) (hq : q) : (if c = true then p else q) := by rw [h]; exact hq
theorem ifT {c : Bool} {p q : Prop} (h : c = true) (hp : p) : (if c = true then p else q) := by rw [h]; exact hp
theorem len_tup {K : PySem.W.Frag} {H : Hp} {a : Addr} {xs : List V} (h : SqT K H a xs) : LenV K (.ref a) H xs.length := Or.inr ⟨xs, h, rfl⟩
theorem ps_dead {X : Cx} {st : Stmt} : PS X st (fun _ _ _ => False) := ⟨fun _ _ _ _ _ _ h => h.elim⟩
theorem pos_of {α : Type} {l : List α} (h : l ≠ []) : 0 < l.length := by
  cases l with
  | nil => exact (h rfl).elim
  | cons a l => exact Nat.zero_lt_succ _
theorem allB_of {sg w : List Nat} (h : ∀ c ∈ w, c ∈ sg) : allB w sg = true := by
  unfold allB
  rw [List.all_map, List.all_eq_true]
  intro k hk
  have hk' := List.mem_range.mp hk
  refine decide_eq_true (h _ ?_)
  rw [List.getD_eq_getElem?_getD, List.getElem?_eq_getElem hk']
  exact List.getElem_mem hk'
def wordOk (sg w : List Nat) : Prop := (∀ c ∈ w, c ∈ sg) ∧ w.length ≤ 3
end Lw

namespace Lw
open PySem PySem.Spec PyProof.Rows L2 Mq
open SX (S)
/-! ### the deck -/
def deckKv (c : Addr) (m : Int) (t : Nat) : List (Key × V) := [(.inr "cells", .ref c), (.inr "mixed", .int m), (.inr "turn", .int (t : Nat))]
structure DeckAt (D C : Addr) (T : Nat) (H : Hp) : Prop where
  ex : ∃ (m : Int) (t : Nat) (js : List Int), H D = some (.dK (deckKv C m t)) ∧ H C = some (.lst (js.map V.int)) ∧ js.length ≤ 100 ∧ t ≤ T
def Off (D C : Addr) (H H' : Hp) : Prop := ∀ b o, b ≠ D → b ≠ C → H b = some o → H' b = some o
theorem Off.refl (D C : Addr) (H : Hp) : Off D C H H := fun _ _ _ _ e => e
theorem Off.trans {D C : Addr} {H H' H'' : Hp} (a : Off D C H H') (b : Off D C H' H'') : Off D C H H'' := fun x o h1 h2 e => b x o h1 h2 (a x o h1 h2 e)
theorem Off.same {D C : Addr} {H H' : Hp} (e : Same H H') : Off D C H H' := fun b o _ _ h => e b o h
theorem DeckAt.same {D C : Addr} {T : Nat} {H H' : Hp} (h : DeckAt D C T H) (e : Same H H') : DeckAt D C T H' := let ⟨m, t, js, a, b, c, d⟩ := h.ex; ⟨m, t, js, e _ _ a, e _ _ b, c, d⟩
theorem DeckAt.mono {D C : Addr} {T T' : Nat} {H : Hp} (h : DeckAt D C T H) (e : T ≤ T') : DeckAt D C T' H := let ⟨m, t, js, a, b, c, d⟩ := h.ex; ⟨m, t, js, a, b, c, Nat.le_trans d e⟩
theorem DeckAt.ne {D C : Addr} {T : Nat} {H : Hp} (h : DeckAt D C T H) : C ≠ D := by
  obtain ⟨m, t, js, a, b, c, d⟩ := h.ex
  rintro rfl
  rw [a] at b
  cases b
/-- what is no list and no dict is none of the deck's -/
theorem Off.at {D C : Addr} {T : Nat} {H H' : Hp} {a : Addr} {o : HO} (f : Off D C H H') (k : DeckAt D C T H) (h : H a = some o) (n : (∀ xs, o ≠ .lst xs) ∧ ∀ kvs, o ≠ .dK kvs) : H' a = some o := by
  obtain ⟨m, t, js, x, y, _, _⟩ := k.ex
  refine f a o ?_ ?_ h
  · rintro rfl
    rw [x] at h
    cases h
    exact n.2 _ rfl
  · rintro rfl
    rw [y] at h
    cases h
    exact n.1 _ rfl
theorem Off.tup {K : PySem.W.Frag} {D C : Addr} {T : Nat} {H H' : Hp} {a : Addr} {xs : List V} (f : Off D C H H') (k : DeckAt D C T H) (h : SqT K H a xs) : SqT K H' a xs := by
  rcases h with (h | ⟨o, h⟩) | h
  · exact Or.inl (Or.inl (f.at k h ⟨(fun _ z => nomatch z), (fun _ z => nomatch z)⟩))
  · exact Or.inl (Or.inr ⟨o, f.at k h ⟨(fun _ z => nomatch z), (fun _ z => nomatch z)⟩⟩)
  · exact Or.inr h
theorem dp_ints' {K : PySem.W.Frag} {H : Hp} : ∀ js : List Int, DpAll K H (js.map V.int) (js.map PyData.int)
  | [] => .nil
  | t :: ts => .cons (.int _) (dp_ints' ts)
theorem lay_ints' (js : List Int) : PyData.canLayAll0 (js.map PyData.int) = true ∧ PyData.depthAll (js.map PyData.int) = 0 := by
  induction js with
  | nil => exact ⟨rfl, rfl⟩
  | cons t ts ih =>
    refine ⟨ih.1, ?_⟩
    show max 0 _ = 0
    rw [ih.2]
    rfl
theorem shaped_ints (js : List Int) : SeqAt.shaped (.list (js.map PyData.int)) = true := by
  unfold SeqAt.shaped
  obtain ⟨a, b⟩ := lay_ints' js
  rw [show (PyData.list (js.map PyData.int)).canLay0 = true from a]
  have : (PyData.list (js.map PyData.int)).depth ≤ 64 := by
    show PyData.depthAll _ + 1 ≤ 64
    omega
  rw [decide_eq_true this]
  rfl
def spDraw : Sp := fun vs H Q _ => ∃ (D C : Addr) (T b : Nat), vs = [.ref D, .int (b : Nat)] ∧ DeckAt D C T H ∧ T ≤ 1000000 ∧ 0 < b ∧ b ≤ 1000 ∧
  ∀ H' (r : Nat), r < b → DeckAt D C (T + 1) H' → Off D C H H' → Q (.int (r : Nat)) H'
theorem fmod_nat (i : Int) {b : Nat} (h : 0 < b) : ∃ r : Nat, i.fmod (b : Int) = (r : Nat) ∧ r < b := by
  have h1 : 0 ≤ i.fmod (b : Int) := Int.fmod_nonneg_of_pos i (by omega)
  have h2 : i.fmod (b : Int) < b := Int.fmod_lt_of_pos i (by omega)
  exact ⟨(i.fmod b).toNat, by omega, by omega⟩
theorem bound_mod (i : Int) : -(2 ^ 64) < i.fmod 2147483647 ∧ i.fmod 2147483647 < 2 ^ 64 := by
  obtain ⟨r, e, l⟩ := fmod_nat i (b := 2147483647) (by decide)
  have e' : i.fmod 2147483647 = (r : Nat) := e
  rw [e']
  omega
theorem mod_fin {b : Nat} (h : 0 < b) (i : Int) {H : Hp} {Q : VK} (k : ∀ r : Nat, r < b → Q (.int (r : Nat)) H) : Q (.int (i.fmod (b : Nat))) H := by
  obtain ⟨r, e, l⟩ := fmod_nat i h
  rw [e]
  exact k r l
section
variable {P : Program} {w : World} {K : PySem.W.Frag} {mg : Str → Option Value} {base : Heap}
theorem ok_draw {f : Addr} {fd : FuncData} (F : Fun K "_law_draw" "_law_draw" s__law_draw f fd) (B : Blt mg) :
    FnOk P w K mg base CX0 1 f fd ["_law_deck_here", "_law_below"] spDraw := by
  refine F.ok sc__law_draw (fun vs H Q E h => ?_) (fun cdv A outer s H vs Q E hr h => ?_)
  · obtain ⟨_, _, _, _, rfl, _⟩ := h
    rfl
  · obtain ⟨D, C, T, b, rfl, hdk, hT, hb0, hb1, q⟩ := h
    have hu : (A.deeper (envOfC "_law_draw" (defScope s__law_draw) s.heap.objs.size f cdv)).units + 64 < cLine := by
      have := hr.units
      omega
    have hu1 : (A.deeper (envOfC "_law_draw" (defScope s__law_draw) s.heap.objs.size f cdv)).units + 1 < cLine := by omega
    refine ⟨_, (pss_cons (ps_dput hu1 (pv 0) pe_str (pe_op op_add (pe_dget hu1 (pv 0) pe_str (fun _ _ => rfl)) pe_int) rfl)
      (pss_cons (ps_set (i := 2) sc__law_draw.nd rfl (Or.inl rfl) (pe_op op_add (pe_dget hu1 (pv 0) pe_str (fun _ _ => rfl)) (pe_op op_mul (pe_op op_mul pe_int (pe_dget hu1 (pv 0) pe_str (fun _ _ => rfl))) (pe_dget hu1 (pv 0) pe_str (fun _ _ => rfl)))))
      (pss_cons (ps_if (pt_cmpR (op_neD hu) (pe_dget hu1 (pv 0) pe_str (fun _ _ => rfl)) (pe_ls pa_nil) (nomark _)) (pss_cons (ps_set (i := 3) sc__law_draw.nd rfl (Or.inl rfl) (pe_bm0 PySem.F.plainAttrs_list PySem.F.slot_list_pop PySem.F.type_list_pop mt_pop (pe_dget hu1 (pv 0) pe_str (fun _ _ => rfl))))
        (pss_cons (ps_if (pt_cmpR op_ge (pv 3) (pe_op op_pow pe_int pe_int) (nomark _)) (pss_cons (ps_expr (pe_bm PySem.F.plainAttrs_list PySem.F.slot_list_append PySem.F.type_list_append mt_append (pe_dget hu1 (pv 0) pe_str (fun _ _ => rfl)) (pa_cons (pe_op op_fdivN (pv 3) (pv 1)) pa_nil)))
          (pss_one (ps_ret (pe_op op_modN (pe_callTy call_int1 (by rfl) B.int (by decide +kernel) (pa_cons (pv 3) pa_nil)) (pv 1))))) pss_nil)
        (pss_one (ps_set (i := 2) sc__law_draw.nd rfl (Or.inl rfl) (pe_op op_add (pv 2) (pe_op op_modN (pe_callTy call_int1 (by rfl) B.int (by decide +kernel) (pa_cons (pv 3) pa_nil)) pe_int)))))) pss_nil)
      (pss_cons (ps_set (i := 2) sc__law_draw.nd rfl (Or.inl rfl) (pe_op op_modN (pe_callTy call_int1 (by rfl) B.int (by decide +kernel) (pa_cons (pe_op op_add (pe_op op_mul (pe_op op_modN (pv 2) pe_int) pe_int) (pe_dget hu1 (pv 0) pe_str (fun _ _ => rfl))) pa_nil)) pe_int))
      (pss_cons (ps_set (i := 2) sc__law_draw.nd rfl (Or.inl rfl) (pe_op op_modN (pe_callTy call_int1 (by rfl) B.int (by decide +kernel) (pa_cons (pe_op op_add (pe_op op_add (pe_op op_mul (pv 2) (pv 2)) (pe_op op_mul pe_int (pe_dget hu1 (pv 0) pe_str (fun _ _ => rfl)))) pe_int) pa_nil)) pe_int))
      (pss_one (ps_ret (pe_op op_modN (pe_op op_fdivN (pe_op op_modN (pe_callTy call_int1 (by rfl) B.int (by decide +kernel) (pa_cons (pe_op op_mul (pv 2) pe_int) pa_nil)) pe_int) pe_int) (pv 1))))))))), ?_⟩
    obtain ⟨m, t, js, hD, hC, hjs, ht⟩ := hdk.ex
    have ne := hdk.ne
    have e : ((t : Nat) : Int) + 1 = ((t + 1 : Nat) : Int) := by omega
    have eH : upd H D (.dK (deckKv C m (t + 1))) = upd H D (.dK (putK (deckKv C m t) (.inr "turn") (.int (((t : Nat) : Int) + 1)))) := by
      rw [e]
      rfl
    have o1 : Off D C H (upd H D (.dK (deckKv C m (t + 1)))) := fun x o h1 h2 h => (upd_ne h1).trans h
    have hD1 : upd H D (.dK (deckKv C m (t + 1))) D = some (.dK (deckKv C m (t + 1))) := upd_same
    have hC1 : upd H D (.dK (deckKv C m (t + 1))) C = some (.lst (js.map V.int)) := (upd_ne ne).trans hC
    refine ⟨_, rfl, D, .int (t : Nat), rfl, (DGet.k (k := .inr "turn") hD : DGet H D (.str "turn") (some (.int (t : Nat)))), _, _, rfl, rfl, _, rfl, D, upd H D (.dK (deckKv C m (t + 1))), rfl, Or.inl ⟨deckKv C m t, .inr "turn", hD, rfl, sz_lt (by show 3 ≤ _; decide), eH⟩, ?_⟩
    generalize upd H D (.dK (deckKv C m (t + 1))) = H1 at o1 hD1 hC1 ⊢
    have gT : ∀ {H2 : Hp}, H2 D = some (.dK (deckKv C m (t + 1))) → DGet H2 D (.str "turn") (some (.int (t + 1 : Nat))) := fun h => DGet.k (k := .inr "turn") h
    have gM : ∀ {H2 : Hp}, H2 D = some (.dK (deckKv C m (t + 1))) → DGet H2 D (.str "mixed") (some (.int m)) := fun h => DGet.k (k := .inr "mixed") h
    have gC : ∀ {H2 : Hp}, H2 D = some (.dK (deckKv C m (t + 1))) → DGet H2 D (.str "cells") (some (.ref C)) := fun h => DGet.k (k := .inr "cells") h
    have cT : -(2 ^ 64) < (((t + 1 : Nat)) : Int) ∧ (((t + 1 : Nat)) : Int) < 2 ^ 64 := by omega
    refine ⟨_, rfl, D, _, rfl, gM hD1, _, rfl, D, _, rfl, gT hD1, _, _, rfl, rfl, Or.inl (by decide), _, rfl, D, _, rfl, gT hD1, _, _, rfl, rfl, Or.inr cT, _, _, rfl, rfl, ?_⟩
    refine ⟨_, rfl, D, _, rfl, gC hD1, sz_le (n := 0) (by decide), fun p hp _ => ?_⟩
    have sp1 : Same H1 (upd H1 p (.lst [])) := same_new hp
    refine ⟨.list (js.map PyData.int), .list [], .lst (SqL.of (sp1 _ _ hC1)) (dp_ints' js), .lst (SqL.of upd_same) .nil, shaped_ints js, by decide +kernel, _, rfl, ?_⟩
    have hD2 := sp1 _ _ hD1
    have hC2 := sp1 _ _ hC1
    have o2 : Off D C H (upd H1 p (.lst [])) := o1.trans (Off.same sp1)
    generalize upd H1 p (.lst []) = H2 at hD2 hC2 o2 ⊢
    have fin : ∀ (H3 : Hp) (js' : List Int), H3 D = some (.dK (deckKv C m (t + 1))) → H3 C = some (.lst (js'.map V.int)) → js'.length ≤ 100 → Off D C H H3 → ∀ r : Nat, r < b → Q (.int (r : Nat)) H3 :=
      fun H3 js' h1 h2 h3 h4 r hr => q H3 r hr ⟨m, t + 1, js', h1, h2, h3, by omega⟩ h4
    rcases List.eq_nil_or_concat js with rfl | ⟨js', j, rfl⟩
    · refine ifF rfl ?_
      have hDx := hD2
      have kq := fin H2 [] hD2 hC2 (by decide) o2
      refine ⟨_, rfl, _, _, rfl, rfl, (show (2147483549 : Int) ≠ 0 by decide), _, _, rfl, rfl, Or.inr (by decide), _, rfl, D, _, rfl, gT hDx, _, _, rfl, rfl, Or.inl ⟨_, rfl, _, _, rfl, rfl, (show (2147483647 : Int) ≠ 0 by decide), ?_⟩⟩
      refine ⟨_, rfl, _, rfl, _, _, rfl, rfl, Or.inl ?_, _, rfl, D, _, rfl, gT hDx, _, _, rfl, rfl, Or.inl (by decide), _, _, rfl, rfl, _, _, rfl, rfl, Or.inl ⟨_, rfl, _, _, rfl, rfl, (show (2147483579 : Int) ≠ 0 by decide), ?_⟩⟩
      · exact bound_mod _
      · refine ⟨_, rfl, _, _, rfl, rfl, Or.inr (by decide), Or.inl ⟨_, rfl, _, _, rfl, rfl, (show (2147483629 : Int) ≠ 0 by decide), _, _, rfl, rfl, ⟨by decide, by decide⟩, _, rfl, _, _, rfl, rfl, (show ((b : Nat) : Int) ≠ 0 by omega), ?_⟩⟩
        exact mod_fin hb0 _ kq
    · rw [List.concat_eq_append] at *
      refine ifT (by cases js' <;> rfl) ?_
      have hlast : ((js' ++ [j]).map V.int)[((js' ++ [j]).map V.int).length - 1]? = some (.int j) := by simp
      have hdrop : ((js' ++ [j]).map V.int).dropLast = js'.map V.int := by simp
      refine ⟨_, rfl, D, _, rfl, gC hD2, Or.inl ⟨rfl, _, Or.inl (Or.inl hC2)⟩, C, _, _, rfl, rfl, hC2, hlast, ?_⟩
      rw [hdrop]
      have hD3 : upd H2 C (.lst (js'.map V.int)) D = some (.dK (deckKv C m (t + 1))) := (upd_ne (Ne.symm ne)).trans hD2
      have hC3 : upd H2 C (.lst (js'.map V.int)) C = some (.lst (js'.map V.int)) := upd_same
      have o3 : Off D C H (upd H2 C (.lst (js'.map V.int))) := o2.trans (fun x o h1 h2 h => (upd_ne h2).trans h)
      generalize upd H2 C (.lst (js'.map V.int)) = H3 at hD3 hC3 o3 ⊢
      have hl' : js'.length + 1 ≤ 100 := by simpa using hjs
      refine ⟨_, rfl, _, _, rfl, rfl, ⟨by decide, by decide, by decide⟩, _, _, rfl, rfl, _, rfl, ite2 (fun hc => ?_) (fun hc => ?_)⟩
      · have hj : (10 : Int) ^ 18 ≤ j := of_decide_eq_true hc
        refine ⟨_, rfl, D, _, rfl, gC hD3, Or.inl ⟨rfl, _, Or.inl (Or.inl hC3)⟩, _, rfl, _, rfl, _, _, rfl, rfl, ⟨by omega, by omega⟩, C, _, _, rfl, rfl, hC3, sz_lt (by rw [List.length_map]; omega), ?_⟩
        have hD4 : upd H3 C (.lst (js'.map V.int ++ [.int (j.fdiv (b : Nat))])) D = some (.dK (deckKv C m (t + 1))) := (upd_ne (Ne.symm ne)).trans hD3
        have hC4 : upd H3 C (.lst (js'.map V.int ++ [.int (j.fdiv (b : Nat))])) C = some (.lst ((js' ++ [j.fdiv (b : Nat)]).map V.int)) := upd_same.trans (by rw [List.map_append]; rfl)
        have o4 : Off D C H (upd H3 C (.lst (js'.map V.int ++ [.int (j.fdiv (b : Nat))]))) := o3.trans (fun x o h1 h2 h => (upd_ne h2).trans h)
        have kq := fin _ _ hD4 hC4 (by rw [List.length_append]; exact hl') o4
        refine ⟨_, rfl, Or.inl ⟨_, rfl, _, rfl, _, _, rfl, rfl, (show ((b : Nat) : Int) ≠ 0 by omega), ?_⟩⟩
        exact mod_fin hb0 _ kq
      · refine ⟨_, rfl, _, rfl, Or.inl ⟨_, rfl, _, _, rfl, rfl, (show (2147483563 : Int) ≠ 0 by decide), _, _, rfl, rfl, ?_⟩⟩
        have hDx := hD3
        have kq := fin H3 js' hD3 hC3 (by omega) o3
        refine ⟨_, rfl, _, _, rfl, rfl, (show (2147483549 : Int) ≠ 0 by decide), _, _, rfl, rfl, Or.inr (by decide), _, rfl, D, _, rfl, gT hDx, _, _, rfl, rfl, Or.inl ⟨_, rfl, _, _, rfl, rfl, (show (2147483647 : Int) ≠ 0 by decide), ?_⟩⟩
        refine ⟨_, rfl, _, rfl, _, _, rfl, rfl, Or.inl ?_, _, rfl, D, _, rfl, gT hDx, _, _, rfl, rfl, Or.inl (by decide), _, _, rfl, rfl, _, _, rfl, rfl, Or.inl ⟨_, rfl, _, _, rfl, rfl, (show (2147483579 : Int) ≠ 0 by decide), ?_⟩⟩
        · exact bound_mod _
        · refine ⟨_, rfl, _, _, rfl, rfl, Or.inr (by decide), Or.inl ⟨_, rfl, _, _, rfl, rfl, (show (2147483629 : Int) ≠ 0 by decide), _, _, rfl, rfl, ⟨by decide, by decide⟩, _, rfl, _, _, rfl, rfl, (show ((b : Nat) : Int) ≠ 0 by omega), ?_⟩⟩
          exact mod_fin hb0 _ kq
end
end Lw

namespace Lw
open PySem PySem.Spec PyProof.Rows L2 Mq
open SX (S)
def spDeck (K : PySem.W.Frag) : Sp := fun vs H Q _ => ∃ (a : Addr) (ns : List Int), vs = [.ref a] ∧ SqL K H a (ns.map V.int) ∧ ns.length ≤ 63 ∧
  ∀ H' D C, Same H H' → DeckAt D C 0 H' → Q (.ref D) H'
def spPick : Sp := fun vs H Q _ => ∃ (D C : Addr) (T : Nat) (x : V), vs = [.ref D, x] ∧ DeckAt D C T H ∧ T ≤ 1000000 ∧
  ((∃ l : List Nat, x = .str (S l) ∧ 0 < l.length ∧ l.length ≤ 1000 ∧ ∀ H' c, c ∈ l → DeckAt D C (T + 1) H' → Off D C H H' → Q (.str (S [c])) H') ∨
   ∃ (p : Addr) (xs : List V), x = .ref p ∧ H p = some (.lst xs) ∧ p ≠ C ∧ 0 < xs.length ∧ xs.length ≤ 1000 ∧ ∀ H' v, v ∈ xs → DeckAt D C (T + 1) H' → Off D C H H' → Q v H')
section
variable {P : Program} {w : World} {K : PySem.W.Frag} {mg : Str → Option Value} {base : Heap}
theorem ok_deck {f : Addr} {fd : FuncData} (F : Fun K "_law_deck" "_law_deck" s__law_deck f fd) (B : Blt mg) :
    FnOk P w K mg base CX0 1 f fd ["_law_script"] (spDeck K) := by
  refine F.ok sc__law_deck (fun vs H Q E h => ?_) (fun cdv A outer s H vs Q E hr h => ?_)
  · obtain ⟨_, _, rfl, _⟩ := h
    rfl
  · obtain ⟨a, ns, rfl, ha, hn, q⟩ := h
    refine ⟨_, (pss_cons (ps_par (i := 1) (j := 2) rfl sc__law_deck.nd rfl rfl (by decide) rfl rfl (pa_cons (pe_callTy call_list_of (by rfl) B.list (by decide +kernel) (pa_cons (pe_slice sl_list (pv 0) po_none (po_some pe_int)) pa_nil)) (pa_cons pe_int pa_nil)) (by rfl))
      (pss_cons (ps_for PassesOwn.never rfl (pi_list (pv 1)) (pg_name (i := 3) sc__law_deck.nd rfl (Or.inl rfl))
        (pss_one (ps_set (i := 2) sc__law_deck.nd rfl (Or.inl rfl) (pe_op op_modN (pe_callTy call_int1 (by rfl) B.int (by decide +kernel) (pa_cons (pe_op op_add (pe_op op_add (pe_op op_mul (pv 2) pe_int) (pe_op op_modN (pe_callTy call_int1 (by rfl) B.int (by decide +kernel) (pa_cons (pv 3) pa_nil)) pe_int)) pe_int) pa_nil)) pe_int))))
      (pss_one (ps_ret (pe_disp (pps_cons pe_str (pe_revL (pv 1)) (pps_cons pe_str (pv 2) (pps_cons pe_str pe_int pps_nil))) (by rfl) (by rfl) (fun z => by cases z) (by decide)))))), ?_⟩
    obtain ⟨ms, hms, hml⟩ : ∃ ms : List Int, cutV (ns.map V.int) none (some 63) = ms.map V.int ∧ ms.length ≤ 63 := by
      refine ⟨(ns.drop (HT.sIx (ns.map V.int).length 0 none)).take (HT.sIx (ns.map V.int).length (ns.map V.int).length (some 63) - HT.sIx (ns.map V.int).length 0 none), ?_, ?_⟩
      · unfold cutV
        rw [← List.map_drop, ← List.map_take]
      · rw [List.length_take, List.length_drop]
        omega
    refine ⟨_, rfl, 63, rfl, a, _, rfl, ha, fun p1 hp1 => ⟨p1, _, rfl, Or.inl (SqL.of upd_same), fun c hc => ?_⟩⟩
    rw [hms] at hc ⊢
    have s1 : Same H (upd H p1 (.lst (ms.map V.int))) := same_new hp1
    generalize upd H p1 (.lst (ms.map V.int)) = H1 at s1 hc ⊢
    have s2 : Same H (upd H1 c (.lst (ms.map V.int))) := s1.trans (same_new hc)
    have hC : upd H1 c (.lst (ms.map V.int)) c = some (.lst (ms.map V.int)) := upd_same
    generalize upd H1 c (.lst (ms.map V.int)) = H2 at s2 hC ⊢
    refine ⟨_, _, rfl, ?_⟩
    refine ⟨_, rfl, c, rfl, ⟨_, SqL.of hC⟩, ?_⟩
    refine for_list (xs := ms.map V.int) (fun i σ H' => H' = H2 ∧ ∃ (m : Int) (o : Option V), σ = [some (.ref a), some (.ref c), some (.int m), o]) ⟨rfl, _, _, rfl⟩ (fun i σ H' _ p => by rw [p.1]; exact SqL.of hC) ?_ ?_
    · rintro i x σ H' hx ⟨rfl, m, o, rfl⟩
      obtain ⟨j, rfl⟩ : ∃ j, x = .int j := by
        rw [List.getElem?_map] at hx
        cases h : ms[i]? with
        | none => rw [h] at hx; cases hx
        | some j => rw [h] at hx; cases hx; exact ⟨j, rfl⟩
      refine ⟨_, rfl, _, _, rfl, rfl, Or.inr (by decide), _, rfl, Or.inl ⟨_, rfl, _, _, rfl, rfl, (show (2147483587 : Int) ≠ 0 by decide), _, _, rfl, rfl, _, _, rfl, rfl, Or.inl ⟨_, rfl, _, _, rfl, rfl, (show (2147483629 : Int) ≠ 0 by decide), rfl, _, _, rfl⟩⟩⟩
    · rintro σ H' ⟨rfl, m, o, rfl⟩
      refine fun p hp => ?_
      have s3 : Same H' (upd H' p (.dK [])) := same_new hp
      refine ⟨_, rfl, c, _, rfl, SqL.of (s3 _ _ hC), fun p2 hp2 => ⟨_, rfl, ?_⟩⟩
      have s4 : Same H' (upd (upd H' p (.dK [])) p2 (.lst (ms.map V.int).reverse)) := s3.trans (same_new hp2)
      have hp4 : upd (upd H' p (.dK [])) p2 (.lst (ms.map V.int).reverse) p = some (.dK []) := (same_new hp2) _ _ upd_same
      refine ⟨hp4, deckKv p2 m 0, rfl, by show 3 ≤ 15; decide, ?_⟩
      have ne : p2 ≠ p := by
        rintro rfl
        rw [upd_same] at hp2
        cases hp2
      refine q _ p p2 ?_ ⟨m, 0, ms.reverse, upd_same.trans ?_, ?_, by rw [List.length_reverse]; omega, Nat.le_refl _⟩
      · intro b o e
        have e2 := s2 b o e
        rw [upd_ne (ne_of_none e2 hp)]
        exact s4 b o e2
      · rfl
      · rw [upd_ne ne, upd_same, List.map_reverse]
end
end Lw

namespace Lw
open PySem PySem.Spec PyProof.Rows L2 Mq
open SX (S)
section
variable {P : Program} {w : World} {K : PySem.W.Frag} {mg : Str → Option Value} {base : Heap}
theorem ok_pick {f fD : Addr} {fd fdD : FuncData} (F : Fun K "_law_pick" "_law_pick" s__law_pick f fd) (B : Blt mg)
    (FD : Fun K "_law_draw" "_law_draw" s__law_draw fD fdD) (gD : mg "_law_draw" = some (.ref fD)) (bD : Binds K fdD ["_law_deck_here", "_law_below"] []) :
    FnOk P w K mg base CX0 2 f fd ["_law_deck_here", "_law_some"] spPick := by
  have GD : FnOk P w K mg base CX0 1 fD fdD ["_law_deck_here", "_law_below"] spDraw := ok_draw FD B
  refine F.ok sc__law_pick (fun vs H Q E h => ?_) (fun cdv A outer s H vs Q E hr h => ?_)
  · obtain ⟨_, _, _, _, rfl, _⟩ := h
    rfl
  · obtain ⟨D, C, T, x, rfl, hdk, hT, h⟩ := h
    refine ⟨_, (pss_one (ps_ret (pe_ix ix_seq (pv 1) (pe_call GD (hr.mono (by decide)) (by rfl) gD FD.kp bD .nil pass0 (pa_cons (pv 0) (pa_cons (pe_callB call_len (by rfl) B.len (by decide +kernel) (pa_cons (pv 1) pa_nil)) pa_nil))) (fun _ _ => rfl)))), ?_⟩
    rcases h with ⟨l, rfl, h0, h1, q⟩ | ⟨p, xs, rfl, hp, hpC, h0, h1, q⟩
    · refine ⟨_, rfl, _, rfl, _, rfl, _, _, rfl, len_S (by omega), D, C, T, l.length, rfl, hdk, hT, h0, h1, fun H' r hr dk off => ?_⟩
      refine Or.inr (Or.inr ⟨S l, _, l.getD r 0, rfl, rfl, sz_le (by rw [SX.S_len]; omega), at_get hr, ?_⟩)
      refine q H' _ ?_ dk off
      rw [List.getD_eq_getElem?_getD, List.getElem?_eq_getElem hr]
      exact List.getElem_mem hr
    · refine ⟨_, rfl, _, rfl, _, rfl, _, _, rfl, Or.inl ⟨xs, SqL.of hp, rfl⟩, D, C, T, xs.length, rfl, hdk, hT, h0, h1, fun H' r hr dk off => ?_⟩
      have hpD : p ≠ D := by
        rintro rfl
        obtain ⟨_, _, _, e, _⟩ := hdk.ex
        rw [hp] at e
        cases e
      have hp' := off p _ hpD hpC hp
      refine Or.inl ⟨p, xs, _, xs[r], rfl, rfl, SqL.of hp', atI_nat (List.getElem?_eq_getElem hr), q H' _ (List.getElem_mem hr) dk off⟩
end
end Lw

namespace Mq
open PySem PySem.Spec PyProof.Rows L2
/-! ### the keys of a dict, drawn one by one, whatever they are -/
section
variable {prog : Program} {w : World} {d : Addr} {o : Obj} {es : Array DictEntry} {ep : Nat}
theorem walks_keys {A : Around} (hh : A.handled = none) (I : Addr) (hne : d ≠ I) (hdat : o.data = .dict es ep) :
    Walks prog w A I [I, d] [I] es.size (fun i v => ∃ en, es[i]? = some en ∧ v = en.key) (fun i h => h.IsKeyIter I d i es.size ep ∧ h.get? d = some o) where
  sub := fun b hb => by rw [List.mem_singleton.mp hb]; exact List.mem_cons_self
  frame := fun i h h' st k => ⟨st.1.at fun x e => k I (by simp) x e, k d (by simp) o st.2⟩
  item := fun i s Q E hi st hQ => by
    refine next_key_item st.1 st.2 hdat rfl (en := es[i]) (by simp [hi]) fun h' st' sb => ?_
    refine hQ _ h' s.toks ⟨es[i], by simp [hi], rfl⟩ ⟨st', (sb.2 d hne).trans st.2⟩ fun b x hb e => ?_
    exact (sb.2 b fun z => hb (by rw [z]; exact List.mem_singleton.mpr rfl)).trans e
  done := fun s Q E st hQ => by
    refine next_key_end hh st.1 st.2 hdat rfl (Nat.le_refl _) fun h' eb => hQ h' s.toks fun b x hb e => ?_
    exact eb b x (fun z => hb (by rw [z]; exact List.mem_singleton.mpr rfl)) e
  self := fun i s Q E st h => by
    have t := st.1.typeIs
    refine wpAny_pyIter_slot t F.slot_dict_keyiterator_iter (wpAny_call_entry F.slot_dict_keyiterator_iter t F.entry_dict_keyiterator_iter ?_ (F.args_dict_keyiterator_iter_1 _))
    refine wpAny_pure ⟨.ref I, rfl, "dict_keyiterator", _, t, F.slot_dict_keyiterator_next.lookup, h⟩
theorem src_keys (hd : (d == sysModules) = false) (hx : o.ExactDict) (hdat : o.data = .dict es ep) :
    PySem.W.KdlSrc prog w "dict" d d es.size (fun i v => ∃ en, es[i]? = some en ∧ v = en.key) (fun h => h.get? d = some o) where
  type := fun _ ho => ⟨o, ho, hx.1⟩
  there := fun _ ho => ⟨Heap.lt_size ho, Heap.lt_size ho⟩
  keep := fun _ _ ho k => k d (.inl rfl) o ho
  notList := by decide
  notTuple := by decide
  hint := fun _ _ _ _ ho hq => PySem.W.kdl_hint_dict ⟨o, ho, hx.1⟩ hq
  iter := fun A s hh ho => ⟨_, _, (fun _ _ hq => iter_keys hd ho hx hdat hq), walks_keys hh s.heap.objs.size (Nat.ne_of_lt (Heap.lt_size ho)) hdat,
    ⟨⟨_, Heap.get?_push_size _ rfl, rfl, rfl⟩, Heap.get?_push_of_some _ ho⟩⟩
end
/-! ### sorted(d), d's keys being pairs of texts -/
def txt2 (x : Str × Str) : List (Int ⊕ List Nat) := [.inr x.1.cps.toList, .inr x.2.cps.toList]
/-- ahead as pairs -/
def ltSS (x y : Str × Str) : Bool := (PyProof.Rows.listOrd PyProof.Rows.itemOrd).blt (txt2 x) (txt2 y)
def prOf (H : Hp) (b : Addr) : Str × Str := match H b with
  | some (.tup [.str x, .str y]) => (x, y)
  | _ => ("", "")
def rSortedT : List V → Hp → VK → Prop := fun xs H Q => ∃ (a : Addr) (kvs : List (List Key × V)) (ks : List (Str × Str)), xs = [.ref a] ∧ Rd H a (.dT kvs) ∧ kvs.map (·.1) = ks.map (fun x => [Sum.inr x.1, Sum.inr x.2]) ∧
  ∀ (as qs : List Addr) (p : Addr), as.map (prOf H) = ks → (∀ b ∈ as, H b = some (.tup [.str (prOf H b).1, .str (prOf H b).2])) → qs.Perm as →
    (∀ i j, i ≤ j → j < qs.length → ltSS (prOf H (qs.getD j 0)) (prOf H (qs.getD i 0)) = false) → H p = none → Q (.ref p) (upd H p (.lst (qs.map V.ref)))
theorem key_pair {H : Hp} {b : Addr} {x : Str × Str} (h : H b = some (.tup (([Sum.inr x.1, Sum.inr x.2] : List Key).map kV))) : prOf H b = x ∧ H b = some (.tup [.str (prOf H b).1, .str (prOf H b).2]) := by
  have h' : H b = some (.tup [.str x.1, .str x.2]) := h
  have e : prOf H b = x := by
    unfold prOf
    rw [h']
  rw [e]
  exact ⟨rfl, h'⟩
/-- the keys' own tuples -/
theorem keys_rel {H : Hp} : ∀ {kvs : List (List Key × V)} {xs : List (List Key × Addr × Value)} {ks : List (Str × Str)}, KT H kvs xs → kvs.map (·.1) = ks.map (fun x => [Sum.inr x.1, Sum.inr x.2]) →
    (xs.map fun q => q.2.1).map (prOf H) = ks ∧ ∀ b ∈ xs.map (fun q => q.2.1), H b = some (.tup [.str (prOf H b).1, .str (prOf H b).2])
  | [], [], [], .nil, _ => ⟨rfl, fun b h => by cases h⟩
  | p :: kvs, q :: xs, k :: ks, .cons h t, e => by
    obtain ⟨h1, h2, _⟩ := h
    injection e with e1 e2
    obtain ⟨a, b⟩ := keys_rel t e2
    have e1' : p.1 = [Sum.inr k.1, Sum.inr k.2] := e1
    rw [e1'] at h2
    obtain ⟨c, d⟩ := key_pair h2
    refine ⟨?_, fun x hx => ?_⟩
    · show prOf H q.2.1 :: _ = _
      rw [c, a]
    · rcases List.mem_cons.mp hx with e | hx
      · rw [e]
        exact d
      · exact b x hx
  | [], [], _ :: _, .nil, e => by cases e
  | _ :: _, _ :: _, [], .cons _ _, e => by cases e
def unR : Value → Addr
  | .ref b => b
  | _ => 0
theorem perm_back {l : List Value} {as : List Addr} (h : l.Perm (as.map Value.ref)) : ∃ qs : List Addr, l = qs.map Value.ref ∧ qs.Perm as := by
  refine ⟨l.map unR, ?_, ?_⟩
  · rw [List.map_map]
    have e : ∀ v ∈ l, (Value.ref ∘ unR) v = v := fun v hv => by
      obtain ⟨b, _, rfl⟩ := List.mem_map.mp (h.mem_iff.mp hv)
      rfl
    have e2 : l.map (Value.ref ∘ unR) = l.map id := List.map_congr_left fun v hv => e v hv
    rw [e2, List.map_id]
  · have h2 := h.map unR
    rw [List.map_map] at h2
    have e : as.map (unR ∘ Value.ref) = as := by
      have e3 : as.map (unR ∘ Value.ref) = as.map id := List.map_congr_left fun v _ => rfl
      rw [e3, List.map_id]
    rw [e] at h2
    exact h2
section
variable {X : Cx}
theorem call_sortedT (hcalm : X.calm = true) : CallR X (.builtin "sorted") rSortedT := by
  intro pins s σ H xs us Q I r q
  obtain ⟨a, kvs, ks, rfl, hd, hks, q⟩ := q
  obtain ⟨u, rfl, rx⟩ := vals1 r
  cases rx
  obtain ⟨z, lo, vs, rel, o, es, ep, ho, hx, hdat, hes, nd⟩ := (show ObjOk X.prog X.w H s.heap a (.dT kvs) from rd_of I.hok hd)
  obtain ⟨k1, k2⟩ := keys_rel rel hks
  have hlen : es.size = vs.length := by
    rw [← Array.length_toList, hes, List.length_map]
  have hz : kvs.length = vs.length := Paired.length rel
  refine Calls.call_function_entry PyProof.Rows.kind_sorted PyProof.Rows.plain_sorted PyProof.Rows.entry_sorted (PyProof.Rows.args_sorted1 _) ?_
  unfold Builtin.«sorted»
  refine wpAny_bind (m := checkCount "sorted" 1 1 _) (wpAny_pure ?_)
  refine wpAny_bind (PySem.W.kdu_collect (A := X.A.in1) (src_keys lo hx hdat) (I.ok.hd hcalm) ho (by omega) fun h' tk acc hk hacc => ?_)
  have hacc' : acc.toList = (vs.map fun q => q.2.1).map Value.ref := by
    refine List.ext_getElem? fun j => ?_
    rw [List.map_map, List.getElem?_map]
    have e1 : acc.toList[j]? = acc[j]? := Array.getElem?_toList
    rw [e1]
    cases h1 : acc[j]? with
    | none =>
      have h2 : acc.size ≤ j := Array.getElem?_eq_none_iff.mp h1
      rw [hacc.1, hlen] at h2
      rw [List.getElem?_eq_none h2]
      rfl
    | some v =>
      obtain ⟨en, h2, rfl⟩ := hacc.2 j v h1
      have h3 : es.toList[j]? = some en := by rw [Array.getElem?_toList]; exact h2
      rw [hes, List.getElem?_map] at h3
      cases h4 : vs[j]? with
      | none => rw [h4] at h3; cases h3
      | some y =>
        rw [h4] at h3
        cases h3
        rfl
  have I1 : Inv X pins σ H { s with heap := h', toks := tk } := I.kept hk
  generalize vs.map (fun q => q.2.1) = as at k1 k2 hacc'
  have hal : acc.toList.length ≤ sizeLine := by
    rw [Array.length_toList, hacc.1]
    omega
  refine wpAny_bind (wpAny_newList ?_ hal)
  rw [hacc']
  rw [hacc'] at hal
  have hoL : (h'.push (seqObj "list" (as.map Value.ref).toArray 0)).get? h'.objs.size = some (seqObj "list" (as.map Value.ref).toArray 0) := Heap.get?_push_size _ rfl
  show wpAny _ _ _ _ _ { s with heap := h'.push (seqObj "list" (as.map Value.ref).toArray 0), toks := tk }
  have obj : ∀ b ∈ as, ∃ (ob : Obj) (n : Nat) (t1 t2 : Tok), (h'.push (seqObj "list" (as.map Value.ref).toArray 0)).get? b = some ob ∧ ob.cls = .type "tuple" ∧ ob.data = .seq #[.str (prOf H b).1 t1, .str (prOf H b).2 t2] n := by
    intro b hb
    obtain ⟨_, its, r2, ob, h1, h2, n, h3⟩ := (show ObjOk X.prog X.w H h' b (.tup [.str (prOf H b).1, .str (prOf H b).2]) from I1.hok b _ (k2 b hb))
    obtain ⟨u1, u2, rfl, ⟨t1, rfl⟩, ⟨t2, rfl⟩⟩ := vals2 r2
    exact ⟨ob, n, t1, t2, Heap.get?_push_of_some _ h1, h2, h3⟩
  have tups : ∀ l : List Addr, (∀ b ∈ l, b ∈ as) → ∃ fs, PyProof.Rows.TupsOf (h'.push (seqObj "list" (as.map Value.ref).toArray 0)) (fun _ => true) (l.map Value.ref) fs := by
    intro l
    induction l with
    | nil => intro _; exact ⟨[], .nil⟩
    | cons b l ih =>
      intro hl
      obtain ⟨fs, hf⟩ := ih fun x hx => hl x (List.mem_cons_of_mem _ hx)
      obtain ⟨ob, n, t1, t2, h1, h2, h3⟩ := obj b (hl b List.mem_cons_self)
      exact ⟨_, .cons ⟨b, ob, _, n, rfl, h1, h2, h3, rfl, fun z => (by cases z), fun _ => ⟨_, _, rfl⟩⟩ hf⟩
  obtain ⟨fs, hfs⟩ := tups as fun _ h => h
  have keyC : ∀ b ∈ as, PyProof.Rows.G.tupKeyC (h'.push (seqObj "list" (as.map Value.ref).toArray 0)) (fun _ => true) (.ref b) = some (txt2 (prOf H b)) := by
    intro b hb
    obtain ⟨ob, n, t1, t2, h1, h2, h3⟩ := obj b hb
    have hT : PyProof.Rows.G.isTupObj (h'.push (seqObj "list" (as.map Value.ref).toArray 0)) (.ref b) = true := by
      simp [PyProof.Rows.G.isTupObj, h1, h2]
    unfold PyProof.Rows.G.tupKeyC
    rw [if_pos hT]
    simp only [PyProof.Rows.tupKey, h1, h3]
    rfl
  refine wpAny_bind (wpAny_holding (wpAny_call_entry PyProof.Rows.slot_list_sort ⟨_, hoL, rfl⟩ PyProof.Rows.entry_list_sort
    (PyProof.Rows.G.list_sort_tups (s := { s with heap := h'.push (seqObj "list" (as.map Value.ref).toArray 0), toks := tk }) hoL hfs
      (fun v hv => ?_) hal fun st' hp hs _ => ⟨_, rfl, ?_⟩) (PyProof.Rows.args_list_sort _)))
  · obtain ⟨b, hb, rfl⟩ := List.mem_map.mp hv
    exact ⟨_, keyC b hb⟩
  obtain ⟨e', he'⟩ := PyProof.Rows.sortedHeap_at (vs := as.map Value.ref) (out := (arrOf st').map (·.2)) hoL
  have mem : ∀ p ∈ (arrOf st').toList, p.1 = p.2 ∧ p.1 ∈ as.map Value.ref := fun p hp' => by
    have h1 := (hp.toList.mem_iff (a := p)).mp hp'
    rw [PyProof.Rows.pairsOf_toList] at h1
    exact PyProof.Rows.mem_zip_self h1
  obtain ⟨qs, hq1, hq2⟩ : ∃ qs : List Addr, (arrOf st').toList.map (·.2) = qs.map Value.ref ∧ qs.Perm as := by
    have h1 : ((arrOf st').toList.map (·.2)).Perm (as.map Value.ref) := by
      have h2 := hp.toList.map (fun p : Keyed => p.2)
      rw [PyProof.Rows.pairsOf_toList] at h2
      rw [List.map_snd_zip (Nat.le_refl _)] at h2
      exact h2
    exact perm_back h1
  have hql : qs.length = as.length := hq2.length_eq
  have harr : (arrOf st').toList.length = qs.length := by
    have h1 := congrArg List.length hq1
    rw [List.length_map, List.length_map] at h1
    exact h1
  have hkk : ∀ i, i < qs.length → PyProof.Rows.KK (PyProof.Rows.G.tupKindC (h'.push (seqObj "list" (as.map Value.ref).toArray 0)) fun _ => true) (arrOf st') i = txt2 (prOf H (qs.getD i 0)) := by
    intro i hi
    have hi' : i < (arrOf st').toList.length := by omega
    have e1 : (arrOf st')[i]? = some (arrOf st').toList[i] := by
      rw [← Array.getElem?_toList, List.getElem?_eq_getElem hi']
    obtain ⟨m1, m2⟩ := mem _ (List.getElem_mem hi')
    have e2 : (arrOf st').toList[i].2 = .ref (qs.getD i 0) := by
      have h1 := congrArg (fun l => l[i]?) hq1
      simp only [List.getElem?_map, List.getElem?_eq_getElem hi', List.getElem?_eq_getElem hi, Option.map_some, Option.some.injEq] at h1
      rw [h1, List.getD_eq_getElem?_getD, List.getElem?_eq_getElem hi]
      rfl
    have hin : qs.getD i 0 ∈ as := hq2.mem_iff.mp (by rw [List.getD_eq_getElem?_getD, List.getElem?_eq_getElem hi]; exact List.getElem_mem hi)
    unfold PyProof.Rows.KK
    rw [e1]
    show (PyProof.Rows.G.tupKeyC _ _ (arrOf st').toList[i].1).getD _ = _
    rw [m1, e2, keyC _ hin]
    rfl
  have srt : ∀ i j, i ≤ j → j < qs.length → ltSS (prOf H (qs.getD j 0)) (prOf H (qs.getD i 0)) = false := by
    intro i j hij hj
    have h1 := hs i j hij (by rw [PyProof.Rows.pairsOf_size, List.length_map]; omega)
    rw [hkk i (by omega), hkk j hj] at h1
    exact h1
  have vals : ∀ l : List Addr, Vals (l.map V.ref) (l.map Value.ref) := fun l => by
    induction l with
    | nil => exact .nil
    | cons b l ih => exact .cons rfl ih
  have hout : ((arrOf st').map (·.2)).toList = qs.map Value.ref := by
    rw [Array.toList_map]
    exact hq1
  have hz2 : (qs.map V.ref).length ≤ sizeLine := by
    rw [List.length_map, hql]
    rw [List.length_map] at hal
    exact hal
  have fresh := I1.hok.fresh (Nat.le_refl h'.objs.size)
  refine wpAny_pure ⟨.ref h'.objs.size, rfl, .ref h'.objs.size, upd H h'.objs.size (.lst (qs.map V.ref)), ?_, rfl, q as qs _ k1 k2 hq2 srt fresh⟩
  refine I1.laid (t' := tk) (fun b u e => ?_) (Nat.le_refl _) ⟨hz2, qs.map Value.ref, e', vals qs, ?_⟩
  · have hb : b < h'.objs.size := Heap.lt_size e
    rw [PyProof.Rows.sortedHeap_old (Nat.ne_of_lt hb) (by rw [size_push']; exact Nat.lt_succ_of_lt hb)]
    exact Heap.get?_push_of_some _ e
  · rw [← hout, Array.toArray_toList]
    exact he'
end
end Mq

namespace Mq
open PySem PySem.Spec PyProof.Rows L2
/-! ### pairs of texts by <= -/
def leSS (x y : Str × Str) : Bool := if x.1 = y.1 then (if x.2 = y.2 then true else !decide (y.2.cps.toList < x.2.cps.toList)) else !decide (y.1.cps.toList < x.1.cps.toList)
theorem op_leSS {X : Cx} (hu : X.A.units < cLine) : OpR X (compareOp .LtE) (fun x y H Q => ∃ (a b : Addr) (p q : Str × Str), x = .ref a ∧ y = .ref b ∧ SqT X.K H a [.str p.1, .str p.2] ∧ SqT X.K H b [.str q.1, .str q.2] ∧ Q (.bl (leSS p q)) H) := by
  intro pins s σ H x y v u Q I rx ry h
  obtain ⟨a, b, p, q, rfl, rfl, ha, hb, k⟩ := h
  cases rx
  cases ry
  obtain ⟨its, r1, p1, _⟩ := I.tuple ha
  obtain ⟨its2, r2, p2, _⟩ := I.tuple hb
  obtain ⟨u1, u2, rfl, ⟨t1, rfl⟩, ⟨t2, rfl⟩⟩ := vals2 r1
  obtain ⟨v1, v2, rfl, ⟨t3, rfl⟩, ⟨t4, rfl⟩⟩ := vals2 r2
  let e : Nat → Bool := fun j => if j = 0 then p.1 == q.1 else p.2 == q.2
  let r : Nat → Bool := fun j => if j = 0 then !decide (q.1.cps.toList < p.1.cps.toList) else !decide (q.2.cps.toList < p.2.cps.toList)
  have R := Ob.RcOp.tuples_le (A := X.A) (s := s) (e := e) (r := r) p1 p2 hu (fun j h1 h2 => by
    match j, h1, h2 with
    | 0, _, _ => exact SeqAt.EqAt.str_str _ _ _ _
    | 1, _, _ => exact SeqAt.EqAt.str_str _ _ _ _) (fun j h1 h2 _ => by
    match j, h1, h2 with
    | 0, _, _ => exact fun prog w E Q h => PySem.P.le_str h
    | 1, _, _ => exact fun prog w E Q h => PySem.P.le_str h)
  have z : Ob.lexAt e r (decide ((#[Value.str p.1 t1, Value.str p.2 t2] : Array Value).size ≤ (#[Value.str q.1 t3, Value.str q.2 t4] : Array Value).size)) 0 2 = leSS p q := by
    show (if (p.1 == q.1) = true then (if (p.2 == q.2) = true then true else !decide (q.2.cps.toList < p.2.cps.toList)) else !decide (q.1.cps.toList < p.1.cps.toList)) = _
    unfold leSS
    simp only [beq_iff_eq]
  have R2 : Ob.RcOp .LtE X.A s (.ref a) (.ref b) (leSS p q) := by
    rw [← z]
    exact R
  exact R2 X.prog X.w X.xe (EP X pins σ Q) ⟨.bl _, H, I, rfl, k⟩
/-- ahead, so not behind or equal -/
theorem le_of_lt {x y : Str × Str} (h : ltSS y x = true) : leSS x y = false := by
  have h1 : (decide (y.1.cps.toList < x.1.cps.toList) || (!decide (x.1.cps.toList < y.1.cps.toList) && (decide (y.2.cps.toList < x.2.cps.toList) || (!decide (x.2.cps.toList < y.2.cps.toList) && false)))) = true := h
  unfold leSS
  by_cases c1 : y.1.cps.toList < x.1.cps.toList
  · rw [if_neg (fun z => by rw [z] at c1; exact List.lt_irrefl _ c1), decide_eq_true c1]
    rfl
  · rw [decide_eq_false c1] at h1
    simp only [Bool.false_or, Bool.and_false, Bool.or_false, Bool.and_eq_true, Bool.not_eq_true', decide_eq_false_iff_not, decide_eq_true_eq] at h1
    obtain ⟨c2, c3⟩ := h1
    have e : x.1.cps.toList = y.1.cps.toList := List.le_antisymm (List.not_lt.mp c1) (List.not_lt.mp c2)
    have e' : x.1 = y.1 := congrArg Str.mk (Array.ext' e)
    rw [if_pos e', if_neg (fun z => by rw [z] at c3; exact List.lt_irrefl _ c3), decide_eq_true c3]
    rfl
theorem lt_of {x y : Str × Str} (h : ltSS x y = false) (n : x ≠ y) : ltSS y x = true := by
  cases e : ltSS y x with
  | true => rfl
  | false =>
    have h2 : txt2 x = txt2 y := (PyProof.Rows.listOrd PyProof.Rows.itemOrd).total _ _ h e
    injection h2 with h3 h4
    injection h4 with h5 _
    have e1 : x.1.cps.toList = y.1.cps.toList := by injection h3
    have e2 : x.2.cps.toList = y.2.cps.toList := by injection h5
    exact (n (Prod.ext (congrArg Str.mk (Array.ext' e1)) (congrArg Str.mk (Array.ext' e2)))).elim
end Mq

namespace Mq
open PySem PySem.Spec PyProof.Rows L2
open SX (S)
/-! ### a text cut at a sign -/
def spl (c : Nat) (a : List Nat) : List (List Nat) := (Txt.split (S a) (S [c])).map fun x => x.cps.toList
theorem spl_S (c : Nat) (a : List Nat) : Txt.split (S a) (S [c]) = (spl c a).map S := by
  unfold spl
  rw [List.map_map]
  exact (List.map_id _).symm
theorem spl_join (c : Nat) (a : List Nat) : TL.joinL [c] (spl c a) = a := by
  have h := StrLaws.join_split (S a) (S [c])
  rw [spl_S] at h
  have h2 : Txt.join (S [c]) ((spl c a).map S) = S a := (TL.join_eq _ _).trans h
  rw [SX.join_S] at h2
  exact SX.S_inj h2
theorem spl_of {c : Nat} (hc : c < 256) {ps : List (List Nat)} (hn : ps ≠ []) (h : ∀ p ∈ ps, c ∉ p) : spl c (TL.joinL [c] ps) = ps := by
  have h1 := TL.split_join (y := S [c]) (s := c) (S := []) rfl (by simp [S, hc]) (parts := ps.map S) (by simpa using hn) (fun p hp => by
    obtain ⟨q, hq, rfl⟩ := List.mem_map.mp hp
    exact h q hq)
  rw [SX.join_S, spl_S] at h1
  have h2 := congrArg (List.map fun x : Str => x.cps.toList) h1
  rw [List.map_map, List.map_map] at h2
  have e : ∀ xs : List (List Nat), xs.map ((fun x : Str => x.cps.toList) ∘ S) = xs := fun xs => List.map_id _
  rw [e, e] at h2
  exact h2
theorem spl_ne (c : Nat) (a : List Nat) : spl c a ≠ [] := by
  intro h
  have := PyProof.Rows.split_pos (S a) (S [c])
  rw [spl_S, h] at this
  cases this
theorem join_len (c : Nat) : ∀ ps : List (List Nat), ps ≠ [] → (TL.joinL [c] ps).length + 1 = (ps.map fun p => p.length + 1).sum
  | [], h => (h rfl).elim
  | [p], _ => by simp [TL.joinL]
  | p :: q :: r, _ => by
    have ih := join_len c (q :: r) (by simp)
    show (p ++ ([c] ++ TL.joinL [c] (q :: r))).length + 1 = (p.length + 1) + ((q :: r).map fun p => p.length + 1).sum
    rw [← ih]
    simp only [List.length_append, List.length_singleton]
    omega
theorem join_mem (c : Nat) : ∀ {ps : List (List Nat)} {p : List Nat}, p ∈ ps → ∀ d ∈ p, d ∈ TL.joinL [c] ps
  | [q], p, h, d, hd => by
    rw [List.mem_singleton.mp h] at hd
    exact hd
  | q :: q2 :: r, p, h, d, hd => by
    show d ∈ q ++ ([c] ++ TL.joinL [c] (q2 :: r))
    rcases List.mem_cons.mp h with rfl | h
    · exact List.mem_append_left _ hd
    · exact List.mem_append_right _ (List.mem_append_right _ (join_mem c h d hd))
theorem join_in (c : Nat) : ∀ {ps : List (List Nat)} {d : Nat}, d ∈ TL.joinL [c] ps → d = c ∨ ∃ p ∈ ps, d ∈ p
  | [], d, h => by cases h
  | [q], d, h => Or.inr ⟨q, List.mem_cons_self, h⟩
  | q :: q2 :: r, d, h => by
    have h : d ∈ q ++ ([c] ++ TL.joinL [c] (q2 :: r)) := h
    rcases List.mem_append.mp h with h | h
    · exact Or.inr ⟨q, List.mem_cons_self, h⟩
    rcases List.mem_append.mp h with h | h
    · exact Or.inl (List.mem_singleton.mp h)
    · rcases join_in c h with e | ⟨p, hp, e⟩
      · exact Or.inl e
      · exact Or.inr ⟨p, List.mem_cons_of_mem _ hp, e⟩
theorem sum_ge : ∀ {ps : List (List Nat)} {p : List Nat}, p ∈ ps → p.length + 1 ≤ (ps.map fun p => p.length + 1).sum
  | q :: r, p, h => by
    rw [List.map_cons, List.sum_cons]
    rcases List.mem_cons.mp h with rfl | h
    · omega
    · have := sum_ge h
      omega
theorem sum_many : ∀ ps : List (List Nat), ps.length ≤ (ps.map fun p => p.length + 1).sum
  | [] => Nat.zero_le _
  | q :: r => by
    rw [List.map_cons, List.sum_cons, List.length_cons]
    have := sum_many r
    omega
theorem spl_sum (c : Nat) (a : List Nat) : ((spl c a).map fun p => p.length + 1).sum = a.length + 1 := by
  have h := join_len c (spl c a) (spl_ne c a)
  rw [spl_join] at h
  exact h.symm
theorem spl_len {c : Nat} {a p : List Nat} (h : p ∈ spl c a) : p.length ≤ a.length := by
  have h1 := sum_ge h
  rw [spl_sum] at h1
  omega
theorem spl_many (c : Nat) (a : List Nat) : (spl c a).length ≤ a.length + 1 := by
  rw [← spl_sum c a]
  exact sum_many _
theorem spl_mem {c : Nat} {a p : List Nat} (h : p ∈ spl c a) {d : Nat} (hd : d ∈ p) : d ∈ a := by
  have := join_mem c h d hd
  rw [spl_join] at this
  exact this
end Mq


namespace MqE_line
open PySem PySem.Spec PyProof.Rows L2 Mq PySem.W PySem.Calls
/-! ### errors whose one parameter is line -/
def iA (p1 p2 : Pos) : Arguments := { posonlyargs := [], args := [{ arg := "self", annotation := none, pos := p1 }, { arg := "line", annotation := none, pos := p2 }], vararg := none, kwonlyargs := [], kw_defaults := [], kwarg := none, defaults := [] }
def iB (q1 q2 q3 q4 : Pos) : List Stmt := [.Assign [.Attribute (.Name "self" q1) "line" q2] (.Name "line" q3) q4]
def iS : Scope := { kind := .function, names := [(PySem.Str.ofString "self", .local), (PySem.Str.ofString "line", .local)], isGenerator := false, isCoroutine := false, more := [] }
/-- what the written part says of the class x at C, and of its __init__ at fI -/
structure Txt (K : Frag) (mg : Str → Option Value) (x qual : Str) (C fI : Addr) : Prop where
  gC : mg x = some (.ref C)
  kC : keepIn K (.ref C) = true
  ex : excInitIn K C exTail "Exception.__new__" = true
  ov : excOver K C exTail = true
  hdC : hasDictIn K C = true
  tk : takerIn K C "line" = some none
  sa : findIn K (.ref C) "__setattr__" = some (some (.builtin "object.__setattr__"))
  iC : findIn K (.ref C) "__init__" = some (some (.ref fI))
  tC : typeIn K (.ref fI) = some (.type "function")
  exC : subIn K (.ref C) (.type "BaseException") = some true
  tyC : typeIn K (.ref C) = some (.type "type")
  fn : ∃ (oc : Value) (od : Option Addr) (doc pm : Value) (an : Option Addr) (cdv ct : Value) (osl : Array (Option Value)) (p1 p2 q1 q2 q3 q4 : Pos),
    K.lookup fI = some ⟨oc, od, .func (fnOf "__init__" qual (iA p1 p2) (iB q1 q2 q3 q4) iS .none .none doc pm an cdv ct), osl⟩ ∧ codeIn K cdv qual = true
theorem ld_loc {M : Model} {s : Shared} {name : Str} {scope : Scope} {L a : Addr} {cd : Value} {m : Str → Option Value} {y : Str} {pos : Pos} {v : Value}
    {Q : Value → Shared → Prop} {A : Around} {E : Value → Shared → Prop} (hn : s.heap.Ns L m) (hv : m y = some v) (h : Q v s)
    (hk : scope.kind = .function := by rfl) (hl : (envOfC name scope L a cd).kindOf y = some .local := by rfl) (hd : (y == ("__debug__" : Str)) = false := by decide) :
    wpAny M A (eval (.Name y pos) (envOfC name scope L a cd)) Q E s := wpAny_Name (wpAny_loadName_local hk hl hn hv h) hd
/-- what __init__ leaves of a new error at e -/
structure Filled (h h' : Heap) (e C dx t1 : Addr) (v : Value) : Prop where
  keep : ∀ b o, b ≠ e → h.get? b = some o → h'.get? b = some o
  obj : h'.get? e = some (excObj C t1 (some dx) .none)
  big : h.objs.size ≤ dx
  ne : dx ≠ e
  ns : h'.Ns1 dx (fun y => if y = "line" then some v else none)
/-- a made error -/
structure Made (h h' : Heap) (e C d : Addr) (v : Value) : Prop where
  keep : ∀ b o, h.get? b = some o → h'.get? b = some o
  new : h.objs.size ≤ e
  obj : ∃ oe vs, h'.get? e = some oe ∧ oe.cls = .ref C ∧ oe.dict = some d ∧ oe.data = .fields vs ∧ vs[1]? = some .none
  big : h.objs.size ≤ d
  ne : d ≠ e
  ns : h'.Ns1 d (fun y => if y = "line" then some v else none)
section
variable {prog : Program} {w : World} {A : Around} {E : Value → Shared → Prop} {R : Result → Shared → Prop} {s : Shared} {K : Frag} {mg : Str → Option Value} {x qual : Str} {C fI : Addr}
theorem init_run (T : Txt K mg x qual C fI) {e t0 : Addr} {v : Value} (X : K.In s.heap) (lim : s.heap.NoLimit) (he : s.heap.get? e = some (excObj C t0 none .none)) (room : A.depth < recursionLimit)
    (hq : ∀ h' tk dx, Filled s.heap h' e C dx t0 v → R (.ok (.ret .none)) { s with heap := h', toks := tk }) :
    codeAny (model prog w) A (.call (.ref fI) ⟨[.ref e, v], []⟩) R s := by
  obtain ⟨oc, od, doc, pm, an, cdv, ct, osl, p1, p2, q1, q2, q3, q4, ho, hcd⟩ := T.fn
  refine Att.call_fn (binds := [("self", .ref e), ("line", v)]) X lim ho hcd room (BindsTo.of_eq (by first | rfl | with_unfolding_all rfl)) (by first | rfl | decide | with_unfolding_all rfl) (fun s₁ IC => ?_) rfl rfl rfl
  obtain ⟨h₁, tk₁, rfl⟩ := IC.toInCall.same
  have k : ∀ b o, s.heap.get? b = some o → h₁.get? b = some o := IC.toInCall.keep
  have hn := IC.toInCall.ns
  have X₁ : K.In h₁ := X.keeps k
  have he₁ := k _ _ he
  show wpAny _ _ (execs _ _) _ _ _
  refine wpAny_execs_cons (plainObj_wpAny_Assign_Attribute ?_)
  refine ld_loc (v := v) hn (by first | rfl | with_unfolding_all rfl | kernel_rfl) (ld_loc (v := .ref e) hn (by first | rfl | with_unfolding_all rfl | kernel_rfl) ?_)
  refine set_plain X₁ (ox := excObj C t0 none .none) (od := none) ⟨he₁, rfl, rfl, trivial⟩ T.sa ?_
  refine osa_first X₁ he₁ T.ov T.hdC T.tk (fun h₃ tk₃ dx k₃ dn dne he₃ hn₃ => ?_)
  show wpAny _ _ (execs _ _) _ _ _
  have z : s.heap.objs.size < h₁.objs.size := hn.lt
  exact wpAny_execs_nil (hq h₃ tk₃ dx ⟨fun b o hb e => k₃ b o hb (k b o e), he₃, Nat.le_of_lt (Nat.lt_of_lt_of_le z dn), dne, hn₃⟩)
theorem made_run (T : Txt K mg x qual C fI) {v : Value} (X : K.In s.heap) (lim : s.heap.NoLimit) (room : A.depth + 1 < recursionLimit)
    (hq : ∀ h' tk e d, Made s.heap h' e C d v → R (.ok (.ret (.ref e))) { s with heap := h', toks := tk }) :
    codeAny (model prog w) A (.call (.ref C) ⟨[v], []⟩) R s := by
  obtain ⟨nm, N, qn, bs, bm, hdct, sn, sub, ab, col, dd, k0, k1, k2, k3, k5, hC, hT⟩ := excInit_of X T.ex
  obtain ⟨hp, g, dr, tk, os⟩ := s
  have k : ∀ b o, hp.get? b = some o → ((hp.push (kdv_tup [v])).push (HandSPX.excO C hp.objs.size)).get? b = some o := fun b o e => Heap.get?_push_of_some _ (Heap.get?_push_of_some _ e)
  have hget : ((hp.push (kdv_tup [v])).push (HandSPX.excO C hp.objs.size)).get? (hp.objs.size + 1) = some (excObj C hp.objs.size none .none) := by heap_get
  refine HandSPX.call_own F.excBase_Exception hT hC (looks_findIn X T.iC) (fun self => bind_fn X self T.tC) (by rw [sizeLine_eq]; exact (by decide : 1 ≤ 16777216)) ?_
  refine init_run (s := ⟨(hp.push (kdv_tup [v])).push (HandSPX.excO C hp.objs.size), g, dr, tk, os⟩) T (X.keeps k) (lim.keeps k) hget ?_ (fun h' tk' dx M => ?_)
  · show A.depth + 1 < recursionLimit
    exact room
  · obtain ⟨k', hx, dn, dne, hns⟩ := M
    have old : ∀ b o, hp.get? b = some o → h'.get? b = some o := fun b o e => k' b o (Nat.ne_of_lt (Nat.lt_succ_of_lt (Heap.lt_size e))) (k b o e)
    have z : hp.objs.size + 1 + 1 ≤ dx := by
      have q := dn
      rw [Heap.size_push, Heap.size_push] at q
      exact q
    exact ⟨rfl, hq h' tk' (hp.objs.size + 1) dx ⟨old, Nat.le_succ _, ⟨_, _, hx, rfl, rfl, rfl, rfl⟩, Nat.le_trans (Nat.le_trans (Nat.le_succ _) (Nat.le_succ _)) z, dne, hns⟩⟩
end
theorem relO_f {v : V} {v' : Value} (r : RelV v v') (f : Str) : RelO (List.lookup f [(("line" : Str), v)]) (if f = "line" then some v' else none) := by
  by_cases hw : f = "line"
  · subst hw
    rw [if_pos rfl]
    have q : List.lookup ("line" : Str) [(("line" : Str), v)] = some v := by simp [List.lookup]
    rw [q]
    exact r
  · rw [if_neg hw]
    have qw : (f == ("line" : Str)) = false := by simpa using hw
    have q2 : List.lookup f [(("line" : Str), v)] = none := by simp [List.lookup, qw]
    rw [q2]
    trivial
section
variable {X : Cx} {C fI : Addr} {x qual : Str}
/-- x(e) -/
def tMk (C : Addr) (ta : TA) : L2.St → Hp → XK → Prop := fun σ H Q => ta σ H fun vs H1 => ∃ v, vs = [v] ∧ ∀ d, H1 d = none → Q (.ref C) (some d) (upd H1 d (.xd [(("line" : Str), v)]))
theorem pmk {a : Expr} {ta : TA} {p pos : Pos} {k : Nat} (T : Txt X.K X.mg x qual C fI) (hr : Room k X.A) (ha : PA X [a] ta) (hg : Gl X x := by rfl) (hdb : (x == ("__debug__" : Str)) = false := by decide)
    (he : starEach (a :: []) X.env = (false, eval a X.env) :: starEach [] X.env := by rfl) (hpl : (backTo pos (starEach [] X.env)).any (·.1) = false := by rfl) :
    PMk X (.Call (.Name x p) [a] [] pos) (tMk C ta) := by
  intro pins s σ H Q I h
  refine wpAny_Call_Name_kw (ld_glob I hg T.gC ?_ hdb)
  refine callWith_K (h₀ := X.base) I.ok.mod.kin T.kC (thn (ha.run pos pins s σ H _ I h) fun us s1 hh => ?_) he hpl
  obtain ⟨vs, H1, I1, r1, v, ev, q1⟩ := hh
  subst ev
  refine ⟨I1.kIn, ?_⟩
  cases r1 with
  | cons rv rn =>
    rename_i v' us'
    cases rn
    show wpAny _ _ (call (.ref C) [v']) _ _ _
    have hlim := I1.nolimit
    obtain ⟨hp, g, dr, tk, os⟩ := s1
    refine wpAny_call (made_run T I1.kIn hlim (by have := hr.dp; omega) (fun h' tk' e d M => ?_))
    show MkP X pins σ Q (.ref e) ⟨h', g, dr, tk', os⟩
    obtain ⟨oe, fv, hoe, hc, hd, hdat, h1⟩ := M.obj
    have hns := M.ns
    obtain ⟨G', g1, g2⟩ := restrict h' fun b => decide (b ≠ e)
    have gk : ∀ b, b ≠ e → G'.get? b = h'.get? b := fun b hb => g1 b (decide_eq_true hb)
    have ge : G'.get? e = none := g2 e (by simp)
    have old : ∀ b o, hp.get? b = some o → G'.get? b = some o := fun b o q => (gk b (Nat.ne_of_lt (Nat.lt_of_lt_of_le (Heap.lt_size q) M.new))).trans (M.keep b o q)
    have ob : ObjOk X.prog X.w (upd H1 d (.xd [(("line" : Str), v)])) G' d (.xd [(("line" : Str), v)]) :=
      ⟨_, hns.at (fun o q => (gk d M.ne).trans q), fun f => relO_f rv f⟩
    have J : L2.Inv X pins σ (upd H1 d (.xd [(("line" : Str), v)])) ⟨G', g, dr, tk', os⟩ := I1.laid (t' := tk') old M.big ob
    refine ⟨e, oe, fv, ⟨G', g, dr, tk', os⟩, _, .ref C, some d, rfl, J, (fun b o q => ?_), ge, hoe, ⟨hc, hd⟩, hdat, h1, ?_, rfl, I1.bare, raises_own T.exC T.tyC, q1 d (I1.hok.fresh M.big)⟩
    · by_cases hb : b = e
      · have q' : G'.get? b = some o := q
        rw [hb, ge] at q'
        cases q'
      · exact (gk b hb).symm.trans q
    · rw [upd_ne (Ne.symm M.ne)]
      exact I1.hok.fresh M.new
/-- raise x(e) -/
def tRaise (C : Addr) (W : WX) (ta : TA) : TS := fun _ σ H => tMk C ta σ H fun cls d H' => W cls d σ H'
theorem ps_raise {a : Expr} {ta : TA} {W : WX} {p pos pos2 : Pos} {k : Nat} (hc : X.calm = true) (T : Txt X.K X.mg x qual C fI) (hr : Room k X.A) (tk : Takes X W) (ha : PA X [a] ta) (hg : Gl X x := by rfl) (hdb : (x == ("__debug__" : Str)) = false := by decide)
    (he : starEach (a :: []) X.env = (false, eval a X.env) :: starEach [] X.env := by rfl) (hpl : (backTo pos (starEach [] X.env)).any (·.1) = false := by rfl) :
    PS X (.Raise (some (.Call (.Name x p) [a] [] pos)) none pos2) (tRaise C W ta) := L2.ps_raise hc tk (pmk T hr ha hg hdb he hpl)
end
end MqE_line

namespace Mq
open PySem PySem.Spec PyProof.Rows L2
/-- repr of a list or tuple without dicts in it, wherever it stands -/
def rRepP (K : PySem.W.Frag) : List V → Hp → VK → Prop := fun xs H Q => ∃ (a : Addr) (d : PyData), xs = [.ref a] ∧ Dp K H (.ref a) d ∧ d.showable = true ∧ d.hasDict = false ∧
  d.depth ≤ 40 ∧ d.shown.length ≤ sizeLine ∧ Q (.str d.shown) H
theorem call_repP {X : Cx} {k : Nat} (hr : Room k X.A) (gA : Still X.A) : CallR X (.builtin "repr") (rRepP X.K) := by
  intro pins s σ H xs us Q I r h
  obtain ⟨a, d, rfl, hd, hs, hz, hde, hl, q⟩ := h
  obtain ⟨u, rfl, rx⟩ := vals1 r
  have hu := hr.units
  obtain ⟨as, rd⟩ := Dp.reads I d _ _ hd rx
  cases rx
  exact repr_of_reads' rd hs (fun z => by rw [hz] at z; cases z) gA (by omega) (fun _ _ e => e) (fun h' u tk k => ⟨.str _, H, I.kept k, ⟨_, rfl⟩, q⟩) hl
/-- what a rule asks, told otherwise -/
theorem PE_imp {X : Cx} {e : Expr} {t t' : TE} (h : PE X e t) (i : ∀ σ H Q, t' σ H Q → t σ H Q) : PE X e t' := ⟨fun pins s σ H Q I q => h.run pins s σ H Q I (i σ H Q q)⟩
end Mq

namespace Mq
open PySem PySem.Spec PyProof.Rows L2
/-! ### (number, text) < (number, text) -/
def ltIS (x y : Int × Str) : Bool := if x.1 = y.1 then (if x.2 = y.2 then false else decide (x.2.cps.toList < y.2.cps.toList)) else decide (x.1 < y.1)
theorem op_ltIS {X : Cx} (hu : X.A.units < cLine) : OpR X (compareOp .Lt) (fun x y H Q => ∃ (a b : Addr) (p q : Int × Str), x = .ref a ∧ y = .ref b ∧ SqT X.K H a [.int p.1, .str p.2] ∧ SqT X.K H b [.int q.1, .str q.2] ∧ Q (.bl (ltIS p q)) H) := by
  intro pins s σ H x y v u Q I rx ry h
  obtain ⟨a, b, p, q, rfl, rfl, ha, hb, k⟩ := h
  cases rx
  cases ry
  obtain ⟨its, r1, p1, _⟩ := I.tuple ha
  obtain ⟨its2, r2, p2, _⟩ := I.tuple hb
  obtain ⟨u1, u2, rfl, ⟨t1, rfl⟩, ⟨t2, rfl⟩⟩ := vals2 r1
  obtain ⟨v1, v2, rfl, ⟨t3, rfl⟩, ⟨t4, rfl⟩⟩ := vals2 r2
  let e : Nat → Bool := fun j => if j = 0 then p.1 == q.1 else p.2 == q.2
  let r : Nat → Bool := fun j => if j = 0 then decide (p.1 < q.1) else decide (p.2.cps.toList < q.2.cps.toList)
  have R := Ob.RcOp.tuples_lt (A := X.A) (s := s) (e := e) (r := r) p1 p2 hu (fun j h1 h2 => by
    match j, h1, h2 with
    | 0, _, _ => exact SeqAt.EqAt.int_int _ _ _ _
    | 1, _, _ => exact SeqAt.EqAt.str_str _ _ _ _) (fun j h1 h2 _ => by
    match j, h1, h2 with
    | 0, _, _ => exact Ob.RcOp.lt_int _ _ _ _
    | 1, _, _ => exact fun prog w E Q h => PySem.P.lt_str h)
  have z : Ob.lexAt e r (decide ((#[Value.int p.1 t1, Value.str p.2 t2] : Array Value).size < (#[Value.int q.1 t3, Value.str q.2 t4] : Array Value).size)) 0 2 = ltIS p q := by
    show (if (p.1 == q.1) = true then (if (p.2 == q.2) = true then false else decide (p.2.cps.toList < q.2.cps.toList)) else decide (p.1 < q.1)) = _
    unfold ltIS
    simp only [beq_iff_eq]
  have R2 : Ob.RcOp .Lt X.A s (.ref a) (.ref b) (ltIS p q) := by
    rw [← z]
    exact R
  exact R2 X.prog X.w X.xe (EP X pins σ Q) ⟨.bl _, H, I, rfl, k⟩
end Mq

namespace Mq
open PySem PySem.Spec PyProof.Rows L2
/-! ### pairs of texts by <; the order's own laws -/
theorem le_not (x y : Str × Str) : leSS x y = !ltSS y x := by
  cases h : ltSS y x with
  | true => exact le_of_lt h
  | false =>
    unfold leSS
    have h1 : (decide (y.1.cps.toList < x.1.cps.toList) || (!decide (x.1.cps.toList < y.1.cps.toList) && (decide (y.2.cps.toList < x.2.cps.toList) || (!decide (x.2.cps.toList < y.2.cps.toList) && false)))) = false := h
    simp only [Bool.and_false, Bool.or_false, Bool.or_eq_false_iff, decide_eq_false_iff_not, Bool.and_eq_false_iff, Bool.not_eq_false', decide_eq_true_eq] at h1
    obtain ⟨c1, c2⟩ := h1
    by_cases e : x.1 = y.1
    · rw [if_pos e]
      by_cases e2 : x.2 = y.2
      · rw [if_pos e2]
        rfl
      · rw [if_neg e2]
        rcases c2 with c2 | c2
        · rw [e] at c2
          exact (List.lt_irrefl _ c2).elim
        · rw [decide_eq_false c2]
    · rw [if_neg e, decide_eq_false c1]
theorem lt_trans {x y z : Str × Str} (h : ltSS x y = true) (k : ltSS y z = true) : ltSS x z = true := (PyProof.Rows.listOrd PyProof.Rows.itemOrd).trans _ _ _ h k
theorem lt_irr (x : Str × Str) : ltSS x x = false := (PyProof.Rows.listOrd PyProof.Rows.itemOrd).irrefl _
theorem op_ltSS {X : Cx} (hu : X.A.units < cLine) : OpR X (compareOp .Lt) (fun x y H Q => ∃ (a b : Addr) (p q : Str × Str), x = .ref a ∧ y = .ref b ∧ SqT X.K H a [.str p.1, .str p.2] ∧ SqT X.K H b [.str q.1, .str q.2] ∧ Q (.bl (ltSS p q)) H) := by
  intro pins s σ H x y v u Q I rx ry h
  obtain ⟨a, b, p, q, rfl, rfl, ha, hb, k⟩ := h
  cases rx
  cases ry
  obtain ⟨its, r1, p1, _⟩ := I.tuple ha
  obtain ⟨its2, r2, p2, _⟩ := I.tuple hb
  obtain ⟨u1, u2, rfl, ⟨t1, rfl⟩, ⟨t2, rfl⟩⟩ := vals2 r1
  obtain ⟨v1, v2, rfl, ⟨t3, rfl⟩, ⟨t4, rfl⟩⟩ := vals2 r2
  let e : Nat → Bool := fun j => if j = 0 then p.1 == q.1 else p.2 == q.2
  let r : Nat → Bool := fun j => if j = 0 then decide (p.1.cps.toList < q.1.cps.toList) else decide (p.2.cps.toList < q.2.cps.toList)
  have R := Ob.RcOp.tuples_lt (A := X.A) (s := s) (e := e) (r := r) p1 p2 hu (fun j h1 h2 => by
    match j, h1, h2 with
    | 0, _, _ => exact SeqAt.EqAt.str_str _ _ _ _
    | 1, _, _ => exact SeqAt.EqAt.str_str _ _ _ _) (fun j h1 h2 _ => by
    match j, h1, h2 with
    | 0, _, _ => exact fun prog w E Q h => PySem.P.lt_str h
    | 1, _, _ => exact fun prog w E Q h => PySem.P.lt_str h)
  have z : Ob.lexAt e r (decide ((#[Value.str p.1 t1, Value.str p.2 t2] : Array Value).size < (#[Value.str q.1 t3, Value.str q.2 t4] : Array Value).size)) 0 2 = ltSS p q := by
    show (if (p.1 == q.1) = true then (if (p.2 == q.2) = true then false else decide (p.2.cps.toList < q.2.cps.toList)) else decide (p.1.cps.toList < q.1.cps.toList)) = (decide (p.1.cps.toList < q.1.cps.toList) || (!decide (q.1.cps.toList < p.1.cps.toList) && (decide (p.2.cps.toList < q.2.cps.toList) || (!decide (q.2.cps.toList < p.2.cps.toList) && false))))
    simp only [beq_iff_eq, Bool.and_false, Bool.or_false]
    by_cases e1 : p.1 = q.1
    · rw [if_pos e1, e1, decide_eq_false (List.lt_irrefl _)]
      by_cases e2 : p.2 = q.2
      · rw [if_pos e2, e2, decide_eq_false (List.lt_irrefl _)]
        rfl
      · rw [if_neg e2]
        rfl
    · rw [if_neg e1]
      by_cases c : p.1.cps.toList < q.1.cps.toList
      · rw [decide_eq_true c]
        rfl
      · have c2 : q.1.cps.toList < p.1.cps.toList := by
          by_cases c2 : q.1.cps.toList < p.1.cps.toList
          · exact c2
          · exact (e1 (congrArg Str.mk (Array.ext' (List.le_antisymm (List.not_lt.mp c2) (List.not_lt.mp c))))).elim
        rw [decide_eq_false c, decide_eq_true c2]
        rfl
  have R2 : Ob.RcOp .Lt X.A s (.ref a) (.ref b) (ltSS p q) := by
    rw [← z]
    exact R
  exact R2 X.prog X.w X.xe (EP X pins σ Q) ⟨.bl _, H, I, rfl, k⟩
end Mq

namespace Mq
open PySem PySem.Spec PyProof.Rows L2
/-! ### f(k = v, ..), all by keyword -/
theorem vals_rev : ∀ {vs : List V} {us : List Value}, Vals vs us → Vals vs.reverse us.reverse
  | _, _, .nil => .nil
  | _, _, .cons r h => by
    rw [List.reverse_cons, List.reverse_cons]
    exact (vals_rev h).append (.cons r .nil)
def rev0 {α : Type} (_ ws : List α) : List α := ws.reverse
section
variable {X : Cx} {CX : CXT} {k : Nat} {f : Addr} {fd : FuncData} {ps ks : List Str} {sp : Sp}
  {E : L2.St → XK} {x : Str} {p pos : Pos} {kws : List Keyword} {tk : TA}
  {g : List Value → List Value → List Value} {gV : List V → List V → List V}
def tCallK0 (m : Nat) (sp : Sp) (gV : List V → List V → List V) (E : L2.St → XK) (tk : TA) : TE := fun σ H Q => tk σ H fun zs H2 => zs.length = m ∧ sp (gV [] zs) H2 Q (E σ)
theorem pe_callK0 (F : FnOk X.prog X.w X.K X.mg X.base CX k f fd ps sp) (hr : Room k X.A) (hg : Gl X x) (hm : X.mg x = some (.ref f)) (hk : PySem.W.keepIn X.K (.ref f) = true) (hb : KBn X.K fd ps 0 ks g gV)
    (hx : ∀ σ, PassesAt CX X σ (E σ)) (hkw : PK X kws tk)
    (hall : (backToKw pos (keywordEach kws X.env)).all (·.1.isSome) = true := by rfl)
    (hks : (backToKw pos (keywordEach kws X.env)).filterMap (·.1) = ks := by rfl)
    (hdb : (x == ("__debug__" : Str)) = false := by decide)
    (hpl : ((backTo pos (starEach [] X.env)).any (·.1) || (backToKw pos (keywordEach kws X.env)).any (·.1.isNone)) = false := by rfl) :
    PE X (.Call (.Name x p) [] kws pos) (tCallK0 ks.length sp gV E tk) := by
  refine ⟨fun pins s σ H Q I h => ?_⟩
  refine wpAny_Call_Name_kw (ld_glob I hg hm ?_ hdb)
  refine PySem.W.callWith_KW0 (h₀ := X.base) I.ok.mod.kin hk hall ?_ hpl
  refine thn (hkw.run pos pins s σ H _ I h) fun ws s2 ⟨zs, H2, I2, rz, hl, q2⟩ => ⟨I2.kIn, ?_⟩
  rw [hks]
  have r2 := hb.rel (vs := []) (us := []) .nil rz
  have lw : ws.length = ks.length := rz.length.symm.trans hl
  refine wpAny_call (codeAny_mono (F.run X.A X.stack s2 H2 ⟨[], ks.zip ws⟩ (g [] ws) (gV [] zs) Q (E σ) hr I2.env0
    (hb.to s2 [] ws I2.kIn rfl lw) r2 q2) (fun r s' hq => ?_))
  match r, hq with
  | .error er, hq => exact hx σ pins H2 s2 er s' I2 hq
  | .ok (.ret u), hq => exact I2.after hq
  | .ok .next, hq => exact hq.elim
  | .ok .brk, hq => exact hq.elim
  | .ok .cont, hq => exact hq.elim
end
theorem kbn_rev2 {K : PySem.W.Frag} {x qual : Str} {st : Stmt} {f : Addr} {fd : FuncData} {p1 p2 : Str} (F : Fun K x qual st f fd)
    (h : ∀ (kV doc pm : Value) (an : Option Addr) (cdv ct : Value) (a b : Value), bindArgs (PySem.W.fnOf x qual (defArgs st) (defBody st) (defScope st) .none kV doc pm an cdv ct) ⟨[], [(p2, a), (p1, b)]⟩ = pure [(p1, b), (p2, a)]) :
    KBn K fd [p1, p2] 0 [p2, p1] rev0 rev0 := by
  obtain ⟨oc, od, kV, doc, pm, an, cdv, ct, osl, rfl, lk, hcd⟩ := F.ex
  refine ⟨fun s us ws _ h1 h2 => ?_, fun a b => vals_rev b⟩
  match us, ws, h1, h2 with
  | [], [a, b], _, _ => exact .of_eq (h kV doc pm an cdv ct a b)
theorem kbn_rev3 {K : PySem.W.Frag} {x qual : Str} {st : Stmt} {f : Addr} {fd : FuncData} {p1 p2 p3 : Str} (F : Fun K x qual st f fd)
    (h : ∀ (kV doc pm : Value) (an : Option Addr) (cdv ct : Value) (a b c : Value), bindArgs (PySem.W.fnOf x qual (defArgs st) (defBody st) (defScope st) .none kV doc pm an cdv ct) ⟨[], [(p3, a), (p2, b), (p1, c)]⟩ = pure [(p1, c), (p2, b), (p3, a)]) :
    KBn K fd [p1, p2, p3] 0 [p3, p2, p1] rev0 rev0 := by
  obtain ⟨oc, od, kV, doc, pm, an, cdv, ct, osl, rfl, lk, hcd⟩ := F.ex
  refine ⟨fun s us ws _ h1 h2 => ?_, fun a b => vals_rev b⟩
  match us, ws, h1, h2 with
  | [], [a, b, c], _, _ => exact .of_eq (h kV doc pm an cdv ct a b c)
end Mq

namespace Mq
open PySem PySem.Spec PyProof.Rows L2 ClX
/-! ### classmethods where what is raised is wished for at the slots as they stand; a class that stands in a slot -/
section
variable {X : Cx} {CX : CXT} {k n : Nat} {f g C p0 : Addr} {mc : Value} {fd : FuncData} {ps ks : List Str} {sp : Sp} {E : XK} {ES : L2.St → XK}
  {gg : List Value → List Value → List Value} {gV : List V → List V → List V} {pins : List (Addr × Obj)} {σ : L2.St} {H : Hp} {s : Shared} {Q : VK} {us ws : List Value} {vs zs : List V}
  {x m : Str} {p pos apos : Pos} {kws : List Keyword} {tk t ta tf : TA} {o e : Expr} {es : List Expr} {tc : TE} {pl : Sem Bool}
/-- x(e, ..), x a slot that holds the class C -/
def tMakeV (C : Addr) (sp : Sp) (E : XK) (tc : TE) (t : TA) : TE := fun σ H Q => tc σ H fun c H1 => c = .ref C ∧ t σ H1 fun vs H2 => ∀ x dx, H2 x = none → H2 dx = none → dx ≠ x → sp (.ref x :: vs) (upd (upd H2 dx (.own x)) x (.ins C dx [])) (fun v H3 => v = .non ∧ Q (.ref x) H3) E
theorem pe_makeV (M : Mk X.K C f) (F : FnOk X.prog X.w X.K X.mg X.base CX k f fd ps sp) (hr : Room (k + 1) X.A) (hc : PE X (.Name x p) tc) (hb : Binds X.K fd ps []) (hx : Passes CX X E)
    (ha : PA X (e :: es) t) (he : starEach (e :: es) X.env = (false, eval e X.env) :: starEach es X.env := by rfl) (hpl : (backTo pos (starEach es X.env)).any (·.1) = false := by rfl) :
    PE X (.Call (.Name x p) (e :: es) [] pos) (tMakeV C sp E tc t) := by
  refine ⟨fun pins s σ H Q I h => ?_⟩
  refine wpAny_Call_Name_kw (thn (hc.run pins s σ H _ I h) fun u s1 ⟨c, H1, I1, rc, ec, q1⟩ => ?_)
  subst ec
  obtain rfl : u = Value.ref C := rc
  refine PySem.W.callWith_K (h₀ := X.base) I.ok.mod.kin M.kp (thn (ha.run pos pins s1 σ H1 _ I1 q1) fun us s2 ⟨vs, H2, I2, r, q⟩ => ⟨I2.kIn, ?_⟩) he hpl
  refine run_make (dvs := []) M F hr hb .nil hx I2 r fun y dy h1 h2 h3 => ?_
  rw [List.append_nil]
  exact q y dy h1 h2 h3
theorem run_cmS {q : Addr} (F : FnOk X.prog X.w X.K X.mg X.base CX k g fd ps sp) (hr : Room k X.A) (hb : KBn X.K fd ps (n + 1) ks gg gV) (hx : PassesAt CX X σ E)
    (I : Inv X ((q, PySem.W.methodObj (.ref g) (.ref C)) :: pins) σ H s) (ru : Vals vs us) (rz : Vals zs ws) (hn : vs.length = n) (hm : zs.length = ks.length) (h : sp (gV (.ref C :: vs) zs) H Q E) :
    wpAny (model X.prog X.w) X.A (call (.ref q) us (ks.zip ws)) (EP X pins σ Q) X.xe s := by
  have z : wpAny (model X.prog X.w) X.A (call (.ref q) us (ks.zip ws)) (EP X ((q, PySem.W.methodObj (.ref g) (.ref C)) :: pins) σ Q) X.xe s := by
    refine wpAny_call (PySem.W.method_call (pin_at I) ?_)
    refine codeAny_mono (F.run X.A X.stack s H ⟨.ref C :: us, ks.zip ws⟩ (gg (.ref C :: us) ws) (gV (.ref C :: vs) zs) Q E hr I.env0
      (hb.to s (.ref C :: us) ws I.kIn (by rw [List.length_cons, ← ru.length, hn]) (rz.length.symm.trans hm)) (hb.rel (.cons rfl ru) rz) h) (fun r s' hq => ?_)
    match r, hq with
    | .error er, hq => exact hx _ H s er s' I hq
    | .ok (.ret u), hq => exact I.after hq
    | .ok .next, hq => exact hq.elim
    | .ok .brk, hq => exact hq.elim
    | .ok .cont, hq => exact hq.elim
  exact thn z fun _ _ y => unpinE y
def tCMethS (C : Addr) (m : Nat) (sp : Sp) (ES : L2.St → XK) (tc : TE) (t : TA) : TE := fun σ H Q => tc σ H fun x H1 => x = .ref C ∧ t σ H1 fun vs H2 => vs.length = m ∧ sp (.ref C :: vs) H2 Q (ES σ)
theorem pe_cmethS {n : Nat} (he : PE X o tc) (r : CRead X.K C mc) (c : CMet X.K C mc m p0 g) (F : FnOk X.prog X.w X.K X.mg X.base CX k g fd ps sp) (hr : Room k X.A) (hb : Binds X.K fd ps []) (hps : ps.length = n + 1) (hx : ∀ σ, PassesAt CX X σ (ES σ)) (ha : PA X (e :: es) t)
    (hst : starEach (e :: es) X.env = (false, eval e X.env) :: starEach es X.env := by rfl) (hpl : (backTo pos (starEach es X.env)).any (·.1) = false := by rfl)
    (ht : eval (.Call (.Attribute o m apos) (e :: es) [] pos) X.env = (do
      let ov ← eval o X.env
      standAt apos.atName
      let (f, first) ← holding [ov] (getMethod ov m pl)
      callWith pos f first (backTo pos (starEach (e :: es) X.env)) (backToKw pos (keywordEach [] X.env))) := by rfl) :
    PE X (.Call (.Attribute o m apos) (e :: es) [] pos) (tCMethS C n sp ES tc t) := by
  refine ⟨fun pins s σ H Q I h => ?_⟩
  refine PySem.W.methodCall_KW (pl := pl) (thn (he.run pins s σ H _ I h) fun u s1 ⟨x, H1, I1, rx, ex, q⟩ => ?_) ht
  subst ex
  obtain rfl : u = Value.ref C := rx
  refine getmethcm_ok I1 r c fun s2 I2 => ?_
  refine callwith_cm I2 (base_none I1 (Nat.le_refl _)) c.fi (thn (ha.run pos _ s2 σ H1 _ I2 q) fun us s3 ⟨vs, H2, I3, rv, hl, q2⟩ => ⟨⟨pin_at I3, I3.kIn⟩, ?_⟩) hst hpl
  have kb : KBn X.K fd ps (n + 1) [] (fun us _ => us) (fun vs _ => vs) := by
    refine ⟨fun s us ws kin h1 h2 => ?_, fun a _ => a⟩
    have b := hb s us kin (by rw [List.append_nil, hps, h1])
    rw [List.append_nil] at b
    exact b
  exact run_cmS (n := n) (zs := []) (ws := []) (ks := []) F hr kb (hx σ) I3 rv .nil hl rfl q2
def tCMethK (C : Addr) (m : Nat) (sp : Sp) (gV : List V → List V → List V) (ES : L2.St → XK) (tc : TE) (t : TA) : TE := fun σ H Q => tc σ H fun x H1 => x = .ref C ∧ t σ H1 fun zs H2 => zs.length = m ∧ sp (gV [.ref C] zs) H2 Q (ES σ)
theorem pe_cmethK (he : PE X o tc) (r : CRead X.K C mc) (c : CMet X.K C mc m p0 g) (F : FnOk X.prog X.w X.K X.mg X.base CX k g fd ps sp) (hr : Room k X.A) (hb : KBn X.K fd ps 1 ks gg gV) (hx : ∀ σ, PassesAt CX X σ (ES σ)) (hkw : PK X kws t)
    (hall : (backToKw pos (keywordEach kws X.env)).all (·.1.isSome) = true := by rfl)
    (hks : (backToKw pos (keywordEach kws X.env)).filterMap (·.1) = ks := by rfl)
    (hpl : ((backTo pos (starEach [] X.env)).any (·.1) || (backToKw pos (keywordEach kws X.env)).any (·.1.isNone)) = false := by rfl)
    (ht : eval (.Call (.Attribute o m apos) [] kws pos) X.env = (do
      let ov ← eval o X.env
      standAt apos.atName
      let (f, first) ← holding [ov] (getMethod ov m pl)
      callWith pos f first (backTo pos (starEach [] X.env)) (backToKw pos (keywordEach kws X.env))) := by rfl) :
    PE X (.Call (.Attribute o m apos) [] kws pos) (tCMethK C ks.length sp gV ES tc t) := by
  refine ⟨fun pins s σ H Q I h => ?_⟩
  refine PySem.W.methodCall_KW (pl := pl) (thn (he.run pins s σ H _ I h) fun u s1 ⟨x, H1, I1, rx, ex, q⟩ => ?_) ht
  subst ex
  obtain rfl : u = Value.ref C := rx
  refine getmethcm_ok I1 r c fun s2 I2 => ?_
  refine PySem.W.callWith_of (P := PySem.W.MethP X.K s1.heap.objs.size g (.ref C)) hpl (PySem.W.keeps_M c.fi) (PyProof.Rows.evalArgs_kw2_nil hall ?_)
  refine thn (hkw.run pos _ s2 σ H1 _ I2 q) fun ws s3 ⟨zs, H2, I3, rz, hl, q2⟩ => ⟨⟨pin_at I3, I3.kIn⟩, ?_⟩
  rw [hks]
  exact run_cmS (n := 0) (vs := []) (us := []) F hr hb (hx σ) I3 .nil rz rfl hl q2
end
end Mq

namespace Mq
open PySem PySem.Spec PyProof.Rows L2
/-! ### a text, from its end -/
def revS (z : Str) : Str := ⟨z.cps.toList.reverse.toArray⟩
theorem rev_ix (n : Nat) : Builtin.Str.strSliceIndices none none (-1) n = (List.range n).reverse := by
  rw [← PySem.W.krv_range, ← PySem.W.krv_sliceRange]
  rfl
theorem rev_pick (z : Str) : (Builtin.Str.strSliceIndices none none (-1) z.length).filterMap (z.cps[·]?) = z.cps.toList.reverse := by
  rw [rev_ix]
  show ((List.range z.cps.size).reverse).filterMap (z.cps[·]?) = _
  rw [List.filterMap_reverse, PySem.W.krv_all]
def tRevS (te : TE) : TE := fun σ H Q => te σ H fun x H1 => ∃ z : Str, x = .str z ∧ z.length ≤ sizeLine ∧ Q (.str (revS z)) H1
theorem pe_revS {X : Cx} {e : Expr} {te : TE} {k : Nat} {p1 p2 p3 pos : Pos} (he : PE X e te) : PE X (.Subscript e (.Slice none none (some (.UnaryOp .USub (.Constant (.int 1) k p1) p2)) p3) pos) (tRevS te) := by
  refine ⟨fun pins s σ H Q I0 h => ?_⟩
  refine Subscript_ (thn (he.run pins s σ H _ I0 h) fun v s1 ⟨x, H1, I1, r1, q1⟩ => ?_)
  obtain ⟨z, ez, hz, q⟩ := q1
  subst ez
  obtain ⟨tz, rfl⟩ := r1
  have back : PO X (some (.UnaryOp .USub (.Constant (.int 1) k p1) p2)) (tPart (tUn (rU fun i => .int (-i)) (tC (.int 1)))) := po_some (pe_un un_neg pe_int)
  refine wpAny_Slice (thn (po_none.run pins s1 σ H1 (fun o G => o = none ∧ G = H1) I1 ⟨rfl, rfl⟩) fun v1 s2 ⟨o1, G1, I2, a1, b1, c1⟩ => ?_)
  subst b1 c1
  refine thn (po_none.run pins s2 σ G1 (fun o G => o = none ∧ G = G1) I2 ⟨rfl, rfl⟩) fun v2 s3 ⟨o2, G2, I3, a2, b2, c2⟩ => ?_
  subst b2 c2
  refine thn (back.run pins s3 σ G2 (fun o G => o = some (-1) ∧ G = G2) I3 ⟨1, rfl, -1, rfl, rfl, rfl⟩) fun v3 s4 ⟨o3, G3, I4, a3, b3, c3⟩ => ?_
  subst b3 c3
  obtain ⟨l1, rfl, f1⟩ := IsPart.raw a1
  obtain ⟨l2, rfl, f2⟩ := IsPart.raw a2
  obtain ⟨l3, rfl, f3⟩ := IsPart.raw a3
  have I5 : Inv X pins σ G3 { s4 with heap := s4.heap.push { cls := .type "slice", data := .fields #[partValue l1, partValue l2, partValue l3] } } := I4.kept (t' := s4.toks) fun b ob q => Heap.get?_push_of_some _ q
  show wpAny (model X.prog X.w) X.A (subscriptTail e (.Slice none none (some (.UnaryOp .USub (.Constant (.int 1) k p1) p2)) p3) (.str z tz) (.ref s4.heap.objs.size)) (EP X pins σ Q) X.xe { s4 with heap := s4.heap.push { cls := .type "slice", data := .fields #[partValue l1, partValue l2, partValue l3] } }
  refine tail_any (ops := [.str z tz, .ref s4.heap.objs.size]) (typeIs_str _ z tz) (F.slot_str_getitem.lookup) ?_ (by with_unfolding_all rfl)
  refine wpAny_getItem_str_slice (l := l1) (u := l2) (st := l3) ⟨_, Heap.get?_push_size _ rfl, rfl, rfl⟩ (by rw [f3]; rfl) ?_
  unfold sliceMade slicePicked
  rw [f1, f2, f3]
  show Made.post (if ((-1 : Int) == 1 && (Builtin.Str.strSliceIndices none none (-1) z.length).length == z.length) = true then Made.val (.str z tz) else Made.str ⟨((Builtin.Str.strSliceIndices none none (-1) z.length).filterMap (z.cps[·]?)).toArray⟩) (EP X pins σ Q) _
  rw [rev_pick, if_neg (show ¬ _ by rw [show ((-1 : Int) == 1) = false by decide, Bool.false_and]; exact Bool.false_ne_true)]
  refine ⟨?_, .str _, G3, I5.tok _, ⟨_, rfl⟩, q⟩
  show (z.cps.toList.reverse.toArray).size ≤ sizeLine
  rw [List.size_toArray, List.length_reverse, Array.length_toList]
  exact hz
end Mq

/-! Mq34: sets of texts that can be walked: set(text), sorted(set). -/
namespace PySem.Froz
open PySem
/-- the set of the texts l at a: its table rises, and it can be walked -/
def WkT (P : Program) (w : World) (h : Heap) (a : Addr) (l : List Str) : Prop :=
  ∃ D : SD, h.get? a = some (sObj "set" D) ∧ TxOk P w D l ∧ l.Nodup ∧ l.length < scanBound ∧ L2.Ris D.2.2.place.toList ∧ (w.params.followText "set-order" = true ∨ D.2.2.led = true)
section
variable {P : Program} {w : World} {A : Around} {E : Value → Shared → Prop} {s : Shared}
theorem WkT.at {h h' : Heap} {a : Addr} {l : List Str} (R : WkT P w h a l) (k : ∀ o, h.get? a = some o → h'.get? a = some o) : WkT P w h' a l := by
  obtain ⟨D, ho, r⟩ := R
  exact ⟨D, k _ ho, r⟩
theorem tail_ris {ep : Nat} {es1 : Array (Int × Value)} {t2 : SetTable} {wd : Bool} (r : L2.Ris t2.place.toList) : L2.Ris (tailTx ep es1 t2 wd).2.2.place.toList := by
  unfold tailTx
  split
  · exact L2.relayAll_ris _ _ _
  · exact r
theorem tail_led {ep : Nat} {es1 : Array (Int × Value)} {t2 : SetTable} {wd : Bool} : (tailTx ep es1 t2 wd).2.2.led = t2.led := by
  unfold tailTx
  split
  · exact L2.relayAll_led _ _ _
  · rfl
theorem add_ris {h : Int} {v : Value} {D : SD} (r : L2.Ris D.2.2.place.toList) : L2.Ris (addTx h v D).2.2.place.toList := by
  obtain ⟨es, ep, t⟩ := D
  have r1 := L2.layNew_ris t es h v r
  refine tail_ris ?_
  show L2.Ris (if (layNew t es h v).2.1.plain = true then { (layNew t es h v).2.1 with plain := false } else (layNew t es h v).2.1).place.toList
  split <;> exact r1
theorem add_led {h : Int} {v : Value} {D : SD} : (addTx h v D).2.2.led = D.2.2.led := by
  obtain ⟨es, ep, t⟩ := D
  have l1 := L2.layNew_led t es h v
  refine tail_led.trans ?_
  show (if (layNew t es h v).2.1.plain = true then { (layNew t es h v).2.1 with plain := false } else (layNew t es h v).2.1).led = t.led
  split <;> exact l1
/-- one that is there already -/
theorem add_old {a : Addr} {T : String} {D : SD} {l : List Str} {k : Str} {u : Tok} {Q : Bool → Shared → Prop} (ho : s.heap.get? a = some (sObj T D)) (F : TxOk P w D l) (hk : k ∈ l) (hb : l.length < scanBound)
    (h : Q false s) : wpAny (model P w) A (setAddHashed a (.str k u) (hashStr w k)) Q E s := by
  obtain ⟨es, ep, t⟩ := D
  have hd : (sObj T (es, ep, t)).data = .set es ep t := rfl
  have hf : t.fits es.size = true := F.fit
  have hel : ElemsOf (strKind P w) es.toList := F.el
  have hb0 : es.size < scanBound := by rw [show es.size = l.length from F.sz]; exact hb
  have hkey : (strKind P w).is k (.str k u) = true := is_str k u
  unfold setAddHashed setAddHashedIn
  refine wpAny_holding (wpAny_bind (wpAny_setState_of ho hd hf ?_))
  dsimp only
  rw [byScan_of rfl hb0 hel]
  simp only [↓reduceIte]
  unfold setAddByScan
  refine wpAny_bind ?_
  refine wpAny_bind (wpAny_rule ?_)
  refine wpAny_bind (wpAny_setScan_of (knd := strKind P w) (k := k) hkey ho hd hf hel ?_)
  cases hfi : List.findIdx? (fun e => (strKind P w).is k e.2) es.toList with
  | some j => exact wpAny_pure (wpAny_pure h)
  | none =>
    obtain ⟨e, he, q⟩ := (F.mem k).mp hk
    have c := List.findIdx?_eq_none_iff.mp hfi e he
    rw [q] at c
    cases c
/-- the members behind so many signs of a text -/
def Upto (x : Str) (i : Nat) (l : List Str) : Prop := l.length ≤ i ∧ ∀ k : Str, k ∈ l ↔ k ∈ (PyProof.Rows.signs x).take i
theorem upto_step {x : Str} {i c : Nat} {l : List Str} (u : Upto x i l) (hc : x.cps[i]? = some c) : (PyProof.Rows.signs x)[i]? = some (sing c) ∧
    ∀ k, k ∈ (PyProof.Rows.signs x).take (i + 1) ↔ k ∈ l ∨ k = sing c := by
  have e : (PyProof.Rows.signs x)[i]? = some (sing c) := by
    unfold PyProof.Rows.signs
    rw [List.getElem?_map, Array.getElem?_toList, hc]
    rfl
  refine ⟨e, fun k => ?_⟩
  rw [List.take_add_one, e, u.2 k]
  simp
theorem code_updT {I a : Addr} {fp wr : List Addr} {n : Nat} {St : Nat → Heap → Prop} {x : Str} {R : Result → Shared → Prop}
    (W : Walks P w A.in1 I fp wr n (SignAt x) St) (hn : n = x.cps.size) (hsz : n + 1 < scanBound) (haf : a ∉ fp) : ∀ (m i : Nat) (l : List Str) (s : Shared), n - i = m → i ≤ n → St i s.heap →
    WkT P w s.heap a l → Upto x i l →
    (∀ h' tk l', (∀ b o, b ∉ a :: wr → s.heap.get? b = some o → h'.get? b = some o) → WkT P w h' a l' → Upto x n l' → R (.ok (.ret .none)) { s with heap := h', toks := tk }) →
    codeAny (model P w) A (.builtin "set.update.loop" ⟨[.ref a, .ref I], []⟩) R s := by
  have haw : a ∉ wr := fun z => haf (W.sub _ z)
  have hsub : ∀ b, b ∉ a :: wr → b ∉ wr := fun b hb z => hb (List.mem_cons_of_mem _ z)
  intro m
  induction m with
  | zero =>
    intro i l s hm hi hst hS hu hR
    have hin : i = n := by omega
    subst hin
    refine codeAny_builtin PyProof.Rows.F.entry_set_update_loop ?_
    rw [Around.under_plainId PyProof.Rows.F.plain_set_update_loop _]
    show wpAny _ A.in1 (pyNext (.ref I) >>= _) _ _ s
    refine wpAny_bind (W.done s _ _ hst fun h' tk hk' => ?_)
    show wpAny _ A.in1 (ret Value.none) _ _ _
    exact wpAny_pure (hR h' tk l (fun b o hb e => hk' b o (hsub b hb) e) (hS.at fun o e => hk' a o haw e) hu)
  | succ m ih =>
    intro i l s hm hi hst hS hu hR
    have hlt : i < n := by omega
    refine codeAny_builtin PyProof.Rows.F.entry_set_update_loop ?_
    rw [Around.under_plainId PyProof.Rows.F.plain_set_update_loop _]
    show wpAny _ A.in1 (pyNext (.ref I) >>= _) _ _ s
    refine wpAny_bind (W.item i s _ _ hlt hst fun v h' tk hP hst' hk' => ?_)
    obtain ⟨c, t, hc, rfl⟩ := hP
    obtain ⟨e1, e2⟩ := upto_step hu hc
    have hS' : WkT P w h' a l := hS.at fun o e => hk' a o haw e
    obtain ⟨D, hD, F, nd, hb, hr, hl⟩ := hS'
    show wpAny _ A.in1 (holding [Value.str (sing c) t] (setAdd a (.str (sing c) t)) >>= _) _ _ _
    refine wpAny_bind (wpAny_holding ?_)
    unfold setAdd
    refine wpAny_holding ?_
    refine wpAny_bind ((strKind P w).pyHash (k := sing c) (is_str _ _) ?_)
    have hll : l.length ≤ i := hu.1
    by_cases hk : sing c ∈ l
    · refine add_old (s := { s with heap := h', toks := tk + 1 }) hD F hk hb ?_
      refine wpAny_pure ⟨plainId_quiet PyProof.Rows.F.plain_set_update_loop _, ih (i + 1) l { s with heap := h', toks := tk + 1 } (by omega) hlt hst' ⟨D, hD, F, nd, hb, hr, hl⟩ ⟨by omega, fun k => ?_⟩ fun h'' tk'' l' hk'' w' u' => ?_⟩
      · rw [e2 k]
        exact ⟨.inl, fun z => z.elim id fun q => q ▸ hk⟩
      · exact hR h'' tk'' l' (fun b o hb e => hk'' b o hb (hk' b o (hsub b hb) e)) w' u'
    · have hb2 : l.length + 1 < scanBound := by omega
      refine add_x (s := { s with heap := h', toks := tk + 1 }) hD F hk hb2 ?_
      have hne : ∀ b ∈ fp, b ≠ a := fun b hb z => haf (z ▸ hb)
      have k2 : ∀ b o, b ≠ a → h'.get? b = some o → (h'.update a (fun _ => sObj "set" (addTx (hashStr w (sing c)) (.str (sing c) t) D))).get? b = some o := fun b o hb e => PySem.Heap.get?_update_of_ne _ (Ne.symm hb) e
      have hw : WkT P w (h'.update a (fun _ => sObj "set" (addTx (hashStr w (sing c)) (.str (sing c) t) D))) a (sing c :: l) :=
        ⟨_, get_upd _ hD rfl, add_ok t F, List.nodup_cons.mpr ⟨hk, nd⟩, hb2, add_ris hr, hl.imp id fun z => by rw [add_led]; exact z⟩
      refine wpAny_pure ⟨plainId_quiet PyProof.Rows.F.plain_set_update_loop _, ih (i + 1) (sing c :: l) { s with heap := h'.update a (fun _ => sObj "set" (addTx (hashStr w (sing c)) (.str (sing c) t) D)), toks := tk + 1 } (by omega) hlt
        (W.frame _ h' _ hst' fun b hb o e => k2 b o (hne b hb) e) hw ⟨?_, fun k => ?_⟩ fun h'' tk'' l' hk'' w' u' => ?_⟩
      · show l.length + 1 ≤ i + 1
        omega
      · rw [e2 k, List.mem_cons]
        exact Or.comm
      · exact hR h'' tk'' l' (fun b o hb e => hk'' b o hb (k2 b o (fun z => hb (z ▸ List.mem_cons_self ..)) (hk' b o (hsub b hb) e))) w' u'
end
end PySem.Froz

/-! Mq35: set(text), sorted(set). -/
namespace PySem.Froz
open PySem PySem.Spec PyProof.Rows L2
def emptyO (w : World) : Obj := { cls := .type "set", dict := none, data := .set #[] 0 (.fresh 0 0 (!w.params.followText "set-order")) }
theorem wkt_new {P : Program} {w : World} {h : Heap} {a : Addr} (ho : h.get? a = some (emptyO w)) : WkT P w h a [] := by
  refine ⟨(#[], 0, .fresh 0 0 (!w.params.followText "set-order")), ho, TxOk.nil rfl, List.nodup_nil, by decide, List.Pairwise.nil, ?_⟩
  show _ ∨ (!w.params.followText "set-order") = true
  cases w.params.followText "set-order"
  · exact .inr rfl
  · exact .inl rfl
section
variable {P : Program} {w : World} {A : Around} {E : Value → Shared → Prop} {s : Shared}
set_option maxHeartbeats 3200000 in
theorem call_set_txt {x : Str} {u : Tok} {Q : Value → Shared → Prop} (hh : A.handled = none) (hsz : x.cps.size + 1 < scanBound)
    (h : ∀ (h' : Heap) (tk : Nat) (l : List Str), WkT P w h' s.heap.objs.size l → Upto x x.cps.size l → (∀ b o, s.heap.get? b = some o → h'.get? b = some o) → Q (.ref s.heap.objs.size) { s with heap := h', toks := tk }) :
    wpAny (model P w) A (call (.type "set") [.str x u]) Q E s := by
  obtain ⟨c, tl, hmro⟩ := PySem.F.called_set.mro
  have hmade := PySem.F.called_set.made
  have hsub := PySem.F.called_set.sub
  refine wpAny_call (codeAny_of_tree ?_)
  show wpAny _ _ (callAny (.type "set") _) _ _ _
  refine wpAny_pure ⟨Code.quiet_builtin _ (by decide +kernel), codeAny_builtin F.entry_type_call ?_⟩
  rw [Around.under_plain (weight_type_call_type "set" [.str x u] []) rfl]
  have h1 := PySem.F.called_set.notType
  have h2 := PySem.F.called_set.canCreate
  have hct := F.typeCall_set_1 (.str x u)
  repeat (any_goals (first | assumption | wp_step))
  refine codeAny_mono (code_set_led1 (.str x u) (E := E) (Q₁ := fun obj s₁ => obj = .ref s.heap.objs.size ∧ s₁ = { s with heap := s.heap.push (emptyO w) }) ⟨rfl, rfl⟩) fun r s₁ hr => ?_
  cases r with
  | error e => exact hr
  | ok fl =>
    cases fl with
    | ret obj =>
      obtain ⟨rfl, rfl⟩ := hr
      have hS : (s.heap.push (emptyO w)).get? s.heap.objs.size = some (emptyO w) := Heap.get?_push_size _ rfl
      have hT : Shared.TypeIs { s with heap := s.heap.push (emptyO w) } (.ref s.heap.objs.size) "set" := ⟨_, hS, rfl⟩
      have hli := PySem.F.called_set.init.lookup
      have hbi := PySem.F.called_set.init.bind (.ref s.heap.objs.size)
      repeat (any_goals (first | assumption | wp_step))
      refine codeAny_mono (codeAny_call_builtin (R := wants (fun r s₂ => r = .none ∧ ∃ h' tk l, s₂ = { s with heap := h', toks := tk } ∧ WkT P w h' s.heap.objs.size l ∧ Upto x x.cps.size l ∧
          (∀ b o, s.heap.get? b = some o → h'.get? b = some o)) E) PySem.F.called_set.init.plain F.entry_set_init (check_set_init_1 hT ?_)) fun r₂ s₂ hr₂ => ?_
      · unfold Builtin.«set.__init__» noKeywords Builtin.Frozenset.updateFrom
        generalize hPI : pyIter = PI
        have hA1 := PySem.F.sub_str_set
        have hA2 := PySem.F.sub_str_frozenset
        have hne : (Value.type "str" == Value.type "dict") = false := by decide
        unfold emptyO at hS hT ⊢
        wp_walk
        subst hPI
        refine wpAny_pyIter_str fun o St hW hst => ?_
        refine wpAny_bind (wpAny_runValue ?_)
        have hsz1 : (s.heap.push (emptyO w)).objs.size = s.heap.objs.size + 1 := Heap.size_push ..
        have hS2 : WkT P w ((s.heap.push (emptyO w)).push o) s.heap.objs.size [] := (wkt_new (P := P) (Heap.get?_push_size _ rfl)).at fun _ e => Heap.get?_push_of_some _ e
        refine code_updT (hW _ (by simp [hh])) rfl hsz ?hSf (x.cps.size - 0) 0 [] _ rfl (Nat.zero_le _) hst hS2 ⟨Nat.le_refl 0, fun k => by simp⟩ fun h' tk l hk hw hu => ?_
        case hSf =>
          rw [List.mem_singleton]
          show s.heap.objs.size ≠ (s.heap.push (emptyO w)).objs.size
          rw [hsz1]
          exact Nat.ne_of_lt (Nat.lt_succ_self _)
        show wpAny _ _ _ _ _ _
        refine wpAny_pure ?_
        show wpAny _ _ (ret Value.none) _ _ _
        refine wpAny_pure ⟨rfl, h', tk, l, rfl, hw, hu, fun b o' e => ?_⟩
        have hb0 : b < s.heap.objs.size := Heap.lt_size e
        refine hk b o' (fun z => ?_) (Heap.get?_push_of_some _ (Heap.get?_push_of_some _ e))
        rcases List.mem_cons.mp z with z | z
        · exact Nat.ne_of_lt hb0 z
        · have z2 : b = (s.heap.push (emptyO w)).objs.size := List.mem_singleton.mp z
          rw [hsz1] at z2
          exact absurd hb0 (by rw [z2]; exact Nat.not_lt_of_le (Nat.le_succ _))
      · cases r₂ with
        | error e => exact hr₂
        | ok fl₂ =>
          cases fl₂ with
          | ret r =>
            obtain ⟨rfl, h', tk, l, rfl, hS', hc', hk'⟩ := hr₂
            repeat (any_goals (first | assumption | wp_step))
            exact h _ _ _ hS' hc' hk'
          | _ => exact hr₂.elim
    | _ => exact hr.elim
end
end PySem.Froz

/-! Mq36: sorted(set) of texts. -/
namespace PySem.Froz
open PySem PySem.Spec PyProof.Rows L2
theorem nd_perm {α : Type} : ∀ (l m : List α), l.Nodup → (∀ x ∈ l, x ∈ m) → m.length ≤ l.length → m.Perm l
  | [], m, _, _, h => by
    have e : m = [] := List.length_eq_zero_iff.mp (Nat.le_zero.mp h)
    rw [e]
  | x :: l, m, nd, sub, h => by
    obtain ⟨n1, n2⟩ := List.nodup_cons.mp nd
    obtain ⟨m1, m2, e⟩ := List.append_of_mem (sub x (List.mem_cons_self ..))
    subst e
    refine List.perm_middle.trans ((nd_perm l (m1 ++ m2) n2 (fun y hy => ?_) ?_).cons x)
    · have q := sub y (List.mem_cons_of_mem _ hy)
      rcases List.mem_append.mp q with q | q
      · exact List.mem_append_left _ q
      · rcases List.mem_cons.mp q with q | q
        · exact absurd hy (q ▸ n1)
        · exact List.mem_append_right _ q
    · simp only [List.length_append, List.length_cons] at h ⊢
      omega
section
variable {P : Program} {w : World} {A : Around} {E : Value → Shared → Prop} {s : Shared}
theorem texts_perm {D : SD} {l : List Str} (F : TxOk P w D l) (nd : l.Nodup) : (∀ v ∈ D.1.toList.map (·.2), ∃ x t, v = Value.str x t) ∧ ((D.1.toList.map (·.2)).map strOf).Perm l := by
  have hs : ∀ v ∈ D.1.toList.map (·.2), ∃ x t, v = Value.str x t := fun v hv => by
    obtain ⟨e, he, q⟩ := List.mem_map.mp hv
    obtain ⟨⟨k, hk, _⟩, _⟩ := F.el e he
    obtain ⟨t, ev⟩ := Value.isStrOf_shape (x := k) (v := e.2) hk
    exact ⟨k, t, by rw [← q]; exact ev⟩
  refine ⟨hs, nd_perm _ _ nd (fun k hk => ?_) ?_⟩
  · obtain ⟨e, he, q⟩ := (F.mem k).mp hk
    obtain ⟨t, ev⟩ := Value.isStrOf_shape (x := k) (v := e.2) q
    refine List.mem_map.mpr ⟨e.2, List.mem_map.mpr ⟨e, he, rfl⟩, ?_⟩
    rw [ev]
    rfl
  · rw [List.length_map, List.length_map, Array.length_toList, F.sz]
    exact Nat.le_refl _
theorem sorted_txt {a : Addr} {l : List Str} {Q : Value → Shared → Prop} (R : WkT P w s.heap a l) (hh : A.handled = none) (h64 : l.length < 64)
    (hQ : ∀ s' p (out : Array Value) (c : Nat) (ys : List Str), (∀ b o, s.heap.get? b = some o → s'.heap.get? b = some o) → s'.gens = s.gens → s'.os = s.os → s.heap.objs.size ≤ p →
      s'.heap.get? p = some (seqObj "list" out c) → StrsAre out.toList ys → ys.Perm l → sortedS ys = true → Q (.ref p) s') :
    wpAny (model P w) A (call (.builtin "sorted") [.ref a]) Q E s := by
  obtain ⟨⟨es, ep, t⟩, ho, F, nd, hb, hr, hl⟩ := R
  obtain ⟨hs, hp⟩ := texts_perm F nd
  have hf : t.fits es.size = true := F.fit
  have hn : es.size = l.length := F.sz
  refine Calls.call_function_entry kind_sorted plain_sorted entry_sorted (args_sorted1 _) ?_
  unfold Builtin.«sorted»
  refine wpAny_bind (m := checkCount "sorted" 1 1 _) (wpAny_pure ?_)
  refine wpAny_bind (collect_set (A := A.in1) hh ⟨_, ho, rfl, rfl⟩ hf (by rw [hn]; exact hb) hr hl fun s1 vs k1 hz g1 o1 pm => ?_)
  have hvl : vs.length = l.length := by rw [pm.length_eq, List.length_map, Array.length_toList]; exact hn
  have hS : StrsAre vs (vs.map strOf) := strsAre_map vs fun v hv => hs v (pm.mem_iff.mp hv)
  refine wpAny_bind (wpAny_newList ?_ (by rw [hvl, sizeLine_eq]; omega))
  have hoL : (s1.heap.push (seqObj "list" vs.toArray 0)).get? s1.heap.objs.size = some (seqObj "list" vs.toArray 0) := Heap.get?_push_size _ rfl
  refine wpAny_bind (wpAny_holding (wpAny_call_entry slot_list_sort ⟨_, hoL, rfl⟩ entry_list_sort
    (list_sort_treeK strKind_oneLt hoL hS.keysOf (fun v₁ v₂ rest e => keyKind_strs (by rw [← e]; exact hS)) (by rw [hvl]; exact h64) fun st' hp' hs' => ⟨_, rfl, ?_⟩) (args_list_sort _)))
  obtain ⟨ys, a1, a2, a3⟩ := sorted_out_str hS hp' hs'
  obtain ⟨c, hc⟩ := sortedHeap_at (vs := vs) (out := (arrOf st').map (·.2)) hoL
  refine wpAny_pure ⟨_, rfl, hQ _ s1.heap.objs.size _ c ys (fun b u e => ?_) g1 o1 hz hc a1 (a2.trans ((pm.map strOf).trans hp)) a3⟩
  have q := k1 b u e
  have hlt := Heap.lt_size q
  show (sortedHeap (s1.heap.push (seqObj "list" vs.toArray 0)) s1.heap.objs.size vs ((arrOf st').map (·.2))).get? b = some u
  rw [sortedHeap_old (Nat.ne_of_lt hlt) (by rw [size_push']; exact Nat.lt_succ_of_lt hlt)]
  exact Heap.get?_push_of_some _ q
end
end PySem.Froz

/-! Mq37: set(text), sorted(set) as rules. -/
namespace Mq
open PySem PySem.Spec PyProof.Rows L2 PySem.Froz
/-- the set of the texts l at a -/
def TxO (P : Program) (w : World) (a : Addr) (l : List Str) : HO := .ext fun h => WkT P w h a l
section
variable {X : Cx}
theorem txO_new {w : World} {P : Program} {H : Hp} {h : Heap} {a : Addr} {l : List Str} (R : WkT P w h a l) : ObjOk P w H h a (TxO P w a l) := by
  have ⟨D, ho, _⟩ := R
  exact ⟨R, ⟨_, ho⟩, fun h1 h2 p k => WkT.at p k⟩
theorem txO_get {pins : List (Addr × Obj)} {σ : L2.St} {H : Hp} {s : Shared} {a : Addr} {l : List Str} (I : Inv X pins σ H s) (ha : H a = some (TxO X.prog X.w a l)) : WkT X.prog X.w s.heap a l := (I.hok a _ ha).1
/-- set(text) -/
def rSetTx (X : Cx) : List V → Hp → VK → Prop := fun xs H Q => ∃ x : Str, xs = [V.str x] ∧ x.cps.size + 1 < scanBound ∧
  ∀ (p : Addr) (l : List Str), H p = none → l.Nodup → l.length ≤ x.cps.size → (∀ k, k ∈ l ↔ k ∈ signs x) → Q (.ref p) (upd H p (TxO X.prog X.w p l))
theorem cr_setTx (hc : X.calm = true) : CallR X (.type "set") (rSetTx X) := by
  intro pins s σ H xs us Q I r h
  obtain ⟨x, rfl, hsz, q⟩ := h
  obtain ⟨v, rfl, rv⟩ := r.one
  obtain ⟨t, rfl⟩ := rv
  refine call_set_txt (I.ok.hd hc) hsz fun h' tk l hw hu hk => ?_
  have e : (signs x).take x.cps.size = signs x := List.take_of_length_le (by unfold signs; rw [List.length_map, Array.length_toList] <;> exact Nat.le_refl _)
  have hn : l.Nodup := by
    obtain ⟨D, _, _, nd, _⟩ := hw
    exact nd
  exact ⟨.ref _, upd H s.heap.objs.size (TxO X.prog X.w s.heap.objs.size l), I.laid (t' := tk) hk (Nat.le_refl _) (txO_new hw), rfl, q _ l (I.hok.fresh (Nat.le_refl _)) hn hu.1 fun k => by rw [hu.2 k, e]⟩
/-- sorted(s), s a set of fewer than 64 texts -/
def rSortTx (X : Cx) : List V → Hp → VK → Prop := fun vs H Q => ∃ (a : Addr) (l : List Str), vs = [V.ref a] ∧ H a = some (TxO X.prog X.w a l) ∧ l.length < 64 ∧
  ∀ (ys : List Str) (p : Addr), ys.Perm l → sortedS ys = true → H p = none → Q (.ref p) (upd H p (.lst (ys.map V.str)))
theorem cr_sortTx (hc : X.calm = true) : CallR X (.builtin "sorted") (rSortTx X) := by
  intro pins s σ H vs us Q I r h
  obtain ⟨a, l, rfl, ha, h64, q⟩ := h
  have R := txO_get I ha
  rw [Vals.ref1 r]
  refine sorted_txt R (I.ok.hd hc) h64 fun s' p out c ys k g o hp hg hi hs hm => ?_
  have hlen : (ys.map V.str).length ≤ sizeLine := by rw [List.length_map, hs.length_eq]; exact small64 h64
  have hn : H p = none := I.hok.fresh hp
  have J : Inv X pins σ (upd H p (.lst (ys.map V.str))) { s with heap := s'.heap, gens := s'.gens, drawn := s'.drawn, toks := s'.toks } :=
    I.call (ch := []) (Un.laid k hp hn) (I.hok.laid k hp ⟨hlen, out.toList, c, vals_of_strs hi, hg⟩) (by rw [g]; exact I.bare) (fun _ z => nomatch z)
  have e : s' = { s with heap := s'.heap, gens := s'.gens, drawn := s'.drawn, toks := s'.toks } := by
    cases s'
    cases s
    cases o
    rfl
  rw [e]
  exact ⟨.ref p, _, J, rfl, q ys p hs hm hn⟩
theorem txO_setOf {P : Program} {w : World} {h : Heap} {a : Addr} {l : List Str} (R : WkT P w h a l) : h.SetOf (PySem.strKind P w) a (fun k => decide (k ∈ l)) l.length := by
  obtain ⟨D, ho, F, nd, hb, _, _⟩ := R
  exact ⟨_, D.1, D.2.1, D.2.2, ho, ⟨rfl, rfl, rfl⟩, rfl, F.el, fun k => by rw [decide_eq_true_eq]; exact F.mem k, by rw [show D.1.size = l.length from F.sz]; exact hb, F.fit, F.sz⟩
/-- text in s, text not in s -/
def rTxIn (X : Cx) (neg : Bool) : V → V → Hp → VK → Prop := fun x y H Q => ∃ k a l, x = V.str k ∧ y = V.ref a ∧ H a = some (TxO X.prog X.w a l) ∧ Q (.bl (if neg then !decide (k ∈ l) else decide (k ∈ l))) H
theorem or_txIn : OpR X (compareOp .In) (rTxIn X false) := by
  intro pins s σ H x y v u Q I rx ry h
  obtain ⟨k, a, l, rfl, rfl, ha, q⟩ := h
  obtain ⟨tk, rfl⟩ := rx
  cases ry
  exact wpAny_inSet_of (strKind_is _ _ _ _) rfl (txO_setOf (txO_get I ha)) ⟨.bl _, H, I.tok _, rfl, q⟩
theorem or_txNotIn : OpR X (compareOp .NotIn) (rTxIn X true) := by
  intro pins s σ H x y v u Q I rx ry h
  obtain ⟨k, a, l, rfl, rfl, ha, q⟩ := h
  obtain ⟨tk, rfl⟩ := rx
  cases ry
  exact wpAny_notInSet_of (strKind_is _ _ _ _) rfl (txO_setOf (txO_get I ha)) ⟨.bl _, H, I.tok _, rfl, q⟩
end
end Mq

namespace Mq
open PySem PySem.Spec PyProof.Rows L2
/-! ### list(text) -/
def rListTx : List V → Hp → VK → Prop := fun xs H Q => ∃ x : Str, xs = [.str x] ∧ x.cps.size ≤ sizeLine ∧ ∀ p, H p = none → p ≠ sysModules → Q (.ref p) (upd H p (.lst (x.cps.toList.map fun c => V.str ⟨#[c]⟩)))
theorem call_listTx {X : Cx} (hc : X.calm = true) : CallR X (.type "list") rListTx := by
  intro pins s σ H xs us Q I r h
  obtain ⟨x, rfl, hx, q⟩ := h
  obtain ⟨v, rfl, rv⟩ := r.one
  obtain ⟨t, rfl⟩ := rv
  refine call_list_str (I.ok.hd hc) x t (fun h' tk acc' c' hk hD ha => ?_) hx
  refine ⟨.ref s.heap.objs.size, upd H s.heap.objs.size (.lst (x.cps.toList.map fun c => V.str ⟨#[c]⟩)), I.laid (t' := tk) hk (Nat.le_refl _) ⟨?_, acc'.toList, c', ?_, ?_⟩, rfl, q _ (I.hok.fresh (Nat.le_refl _)) (Nat.ne_of_gt (Inv.low I))⟩
  · rw [List.length_map, Array.length_toList]
    exact hx
  · have el : acc'.toList.length = acc'.size := by simp
    refine vals_of_at (by rw [List.length_map, el, ha.1, Array.length_toList]) fun j y w h1 h2 => ?_
    obtain ⟨c, u, hcx, rfl⟩ := ha.2 j w (by rw [← Array.getElem?_toList]; exact h2)
    rw [List.getElem?_map, Array.getElem?_toList, hcx] at h1
    cases h1
    exact ⟨u, rfl⟩
  · rw [Array.toArray_toList]
    exact hD
/-! ### t[::-1] -/
section
variable {prog : Program} {w : World} {A : Around} {E : Value → Shared → Prop} {s : Shared}
theorem adjust_rev (n : Nat) : Builtin.Slice.sliceAdjust none none (-1) (n : Int) = ((n : Int) - 1, -1) := by
  unfold Builtin.Slice.sliceAdjust
  rfl
theorem places_rev (n : Nat) : Builtin.Slice.slicePlaces ((n : Int) - 1) (-1) (-1) = n := by
  unfold Builtin.Slice.slicePlaces
  have h1 : ¬ ((-1 : Int) > 0) := by omega
  simp only [h1, if_false]
  split
  · show (((n : Int) - 1 - -1 - 1) / 1 + 1).toNat = n
    rw [Int.ediv_one]
    omega
  · show (0 : Int).toNat = n
    omega
theorem fm_congr {α β : Type} {f g : α → Option β} : ∀ {l : List α}, (∀ k ∈ l, f k = g k) → l.filterMap f = l.filterMap g
  | [], _ => rfl
  | k :: l, h => by
    rw [List.filterMap_cons, List.filterMap_cons, h k List.mem_cons_self, fm_congr fun x hx => h x (List.mem_cons_of_mem _ hx)]
theorem pick_rev (xs : Array Value) : ((List.range xs.size).filterMap fun (k : Nat) => xs[(((xs.size : Int) - 1) + (k : Int) * (-1)).toNat]?) = xs.toList.reverse := by
  have e : ∀ k ∈ List.range xs.size, xs[(((xs.size : Int) - 1) + (k : Int) * (-1)).toNat]? = (fun k => xs[xs.size - 1 - k]?) k := by
    intro k hk
    have h1 := List.mem_range.mp hk
    have : (((xs.size : Int) - 1) + (k : Int) * (-1)).toNat = xs.size - 1 - k := by omega
    rw [this]
  rw [fm_congr e]
  have h2 : (List.range xs.size).filterMap (fun k => xs[xs.size - 1 - k]?) = ((List.range xs.size).map fun k => xs.size - 1 - k).filterMap (xs[·]?) := by
    rw [List.filterMap_map]
    rfl
  rw [h2, PySem.W.krv_range, List.filterMap_reverse, PySem.W.krv_all]
theorem sliceApplied_rev {sl : Addr} {vl vu vs : Value} {n : Nat} {Q : Int × Int × Nat → Shared → Prop} (hs : s.heap.IsSliceOf sl vl vu vs) (pl : IsPart vl none) (pu : IsPart vu none) (ps : IsPart vs (some (-1)))
    (h : Q ((n : Int) - 1, -1, n) s) : wpAny (model prog w) A (Builtin.Slice.sliceApplied (.ref sl) (pure (n : Int))) Q E s := by
  obtain ⟨os, hos, hcs, hds⟩ := id hs
  unfold Builtin.Slice.sliceApplied Builtin.Slice.sliceFields
  refine wpAny_bind (wpAny_bind (wpAny_field hos hds (x := vl) rfl (wpAny_bind (wpAny_field hos hds (x := vu) rfl (wpAny_bind (wpAny_field hos hds (x := vs) rfl (wpAny_pure ?_)))))))
  refine wpAny_bind (HT.slicePart_ ps ?_)
  show wpAny _ _ (if ((-1 : Int) == 0) = true then _ else _) _ _ s
  rw [if_neg (by decide)]
  refine wpAny_bind (HT.slicePart_ pl (wpAny_bind (HT.slicePart_ pu (wpAny_bind (wpAny_pure ?_)))))
  show wpAny _ _ (match Builtin.Slice.sliceAdjust none none (-1) (n : Int) with | (lo, hi) => pure (lo, (-1 : Int), Builtin.Slice.slicePlaces lo hi (-1))) _ _ s
  rw [adjust_rev n]
  show wpAny _ _ (pure (((n : Int) - 1), (-1 : Int), Builtin.Slice.slicePlaces ((n : Int) - 1) (-1) (-1))) _ _ s
  rw [places_rev]
  exact wpAny_pure h
theorem getItem_tuple_rev {t sl : Addr} {items : Array Value} {vl vu vs : Value} {Q : Value → Shared → Prop} (ht : IsTup s.heap t items) (hs : s.heap.IsSliceOf sl vl vu vs) (pl : IsPart vl none) (pu : IsPart vu none) (ps : IsPart vs (some (-1)))
    (h : Q (.ref s.heap.objs.size) { s with heap := s.heap.push { cls := .type "tuple", data := .seq items.toList.reverse.toArray } })
    (hsz : items.size ≤ sizeLine) : wpAny (model prog w) A (getItem (.ref t) (.ref sl)) Q E s := by
  have htake : sizeOk (.seq items.toList.reverse.toArray) := by
    show items.toList.reverse.toArray.size ≤ sizeLine
    rw [List.size_toArray, List.length_reverse, Array.length_toList]
    exact hsz
  obtain ⟨os, hos, hcs, hds⟩ := id hs
  have hTs : s.TypeIs (.ref sl) "slice" := ⟨os, hos, hcs⟩
  unfold getItem
  try with_reducible refine wpAny_holding ?_
  first | refine wpAny_bind (wpAny_pure ?_) | skip
  refine wpAny_bind (wpAny_sequenceKey ht.typeIs (by decide) ?_)
  refine wpAny_bind (wpAny_callSpecial?_slot (name := Str.ofString "__getitem__") ht.typeIs PyProof.Rows.slot_tuple_getitem
    (wpAny_call_entry PyProof.Rows.slot_tuple_getitem ht.typeIs PyProof.Rows.entry_tuple_getitem ?_ (PyProof.Rows.args_tuple_getitem _ _)))
  show wpAny _ _ (Builtin.Tuple.tupleItemsOf (.ref t) >>= _) _ _ s
  refine wpAny_bind (tupleItemsOf_ ht ?_)
  refine wpAny_bind (wpAny_typeOf hTs ?_)
  rw [if_pos (by decide)]
  refine wpAny_bind (sliceApplied_rev hs pl pu ps ?_)
  have hno : ¬ ((((items.size : Int) - 1) == 0 && (-1 : Int) == 1 && items.size == items.size) = true) := by
    rw [show ((-1 : Int) == 1) = false by decide, Bool.and_false, Bool.false_and]
    exact Bool.false_ne_true
  show wpAny _ _ (if ((((items.size : Int) - 1) == 0 && (-1 : Int) == 1 && items.size == items.size)) = true then _ else _) _ _ s
  rw [if_neg hno, pick_rev]
  first
    | exact wpAny_bind (m := Builtin.Tuple.tupleExact _) (wpAny_newObj_type (wpAny_pure ⟨_, rfl, wpAny_pure h⟩) htake)
    | exact wpAny_bind (m := Builtin.Tuple.tupleExact _) (wpAny_newObj_type (wpAny_bind (wpAny_pure (wpAny_pure ⟨_, rfl, wpAny_pure h⟩))) htake)
    | exact wpAny_bind (wpAny_bind (m := Builtin.Tuple.tupleExact _) (wpAny_newObj_type (wpAny_pure (wpAny_pure ⟨_, rfl, wpAny_pure h⟩)) htake))
    | exact wpAny_bind (wpAny_bind (m := Builtin.Tuple.tupleExact _) (wpAny_newObj_type (wpAny_pure ⟨_, rfl, wpAny_pure h⟩) htake))
end
def tRevT (K : PySem.W.Frag) (te : TE) : TE := fun σ H Q => te σ H fun x H1 => ∃ a xs, x = .ref a ∧ SqT K H1 a xs ∧ ∀ p, H1 p = none → Q (.ref p) (upd H1 p (.tup xs.reverse))
theorem pe_revT {X : Cx} {e : Expr} {te : TE} {k : Nat} {p1 p2 p3 pos : Pos} (he : PE X e te) : PE X (.Subscript e (.Slice none none (some (.UnaryOp .USub (.Constant (.int 1) k p1) p2)) p3) pos) (tRevT X.K te) := by
  refine ⟨fun pins s σ H Q I h => ?_⟩
  refine Subscript_ (thn (he.run pins s σ H _ I h) fun v s1 ⟨x, H1, I1, r1, q1⟩ => ?_)
  obtain ⟨a, xs, ex, hx, q⟩ := q1
  subst ex
  cases r1
  have hst : PO X (some (.UnaryOp .USub (.Constant (.int 1) k p1) p2)) (tPart (tUn (rU fun i => .int (-i)) (tC (.int 1)))) := po_some (pe_un un_neg pe_int)
  refine wpAny_Slice (thn (po_none.run pins s1 σ H1 (fun o H2 => o = none ∧ H2 = H1) I1 ⟨rfl, rfl⟩) fun vl s2 ⟨l, H2, I2, pl, el, e2⟩ => ?_)
  subst el e2
  refine thn (po_none.run pins s2 σ H2 (fun o H3 => o = none ∧ H3 = H2) I2 ⟨rfl, rfl⟩) fun vu s3 ⟨u, H3, I3, pu, eu, e3⟩ => ?_
  subst eu e3
  refine thn (hst.run pins s3 σ H3 (fun o H4 => o = some (-1) ∧ H4 = H3) I3 ⟨1, rfl, -1, rfl, rfl, rfl⟩) fun vs s4 ⟨o, H4, I4, ps, eo, e4⟩ => ?_
  subst eo e4
  have I5 : Inv X pins σ H4 { s4 with heap := s4.heap.push { cls := .type "slice", data := .fields #[vl, vu, vs] } } := I4.kept (t' := s4.toks) fun b ob q => Heap.get?_push_of_some _ q
  obtain ⟨its, r, ht, hz⟩ := I5.tuple hx
  have hlen := r.length
  show wpAny (model X.prog X.w) X.A (subscriptTail e (.Slice none none (some (.UnaryOp .USub (.Constant (.int 1) k p1) p2)) p3) (.ref a) (.ref s4.heap.objs.size)) (EP X pins σ Q) X.xe { s4 with heap := s4.heap.push { cls := .type "slice", data := .fields #[vl, vu, vs] } }
  refine tail_any (ops := [.ref a, .ref s4.heap.objs.size]) ht.typeIs (PyProof.Rows.slot_tuple_getitem.lookup) ?_ (by with_unfolding_all rfl)
  refine getItem_tuple_rev ht (Heap.IsSliceOf.new _ vl vu vs) pl pu ps ?_ (by rw [List.size_toArray]; omega)
  refine ⟨.ref _, _, I5.laid (t' := s4.toks) (o := .tup xs.reverse) (fun b ob q => Heap.get?_push_of_some _ q) (Nat.le_refl _) ?_, rfl, q _ (I5.hok.fresh (Nat.le_refl _))⟩
  exact ⟨by rw [List.length_reverse]; exact hz, its.reverse, r.reverse, IsTup.new _ _⟩
end Mq

namespace Mq
open PySem PySem.Spec PyProof.Rows L2
open SX (S)
/-! ### tuples cut and joined: what stands in the end -/
def NewT (K : PySem.W.Frag) (xs : List V) (H : Hp) (Q : VK) : Prop := ∀ p H', Same H H' → SqT K H' p xs → Q (.ref p) H'
theorem NewT.put {K : PySem.W.Frag} {xs : List V} {H : Hp} {Q : VK} (q : NewT K xs H Q) {p : Addr} (hp : H p = none) : Q (.ref p) (upd H p (.tup xs)) := q p _ (same_new hp) (Or.inl (Or.inl upd_same))
def rSlN (K : PySem.W.Frag) : V → Option Int → Option Int → Hp → VK → Prop := fun x lo hi H Q => ∃ a xs, x = .ref a ∧ SqT K H a xs ∧ NewT K (cutV xs lo hi) H Q
section
variable {X : Cx}
theorem sl_tupN : SlR X (rSlN X.K) := by
  intro pins s σ H x v vl vu lo hi sl Q I rx hs pl pu h
  obtain ⟨a, xs, ex, hx, q⟩ := h
  refine sl_tupA pins s σ H x v vl vu lo hi sl Q I rx hs pl pu ⟨a, xs, ex, hx, fun h => q a H (Same.refl H) ?_, fun _ p hp => q.put hp⟩
  have : cutV xs lo hi = xs := by
    unfold cutV
    rw [h.1, h.2, Nat.sub_zero, List.drop_zero, List.take_length]
  rw [this]
  exact hx
def rCatN (K : PySem.W.Frag) : R2 := fun x y H Q => ∃ a b xs ys, x = .ref a ∧ y = .ref b ∧ SqT K H a xs ∧ SqT K H b ys ∧ xs.length + ys.length ≤ sizeLine ∧ NewT K (xs ++ ys) H Q
theorem op_catN : OpR X (binaryOp .Add) (rCatN X.K) := by
  intro pins s σ H x y v u Q I rx ry h
  obtain ⟨a, b, xs, ys, ex, ey, hx, hy, hz, q⟩ := h
  refine op_catA pins s σ H x y v u Q I rx ry ⟨a, b, xs, ys, ex, ey, hx, hy, hz, fun e => q b H (Same.refl H) ?_, fun _ e => q a H (Same.refl H) ?_, fun _ _ p hp => q.put hp⟩
  · subst e
    exact hy
  · subst e
    rw [List.append_nil]
    exact hx
/-! ### twice a text -/
theorem op_2S : OpR X (binaryOp .Mult) (fun x y H Q => ∃ z : List Nat, x = .int 2 ∧ y = .str (S z) ∧ z.length ≤ 1000 ∧ Q (.str (S (z ++ z))) H) := by
  intro pins s σ H x y v u Q I rx ry h
  obtain ⟨z, rfl, rfl, hz, q⟩ := h
  obtain ⟨t, rfl⟩ := rx
  obtain ⟨t', rfl⟩ := ry
  have hl : (S z).length = z.length := SX.S_len z
  refine lm_binaryOp_repeat_right (T := "str") (U := "int") (by decide) (fun s' => typeIs_int s' 2 t) (typeIs_str s (S z) t') F.fills_int_mul noFill_str_mul F.slot_int_mul lm_noRepeat_int repeat_str F.slot_int_index.lookup
    (call_gives F.slot_int_mul (typeIs_int s 2 t) F.entry_int_mul (F.args_int_mul_2 _ _) (AutoIntG3.int___mul___int_str_0 2 t (S z) t')
      ⟨rfl, typeIs_str _ _ _, call_gives F.slot_str_mul (typeIs_str _ (S z) t') F.entry_str_mul (F.args_str_mul_2 _ _) (gives_str_mul (S z) 2 t' t (by decide) (fun _ _ => ?_) (fun _ _ => ?_)) ?_⟩)
  · rw [hl]
    have : (1000 : Int) ≤ (2 ^ 63 - 1) / 2 := by decide
    omega
  · rw [hl]
    unfold Builtin.Str.tooLong
    exact decide_eq_false (by
      have : (1000 * 2 : Nat) ≤ sizeLine := by decide
      show ¬ (z.length * 2 > sizeLine)
      omega)
  · rw [if_neg (by decide)]
    cases z with
    | nil => exact ⟨.str (S []), H, I, ⟨_, rfl⟩, q⟩
    | cons c z =>
      rw [show (((2 : Int) == 1) || ((S (c :: z)).length == 0)) = false by rw [hl]; rfl, if_neg Bool.false_ne_true]
      have e : (⟨(List.replicate (2 : Int).toNat (S (c :: z)).cps).foldl (· ++ ·) #[]⟩ : Str) = S ((c :: z) ++ (c :: z)) := by
        show (⟨(#[] ++ (c :: z).toArray) ++ (c :: z).toArray⟩ : Str) = ⟨((c :: z) ++ (c :: z)).toArray⟩
        simp
      rw [e]
      refine ⟨?_, .str (S ((c :: z) ++ (c :: z))), H, I.tok _, ⟨_, rfl⟩, q⟩
      show (S ((c :: z) ++ (c :: z))).length ≤ sizeLine
      rw [SX.S_len, List.length_append]
      have : (2000 : Nat) ≤ sizeLine := by decide
      omega
end
end Mq

namespace Mq
open PySem PySem.Spec PyProof.Rows L2
/-! ### sorted(xs), xs a list of tuples of three texts -/
def txt3 (x : Str × Str × Str) : List (Int ⊕ List Nat) := [.inr x.1.cps.toList, .inr x.2.1.cps.toList, .inr x.2.2.cps.toList]
def ltS3 (x y : Str × Str × Str) : Bool := (PyProof.Rows.listOrd PyProof.Rows.itemOrd).blt (txt3 x) (txt3 y)
def Is3 (H : Hp) (f : Addr → Str × Str × Str) (b : Addr) : Prop := H b = some (.tup [.str (f b).1, .str (f b).2.1, .str (f b).2.2])
def rSorted3 (K : PySem.W.Frag) : List V → Hp → VK → Prop := fun xs H Q => ∃ (a : Addr) (as : List Addr) (f : Addr → Str × Str × Str), xs = [.ref a] ∧ SqL K H a (as.map V.ref) ∧ (∀ b ∈ as, Is3 H f b) ∧
  ∀ (qs : List Addr) (p : Addr), qs.Perm as → (∀ i j, i ≤ j → j < qs.length → ltS3 (f (qs.getD j 0)) (f (qs.getD i 0)) = false) → H p = none → Q (.ref p) (upd H p (.lst (qs.map V.ref)))
theorem vals_refs : ∀ {as : List Addr} {us : List Value}, Vals (as.map V.ref) us → us = as.map Value.ref
  | [], _, .nil => rfl
  | b :: as, _, @Paired.cons _ _ _ _ y _ _ r rr => by
    have e : y = Value.ref b := r
    rw [e, vals_refs rr]
    rfl
section
variable {X : Cx}
theorem call_sorted3 : CallR X (.builtin "sorted") (rSorted3 X.K) := by
  intro pins s σ H xs us Q I r q
  obtain ⟨a, as, f, rfl, ha, h3, q⟩ := q
  obtain ⟨u, rfl, rx⟩ := vals1 r
  cases rx
  obtain ⟨its, rv, hl, hz⟩ := I.list ha
  have ei : its = as.map Value.ref := vals_refs rv
  subst ei
  have obj : ∀ b ∈ as, ∃ (ob : Obj) (n : Nat) (t1 t2 t3 : Tok), s.heap.get? b = some ob ∧ ob.cls = .type "tuple" ∧ ob.data = .seq #[.str (f b).1 t1, .str (f b).2.1 t2, .str (f b).2.2 t3] n := by
    intro b hb
    obtain ⟨_, its, r2, ob, h1, h2, n, h4⟩ := (show ObjOk X.prog X.w H s.heap b (.tup [.str (f b).1, .str (f b).2.1, .str (f b).2.2]) from I.hok b _ (h3 b hb))
    cases r2 with
    | cons a1 r2 =>
      cases r2 with
      | cons a2 r2 =>
        cases r2 with
        | cons a3 r2 =>
          cases r2
          obtain ⟨t1, rfl⟩ := a1
          obtain ⟨t2, rfl⟩ := a2
          obtain ⟨t3, rfl⟩ := a3
          exact ⟨ob, n, t1, t2, t3, h1, h2, h4⟩
  have tups : ∀ l : List Addr, (∀ b ∈ l, b ∈ as) → ∃ fs, PyProof.Rows.TupsOf s.heap (fun _ => true) (l.map Value.ref) fs := by
    intro l
    induction l with
    | nil => intro _; exact ⟨[], .nil⟩
    | cons b l ih =>
      intro hl
      obtain ⟨fs, hf⟩ := ih fun x hx => hl x (List.mem_cons_of_mem _ hx)
      obtain ⟨ob, n, t1, t2, t3, h1, h2, h4⟩ := obj b (hl b List.mem_cons_self)
      exact ⟨_, .cons ⟨b, ob, _, n, rfl, h1, h2, h4, rfl, fun z => (by cases z), fun _ => ⟨_, _, rfl⟩⟩ hf⟩
  obtain ⟨fs, hfs⟩ := tups as fun _ h => h
  have keyC : ∀ b ∈ as, PyProof.Rows.G.tupKeyC s.heap (fun _ => true) (.ref b) = some (txt3 (f b)) := by
    intro b hb
    obtain ⟨ob, n, t1, t2, t3, h1, h2, h4⟩ := obj b hb
    have hT : PyProof.Rows.G.isTupObj s.heap (.ref b) = true := by
      simp [PyProof.Rows.G.isTupObj, h1, h2]
    unfold PyProof.Rows.G.tupKeyC
    rw [if_pos hT]
    simp only [PyProof.Rows.tupKey, h1, h4]
    rfl
  refine PyProof.Rows.G.sorted_tups (vs := as.map Value.ref) hl.isList hfs (fun v hv => ?_) (by rw [List.length_map] at hz ⊢; exact hz) fun st' hp hs _ => ?_
  · obtain ⟨b, hb, rfl⟩ := List.mem_map.mp hv
    exact ⟨_, keyC b hb⟩
  obtain ⟨e', he'⟩ := PyProof.Rows.sortedAll_at s.heap (as.map Value.ref) ((arrOf st').map (·.2))
  have mem : ∀ p ∈ (arrOf st').toList, p.1 = p.2 ∧ p.1 ∈ as.map Value.ref := fun p hp' => by
    have h1 := (hp.toList.mem_iff (a := p)).mp hp'
    rw [PyProof.Rows.pairsOf_toList] at h1
    exact PyProof.Rows.mem_zip_self h1
  obtain ⟨qs, hq1, hq2⟩ : ∃ qs : List Addr, (arrOf st').toList.map (·.2) = qs.map Value.ref ∧ qs.Perm as := by
    have h1 : ((arrOf st').toList.map (·.2)).Perm (as.map Value.ref) := by
      have h2 := hp.toList.map (fun p : Keyed => p.2)
      rw [PyProof.Rows.pairsOf_toList] at h2
      rw [List.map_snd_zip (Nat.le_refl _)] at h2
      exact h2
    exact perm_back h1
  have hql : qs.length = as.length := hq2.length_eq
  have harr : (arrOf st').toList.length = qs.length := by
    have h1 := congrArg List.length hq1
    rw [List.length_map, List.length_map] at h1
    exact h1
  have hkk : ∀ i, i < qs.length → PyProof.Rows.KK (PyProof.Rows.G.tupKindC s.heap fun _ => true) (arrOf st') i = txt3 (f (qs.getD i 0)) := by
    intro i hi
    have hi' : i < (arrOf st').toList.length := by omega
    have e1 : (arrOf st')[i]? = some (arrOf st').toList[i] := by
      rw [← Array.getElem?_toList, List.getElem?_eq_getElem hi']
    obtain ⟨m1, m2⟩ := mem _ (List.getElem_mem hi')
    have e2 : (arrOf st').toList[i].2 = .ref (qs.getD i 0) := by
      have h1 := congrArg (fun l => l[i]?) hq1
      simp only [List.getElem?_map, List.getElem?_eq_getElem hi', List.getElem?_eq_getElem hi, Option.map_some, Option.some.injEq] at h1
      rw [h1, List.getD_eq_getElem?_getD, List.getElem?_eq_getElem hi]
      rfl
    have hin : qs.getD i 0 ∈ as := hq2.mem_iff.mp (by rw [List.getD_eq_getElem?_getD, List.getElem?_eq_getElem hi]; exact List.getElem_mem hi)
    unfold PyProof.Rows.KK
    rw [e1]
    show (PyProof.Rows.G.tupKeyC _ _ (arrOf st').toList[i].1).getD _ = _
    rw [m1, e2, keyC _ hin]
    rfl
  have srt : ∀ i j, i ≤ j → j < qs.length → ltS3 (f (qs.getD j 0)) (f (qs.getD i 0)) = false := by
    intro i j hij hj
    have h1 := hs i j hij (by rw [PyProof.Rows.pairsOf_size, List.length_map]; omega)
    rw [hkk i (by omega), hkk j hj] at h1
    exact h1
  have vals : ∀ l : List Addr, Vals (l.map V.ref) (l.map Value.ref) := fun l => by
    induction l with
    | nil => exact .nil
    | cons b l ih => exact .cons rfl ih
  have hout : ((arrOf st').map (·.2)).toList = qs.map Value.ref := by
    rw [Array.toList_map]
    exact hq1
  have hz2 : (qs.map V.ref).length ≤ sizeLine := by
    rw [List.length_map, hql]
    rw [List.length_map] at hz
    exact hz
  have fresh := I.hok.fresh (Nat.le_succ s.heap.objs.size)
  refine ⟨.ref (s.heap.objs.size + 1), upd H (s.heap.objs.size + 1) (.lst (qs.map V.ref)), ?_, rfl, q qs _ hq2 srt fresh⟩
  refine I.laid (t' := s.toks) (fun b u e => PyProof.Rows.sortedAll_old e) (Nat.le_succ _) ⟨hz2, qs.map Value.ref, e', vals qs, ?_⟩
  rw [← hout, Array.toArray_toList]
  exact he'
end
end Mq

namespace Mq
open PySem PySem.Spec PyProof.Rows L2
/-! ### sorted(xs), xs a list of pairs of texts -/
def Is2 (H : Hp) (b : Addr) : Prop := H b = some (.tup [.str (prOf H b).1, .str (prOf H b).2])
def rSorted2 (K : PySem.W.Frag) : List V → Hp → VK → Prop := fun xs H Q => ∃ (a : Addr) (as : List Addr), xs = [.ref a] ∧ SqL K H a (as.map V.ref) ∧ (∀ b ∈ as, Is2 H b) ∧
  ∀ (qs : List Addr) (p : Addr), qs.Perm as → (∀ i j, i ≤ j → j < qs.length → ltSS (prOf H (qs.getD j 0)) (prOf H (qs.getD i 0)) = false) → H p = none → Q (.ref p) (upd H p (.lst (qs.map V.ref)))
section
variable {X : Cx}
theorem call_sorted2 : CallR X (.builtin "sorted") (rSorted2 X.K) := by
  intro pins s σ H xs us Q I r q
  obtain ⟨a, as, rfl, ha, h3, q⟩ := q
  obtain ⟨u, rfl, rx⟩ := vals1 r
  cases rx
  obtain ⟨its, rv, hl, hz⟩ := I.list ha
  have ei : its = as.map Value.ref := vals_refs rv
  subst ei
  have obj : ∀ b ∈ as, ∃ (ob : Obj) (n : Nat) (t1 t2 : Tok), s.heap.get? b = some ob ∧ ob.cls = .type "tuple" ∧ ob.data = .seq #[.str (prOf H b).1 t1, .str (prOf H b).2 t2] n := by
    intro b hb
    obtain ⟨_, its, r2, ob, h1, h2, n, h4⟩ := (show ObjOk X.prog X.w H s.heap b (.tup [.str (prOf H b).1, .str (prOf H b).2]) from I.hok b _ (h3 b hb))
    cases r2 with
    | cons a1 r2 =>
      cases r2 with
      | cons a2 r2 =>
        cases r2
        obtain ⟨t1, rfl⟩ := a1
        obtain ⟨t2, rfl⟩ := a2
        exact ⟨ob, n, t1, t2, h1, h2, h4⟩
  have tups : ∀ l : List Addr, (∀ b ∈ l, b ∈ as) → ∃ fs, PyProof.Rows.TupsOf s.heap (fun _ => true) (l.map Value.ref) fs := by
    intro l
    induction l with
    | nil => intro _; exact ⟨[], .nil⟩
    | cons b l ih =>
      intro hl
      obtain ⟨fs, hf⟩ := ih fun x hx => hl x (List.mem_cons_of_mem _ hx)
      obtain ⟨ob, n, t1, t2, h1, h2, h4⟩ := obj b (hl b List.mem_cons_self)
      exact ⟨_, .cons ⟨b, ob, _, n, rfl, h1, h2, h4, rfl, fun z => (by cases z), fun _ => ⟨_, _, rfl⟩⟩ hf⟩
  obtain ⟨fs, hfs⟩ := tups as fun _ h => h
  have keyC : ∀ b ∈ as, PyProof.Rows.G.tupKeyC s.heap (fun _ => true) (.ref b) = some (txt2 (prOf H b)) := by
    intro b hb
    obtain ⟨ob, n, t1, t2, h1, h2, h4⟩ := obj b hb
    have hT : PyProof.Rows.G.isTupObj s.heap (.ref b) = true := by
      simp [PyProof.Rows.G.isTupObj, h1, h2]
    unfold PyProof.Rows.G.tupKeyC
    rw [if_pos hT]
    simp only [PyProof.Rows.tupKey, h1, h4]
    rfl
  refine PyProof.Rows.G.sorted_tups (vs := as.map Value.ref) hl.isList hfs (fun v hv => ?_) (by rw [List.length_map] at hz ⊢; exact hz) fun st' hp hs _ => ?_
  · obtain ⟨b, hb, rfl⟩ := List.mem_map.mp hv
    exact ⟨_, keyC b hb⟩
  obtain ⟨e', he'⟩ := PyProof.Rows.sortedAll_at s.heap (as.map Value.ref) ((arrOf st').map (·.2))
  have mem : ∀ p ∈ (arrOf st').toList, p.1 = p.2 ∧ p.1 ∈ as.map Value.ref := fun p hp' => by
    have h1 := (hp.toList.mem_iff (a := p)).mp hp'
    rw [PyProof.Rows.pairsOf_toList] at h1
    exact PyProof.Rows.mem_zip_self h1
  obtain ⟨qs, hq1, hq2⟩ : ∃ qs : List Addr, (arrOf st').toList.map (·.2) = qs.map Value.ref ∧ qs.Perm as := by
    have h1 : ((arrOf st').toList.map (·.2)).Perm (as.map Value.ref) := by
      have h2 := hp.toList.map (fun p : Keyed => p.2)
      rw [PyProof.Rows.pairsOf_toList] at h2
      rw [List.map_snd_zip (Nat.le_refl _)] at h2
      exact h2
    exact perm_back h1
  have hql : qs.length = as.length := hq2.length_eq
  have harr : (arrOf st').toList.length = qs.length := by
    have h1 := congrArg List.length hq1
    rw [List.length_map, List.length_map] at h1
    exact h1
  have hkk : ∀ i, i < qs.length → PyProof.Rows.KK (PyProof.Rows.G.tupKindC s.heap fun _ => true) (arrOf st') i = txt2 (prOf H (qs.getD i 0)) := by
    intro i hi
    have hi' : i < (arrOf st').toList.length := by omega
    have e1 : (arrOf st')[i]? = some (arrOf st').toList[i] := by
      rw [← Array.getElem?_toList, List.getElem?_eq_getElem hi']
    obtain ⟨m1, m2⟩ := mem _ (List.getElem_mem hi')
    have e2 : (arrOf st').toList[i].2 = .ref (qs.getD i 0) := by
      have h1 := congrArg (fun l => l[i]?) hq1
      simp only [List.getElem?_map, List.getElem?_eq_getElem hi', List.getElem?_eq_getElem hi, Option.map_some, Option.some.injEq] at h1
      rw [h1, List.getD_eq_getElem?_getD, List.getElem?_eq_getElem hi]
      rfl
    have hin : qs.getD i 0 ∈ as := hq2.mem_iff.mp (by rw [List.getD_eq_getElem?_getD, List.getElem?_eq_getElem hi]; exact List.getElem_mem hi)
    unfold PyProof.Rows.KK
    rw [e1]
    show (PyProof.Rows.G.tupKeyC _ _ (arrOf st').toList[i].1).getD _ = _
    rw [m1, e2, keyC _ hin]
    rfl
  have srt : ∀ i j, i ≤ j → j < qs.length → ltSS (prOf H (qs.getD j 0)) (prOf H (qs.getD i 0)) = false := by
    intro i j hij hj
    have h1 := hs i j hij (by rw [PyProof.Rows.pairsOf_size, List.length_map]; omega)
    rw [hkk i (by omega), hkk j hj] at h1
    exact h1
  have vals : ∀ l : List Addr, Vals (l.map V.ref) (l.map Value.ref) := fun l => by
    induction l with
    | nil => exact .nil
    | cons b l ih => exact .cons rfl ih
  have hout : ((arrOf st').map (·.2)).toList = qs.map Value.ref := by
    rw [Array.toList_map]
    exact hq1
  have hz2 : (qs.map V.ref).length ≤ sizeLine := by
    rw [List.length_map, hql]
    rw [List.length_map] at hz
    exact hz
  have fresh := I.hok.fresh (Nat.le_succ s.heap.objs.size)
  refine ⟨.ref (s.heap.objs.size + 1), upd H (s.heap.objs.size + 1) (.lst (qs.map V.ref)), ?_, rfl, q qs _ hq2 srt fresh⟩
  refine I.laid (t' := s.toks) (fun b u e => PyProof.Rows.sortedAll_old e) (Nat.le_succ _) ⟨hz2, qs.map Value.ref, e', vals qs, ?_⟩
  rw [← hout, Array.toArray_toList]
  exact he'
end
/-- what stands in order is left as it is -/
theorem perm_asc {α : Type} {r : α → α → Bool} : ∀ {l m : List α}, l.Perm m → l.Pairwise (fun a b => r b a = false) → m.Pairwise (fun a b => r a b = true) → l = m
  | [], m, h, _, _ => h.nil_eq
  | a :: l, [], h, _, _ => h.eq_nil
  | a :: l, b :: m, h, hl, hm => by
    obtain ⟨h1, h2⟩ := List.pairwise_cons.mp hl
    obtain ⟨h3, h4⟩ := List.pairwise_cons.mp hm
    have e : a = b := by
      rcases List.mem_cons.mp (h.mem_iff.mp (List.mem_cons_self (a := a) (l := l))) with e | e
      · exact e
      · rcases List.mem_cons.mp (h.mem_iff.mpr (List.mem_cons_self (a := b) (l := m))) with e2 | e2
        · exact e2.symm
        · have h5 := h1 b e2
          rw [h3 a e] at h5
          cases h5
    subst e
    rw [perm_asc h.cons_inv h2 h4]
theorem lt_first {x y : Str × Str} (h : x.1.cps.toList < y.1.cps.toList) : ltSS x y = true := by
  show (decide (x.1.cps.toList < y.1.cps.toList) || (!decide (y.1.cps.toList < x.1.cps.toList) && (decide (x.2.cps.toList < y.2.cps.toList) || (!decide (y.2.cps.toList < x.2.cps.toList) && false)))) = true
  rw [decide_eq_true h]
  rfl
end Mq

namespace Mq
open PySem PySem.Spec PyProof.Rows L2
open SX (S)
/-! ### data of tuples, texts and numbers: where tuples stay, it stays -/
mutual
inductive Td (K : PySem.W.Frag) (H : Hp) : V → PyData → Prop
  | int (i : Int) : Td K H (.int i) (.int i)
  | str (x : Str) : Td K H (.str x) (.str x)
  | tup {a : Addr} {xs : List V} {ds : List PyData} : SqT K H a xs → TdAll K H xs ds → Td K H (.ref a) (.tuple ds)
inductive TdAll (K : PySem.W.Frag) (H : Hp) : List V → List PyData → Prop
  | nil : TdAll K H [] []
  | cons {v : V} {vs : List V} {d : PyData} {ds : List PyData} : Td K H v d → TdAll K H vs ds → TdAll K H (v :: vs) (d :: ds)
end
section
variable {K : PySem.W.Frag} {H H' : Hp}
mutual
theorem Td.kp (e : ∀ a xs, SqT K H a xs → SqT K H' a xs) : ∀ {v : V} {d : PyData}, Td K H v d → Td K H' v d
  | _, _, .int i => .int i
  | _, _, .str x => .str x
  | _, _, .tup h a => .tup (e _ _ h) (TdAll.kp e a)
theorem TdAll.kp (e : ∀ a xs, SqT K H a xs → SqT K H' a xs) : ∀ {v : List V} {d : List PyData}, TdAll K H v d → TdAll K H' v d
  | _, _, .nil => .nil
  | _, _, .cons a b => .cons (Td.kp e a) (TdAll.kp e b)
end
theorem Td.same (e : Same H H') {v : V} {d : PyData} (h : Td K H v d) : Td K H' v d := h.kp fun _ _ z => Same.tup e z
theorem TdAll.same (e : Same H H') {v : List V} {d : List PyData} (h : TdAll K H v d) : TdAll K H' v d := h.kp fun _ _ z => Same.tup e z
mutual
theorem Td.dg : ∀ {v : V} {d : PyData}, Td K H v d → Dg K H v d
  | _, _, .int i => .int i
  | _, _, .str x => .str x
  | _, _, .tup h a => .tup h (TdAll.dg a)
theorem TdAll.dg : ∀ {v : List V} {d : List PyData}, TdAll K H v d → DgAll K H v d
  | _, _, .nil => .nil
  | _, _, .cons a b => .cons (Td.dg a) (TdAll.dg b)
end
mutual
theorem Td.dp : ∀ {v : V} {d : PyData}, Td K H v d → Dp K H v d
  | _, _, .int i => .int i
  | _, _, .str x => .str x
  | _, _, .tup h a => .tup h (TdAll.dp a)
theorem TdAll.dp : ∀ {v : List V} {d : List PyData}, TdAll K H v d → DpAll K H v d
  | _, _, .nil => .nil
  | _, _, .cons a b => .cons (Td.dp a) (TdAll.dp b)
end
theorem TdAll.len : ∀ {vs : List V} {ds : List PyData}, TdAll K H vs ds → vs.length = ds.length
  | _, _, .nil => rfl
  | _, _, .cons a b => congrArg (· + 1) b.len
theorem TdAll.snoc : ∀ {vs : List V} {ds : List PyData} {v : V} {d : PyData}, TdAll K H vs ds → Td K H v d → TdAll K H (vs ++ [v]) (ds ++ [d])
  | _, _, _, _, .nil, h => .cons h .nil
  | _, _, _, _, .cons a b, h => .cons a (b.snoc h)
theorem TdAll.unsnoc : ∀ {vs : List V} {ds : List PyData} {d : PyData}, TdAll K H vs (ds ++ [d]) → ∃ us v, vs = us ++ [v] ∧ TdAll K H us ds ∧ Td K H v d
  | _, [], _, .cons a .nil => ⟨[], _, rfl, .nil, a⟩
  | _, e :: ds, _, .cons a b => by
    obtain ⟨us, v, rfl, h1, h2⟩ := b.unsnoc
    exact ⟨_ :: us, v, rfl, .cons a h1, h2⟩
theorem TdAll.at : ∀ {vs : List V} {ds : List PyData} {i : Nat} {v : V}, TdAll K H vs ds → vs[i]? = some v → ∃ d, ds[i]? = some d ∧ Td K H v d
  | _, _, 0, _, .cons a b, h => ⟨_, rfl, by cases h; exact a⟩
  | _, _, i + 1, _, .cons a b, h => TdAll.at (i := i) b h
theorem TdAll.of_strs {xs : List Str} : TdAll K H (xs.map V.str) (xs.map PyData.str) := by
  induction xs with
  | nil => exact .nil
  | cons x xs ih => exact .cons (.str x) ih
/-- a tuple of two -/
theorem Td.two {v : V} {d e : PyData} (h : Td K H v (.tuple [d, e])) : ∃ a x y, v = .ref a ∧ SqT K H a [x, y] ∧ Td K H x d ∧ Td K H y e := by
  cases h with
  | tup h a =>
    cases a with
    | cons a b =>
      cases b with
      | cons b c =>
        cases c
        exact ⟨_, _, _, rfl, h, a, b⟩
theorem Td.two' {a : Addr} {x y : V} {d e : PyData} (h : SqT K H a [x, y]) (h1 : Td K H x d) (h2 : Td K H y e) : Td K H (.ref a) (.tuple [d, e]) := .tup h (.cons h1 (.cons h2 .nil))
theorem Td.isStr {v : V} {x : Str} (h : Td K H v (.str x)) : v = .str x := by
  cases h
  rfl
end
/-! ### what can be shown, and how long it is -/
structure ShowOk (d : PyData) : Prop where
  sh : d.showable = true
  de : d.depth ≤ 40
  le : d.shown.length ≤ sizeLine
structure Gd (w n : Nat) (d : PyData) : Prop where
  cl : d.canLay0 = true
  sh : d.showable = true
  de : d.depth ≤ n
  we : d.weight ≤ w
  it : d.intsShort 13 = true
theorem gd_str {l : List Nat} {w : Nat} (h : ∀ c ∈ l, c < 1114112) (hl : l.length ≤ w) : Gd w 0 (.str (S l)) := by
  refine ⟨?_, rfl, Nat.le_refl 0, ?_, rfl⟩
  · show (l.toArray : Array Nat).all (fun d => decide (d < 1114112)) = true
    rw [List.all_toArray]
    exact List.all_eq_true.mpr fun c hc => decide_eq_true (h c hc)
  · show (S l).length ≤ w
    rw [SX.S_len]
    exact hl
theorem gd_int {k : Nat} (h : k ≤ 1000) : Gd 20 0 (.int (k : Nat)) := by
  obtain ⟨a, b, c⟩ := small_short k h
  exact ⟨rfl, b, Nat.le_refl 0, c, by show decide _ = true; exact decide_eq_true a⟩
theorem Gd.mono {w n w' n' : Nat} {d : PyData} (h : Gd w n d) (hw : w ≤ w') (hn : n ≤ n') : Gd w' n' d := ⟨h.cl, h.sh, Nat.le_trans h.de hn, Nat.le_trans h.we hw, h.it⟩
theorem gd_all {w n : Nat} : ∀ {ds : List PyData}, (∀ d ∈ ds, Gd w n d) → PyData.canLayAll0 ds = true ∧ PyData.showableAll ds = true ∧ PyData.depthAll ds ≤ n ∧ PyData.weightAll ds ≤ ds.length * (w + 1) ∧ PyData.intsShortAll 13 ds = true
  | [], _ => ⟨rfl, rfl, Nat.zero_le _, Nat.zero_le _, rfl⟩
  | d :: ds, h => by
    obtain ⟨a, b, c, e, f⟩ := gd_all fun x hx => h x (List.mem_cons_of_mem _ hx)
    have g := h d List.mem_cons_self
    refine ⟨?_, ?_, ?_, ?_, ?_⟩
    · show (d.canLay0 && PyData.canLayAll0 ds) = true
      rw [g.cl, a]
      rfl
    · show (d.showable && PyData.showableAll ds) = true
      rw [g.sh, b]
      rfl
    · exact Nat.max_le.mpr ⟨g.de, c⟩
    · show d.weight + 1 + PyData.weightAll ds ≤ (ds.length + 1) * (w + 1)
      have := g.we
      rw [Nat.add_mul, Nat.one_mul]
      omega
    · show (d.intsShort 13 && PyData.intsShortAll 13 ds) = true
      rw [g.it, f]
      rfl
theorem gd_tup {w n m : Nat} {ds : List PyData} (h : ∀ d ∈ ds, Gd w n d) (hl : ds.length ≤ m) : Gd (m * (w + 1)) (n + 1) (.tuple ds) := by
  obtain ⟨a, b, c, e, f⟩ := gd_all h
  exact ⟨a, b, Nat.succ_le_succ c, Nat.le_trans e (Nat.mul_le_mul_right _ hl), f⟩
theorem gd_lst {w n m : Nat} {ds : List PyData} (h : ∀ d ∈ ds, Gd w n d) (hl : ds.length ≤ m) : Gd (m * (w + 1)) (n + 1) (.list ds) := by
  obtain ⟨a, b, c, e, f⟩ := gd_all h
  exact ⟨a, b, Nat.succ_le_succ c, Nat.le_trans e (Nat.mul_le_mul_right _ hl), f⟩
theorem Gd.ok {w n : Nat} {d : PyData} (h : Gd w n d) (hw : w ≤ 1000000) (hn : n ≤ 40) : ShowOk d :=
  ⟨h.sh, Nat.le_trans h.de hn, shown_fits h.cl (Nat.le_trans h.de (Nat.le_trans hn (by decide))) (Nat.le_trans h.we hw) h.it⟩
end Mq

namespace Mq
open PySem PySem.Spec PyProof.Rows L2
open SX (S)
/-! ### signs of what is shown -/
def Low (x : Str) : Prop := ∀ c ∈ x.cps.toList, c < 16 ^ 8
theorem low_of (s : String) : Low (Str.ofString s) := by
  intro c hc
  rw [Str.ofString_eq_toList] at hc
  obtain ⟨d, _, rfl⟩ := List.mem_map.mp (by simpa using hc : c ∈ s.toList.map Char.toNat)
  have h : d.toNat < 4294967296 := d.val.toBitVec.isLt
  exact Nat.lt_of_lt_of_le h (by decide)
theorem low_app {x y : Str} (hx : Low x) (hy : Low y) : Low (x ++ y) := by
  intro c hc
  have e : (x ++ y).cps.toList = x.cps.toList ++ y.cps.toList := Array.toList_append ..
  rw [e] at hc
  exact (List.mem_append.mp hc).elim (hx c) (hy c)
theorem low_join {sep : Str} (hs : Low sep) : ∀ ts : List Str, (∀ t ∈ ts, Low t) → Low (Str.join sep ts)
  | [], _ => fun c hc => by cases (by simpa [Str.join, Str.empty] using hc : False)
  | [x], h => h x List.mem_cons_self
  | x :: y :: r, h => low_app (low_app (h x List.mem_cons_self) hs) (low_join hs (y :: r) fun t ht => h t (List.mem_cons_of_mem _ ht))
theorem low_from : ∀ (ts : List Str) (k : Nat) (acc : Str), Low acc → (∀ t ∈ ts, Low t) → Low (textFrom k acc ts)
  | [], _, _, h, _ => h
  | t :: r, k, acc, h, ht => by
    refine low_from r (k + 1) _ (low_app (low_app h ?_) (ht t List.mem_cons_self)) fun u hu => ht u (List.mem_cons_of_mem _ hu)
    exact low_of _
theorem low_digits {c : Nat} : ∀ d ∈ (Nat.toDigits 16 c).map Char.toNat, d < 16 ^ 8 := by
  intro d hd
  obtain ⟨e, _, rfl⟩ := List.mem_map.mp hd
  have h : e.toNat < 4294967296 := e.val.toBitVec.isLt
  exact Nat.lt_of_lt_of_le h (by decide)
theorem low_char {q c : Nat} (hc : c < 16 ^ 8) : ∀ d ∈ Builtin.Str.reprChar q c, d < 16 ^ 8 := by
  have hx : ∀ w : Nat, ∀ d ∈ List.replicate (w - ((Nat.toDigits 16 c).map Char.toNat).length) 48 ++ (Nat.toDigits 16 c).map Char.toNat, d < 16 ^ 8 := by
    intro w d hd
    rcases List.mem_append.mp hd with h | h
    · rw [(List.mem_replicate.mp h).2]
      decide
    · exact low_digits d h
  have two : ∀ a b : Nat, a < 16 ^ 8 → b < 16 ^ 8 → ∀ d ∈ [a, b], d < 16 ^ 8 := by
    intro a b ha hb d hd
    simp only [List.mem_cons, List.not_mem_nil, or_false] at hd
    rcases hd with rfl | rfl
    · exact ha
    · exact hb
  have both : ∀ (a b : List Nat), (∀ d ∈ a, d < 16 ^ 8) → (∀ d ∈ b, d < 16 ^ 8) → ∀ d ∈ a ++ b, d < 16 ^ 8 := fun a b ha hb d hd => (List.mem_append.mp hd).elim (ha d) (hb d)
  unfold Builtin.Str.reprChar
  dsimp only
  split
  · exact two _ _ (by decide) hc
  split
  · exact two _ _ (by decide) (by decide)
  split
  · exact two _ _ (by decide) (by decide)
  split
  · exact two _ _ (by decide) (by decide)
  split
  · intro d hd
    rw [List.mem_singleton.mp hd]
    exact hc
  split
  · exact both _ _ (two _ _ (by decide) (by decide)) (hx 2)
  split
  · exact both _ _ (two _ _ (by decide) (by decide)) (hx 4)
  · exact both _ _ (two _ _ (by decide) (by decide)) (hx 8)
theorem low_fold (q : Nat) : ∀ (l : List Nat) (acc : Array Nat), (∀ c ∈ l, c < 16 ^ 8) → (∀ c ∈ acc.toList, c < 16 ^ 8) → ∀ c ∈ (l.foldl (fun out c => out ++ (Builtin.Str.reprChar q c).toArray) acc).toList, c < 16 ^ 8
  | [], acc, _, h => h
  | c :: l, acc, hl, h => by
    refine low_fold q l _ (fun d hd => hl d (List.mem_cons_of_mem _ hd)) fun d hd => ?_
    rw [Array.toList_append] at hd
    rcases List.mem_append.mp hd with hd | hd
    · exact h d hd
    · exact low_char (hl c List.mem_cons_self) d hd
theorem low_quote (x : Str) : reprQuote x < 16 ^ 8 := by
  unfold reprQuote
  split <;> decide
theorem low_repr {x : Str} (h : Low x) : Low (reprText x) := by
  intro c hc
  unfold reprText at hc
  have hc : c ∈ ((x.cps.foldl (fun out c => out ++ (Builtin.Str.reprChar (reprQuote x) c).toArray) #[reprQuote x]).push (reprQuote x)).toList := hc
  rw [Array.toList_push, ← Array.foldl_toList] at hc
  rcases List.mem_append.mp hc with hc | hc
  · refine low_fold _ _ _ h (fun d hd => ?_) c hc
    have hd : d ∈ [reprQuote x] := hd
    rw [List.mem_singleton.mp hd]
    exact low_quote x
  · rw [List.mem_singleton.mp hc]
    exact low_quote x
mutual
theorem low_shown {B : Nat} : ∀ d : PyData, d.leavesShort B = true → Low d.shown
  | .none, _ => low_of "None"
  | .bool true, _ => low_of "True"
  | .bool false, _ => low_of "False"
  | .int i, _ => low_of _
  | .str x, h => by
    have hx : ∀ c ∈ x.cps.toList, c < 16 ^ 8 := by simpa only [PyData.leavesShort, List.all_eq_true, decide_eq_true_eq] using h
    exact low_repr hx
  | .list xs, h => by
    have h1 := low_all xs (by simpa only [PyData.leavesShort] using h)
    show Low (listText (PyData.shownAll xs))
    unfold listText
    exact low_app (low_from _ 0 _ (low_of "[") h1) (low_of "]")
  | .tuple xs, h => by
    have h1 := low_all xs (by simpa only [PyData.leavesShort] using h)
    show Low (tupleText (PyData.shownAll xs))
    unfold tupleText
    exact low_app (low_app (low_of "(") (low_join (low_of ", ") _ h1)) (low_of _)
  | .dict kvs, h => by
    have h1 := low_kv kvs (by simpa only [PyData.leavesShort] using h)
    show Low (dictText (PyData.shownKv kvs))
    unfold dictText
    exact low_app (low_app (low_of "{") (low_join (low_of ", ") _ h1)) (low_of "}")
theorem low_all {B : Nat} : ∀ xs : List PyData, PyData.leavesShortAll B xs = true → ∀ t ∈ PyData.shownAll xs, Low t
  | [], _ => fun t ht => by cases ht
  | x :: xs, h => by
    have h' : x.leavesShort B = true ∧ PyData.leavesShortAll B xs = true := by simpa only [PyData.leavesShortAll, Bool.and_eq_true] using h
    have h1 := low_shown x h'.1
    have h2 := low_all xs h'.2
    intro t ht
    rcases List.mem_cons.mp (show t ∈ x.shown :: PyData.shownAll xs from ht) with rfl | ht
    · exact h1
    · exact h2 t ht
theorem low_kv {B : Nat} : ∀ kvs : List (PyData × PyData), PyData.leavesShortKv B kvs = true → ∀ t ∈ PyData.shownKv kvs, Low t
  | [], _ => fun t ht => by cases ht
  | (k, v) :: r, h => by
    have h' : (k.leavesShort B = true ∧ v.leavesShort B = true) ∧ PyData.leavesShortKv B r = true := by simpa only [PyData.leavesShortKv, Bool.and_eq_true] using h
    have h1 := low_shown k h'.1.1
    have h2 := low_shown v h'.1.2
    have h3 := low_kv r h'.2
    intro t ht
    rcases List.mem_cons.mp (show t ∈ (k.shown ++ ": " ++ v.shown) :: PyData.shownKv r from ht) with rfl | ht
    · exact low_app (low_app h1 (low_of ": ")) h2
    · exact h3 t ht
end
/-! ### bounds, dicts and long numbers among them -/
structure Gs (w n : Nat) (d : PyData) : Prop where
  sh : d.showable = true
  de : d.depth ≤ n
  we : d.weight ≤ w
  le : d.leavesShort 60 = true
def gsB (w n : Nat) (d : PyData) : Bool := d.showable && (decide (d.depth ≤ n) && (decide (d.weight ≤ w) && d.leavesShort 60))
theorem gs_of {w n : Nat} {d : PyData} (h : gsB w n d = true) : Gs w n d := by
  obtain ⟨a, h⟩ := Bool.and_eq_true_iff.mp h
  obtain ⟨b, h⟩ := Bool.and_eq_true_iff.mp h
  obtain ⟨c, e⟩ := Bool.and_eq_true_iff.mp h
  exact ⟨a, of_decide_eq_true b, of_decide_eq_true c, e⟩
theorem Gs.mono {w n w' n' : Nat} {d : PyData} (h : Gs w n d) (hw : w ≤ w') (hn : n ≤ n') : Gs w' n' d := ⟨h.sh, Nat.le_trans h.de hn, Nat.le_trans h.we hw, h.le⟩
theorem Gs.len {w n : Nat} {d : PyData} (h : Gs w n d) : d.shown.length ≤ 62 * w + 60 := by
  have h1 := PyData.shown_le 60 (by decide) d h.le
  have h2 := h.we
  omega
theorem Gs.ok {w n : Nat} {d : PyData} (h : Gs w n d) (hw : w ≤ 200000) (hn : n ≤ 40) : ShowOk d :=
  ⟨h.sh, Nat.le_trans h.de hn, by have := h.len; rw [sizeLine_eq]; omega⟩
theorem gs_str {l : List Nat} {w : Nat} (h : ∀ c ∈ l, c < 1114112) (hl : l.length ≤ w) : Gs w 0 (.str (S l)) := by
  refine ⟨rfl, Nat.le_refl 0, ?_, ?_⟩
  · show (S l).length ≤ w
    rw [SX.S_len]
    exact hl
  · show (l.toArray.toList.all fun c => decide (c < 16 ^ 8)) = true
    refine List.all_eq_true.mpr fun c hc => decide_eq_true ?_
    exact Nat.lt_of_lt_of_le (h c (by simpa using hc)) (by decide)
theorem Gs.shown {w n : Nat} {d : PyData} (h : Gs w n d) : Gs (62 * w + 60) 0 (.str d.shown) := by
  refine ⟨rfl, Nat.le_refl 0, h.len, ?_⟩
  show (d.shown.cps.toList.all fun c => decide (c < 16 ^ 8)) = true
  exact List.all_eq_true.mpr fun c hc => decide_eq_true (low_shown d h.le c hc)
theorem gs_all {w n : Nat} : ∀ {ds : List PyData}, (∀ d ∈ ds, Gs w n d) → PyData.showableAll ds = true ∧ PyData.depthAll ds ≤ n ∧ PyData.weightAll ds ≤ ds.length * (w + 1) ∧ PyData.leavesShortAll 60 ds = true
  | [], _ => ⟨rfl, Nat.zero_le _, Nat.zero_le _, rfl⟩
  | d :: ds, h => by
    obtain ⟨b, c, e, f⟩ := gs_all fun x hx => h x (List.mem_cons_of_mem _ hx)
    have g := h d List.mem_cons_self
    refine ⟨?_, ?_, ?_, ?_⟩
    · show (d.showable && PyData.showableAll ds) = true
      rw [g.sh, b]
      rfl
    · exact Nat.max_le.mpr ⟨g.de, c⟩
    · show d.weight + 1 + PyData.weightAll ds ≤ (ds.length + 1) * (w + 1)
      have := g.we
      rw [Nat.add_mul, Nat.one_mul]
      omega
    · show (d.leavesShort 60 && PyData.leavesShortAll 60 ds) = true
      rw [g.le, f]
      rfl
theorem gs_tup {w n m : Nat} {ds : List PyData} (h : ∀ d ∈ ds, Gs w n d) (hl : ds.length ≤ m) : Gs (m * (w + 1)) (n + 1) (.tuple ds) := by
  obtain ⟨b, c, e, f⟩ := gs_all h
  exact ⟨b, Nat.succ_le_succ c, Nat.le_trans e (Nat.mul_le_mul_right _ hl), f⟩
theorem gs_lst {w n m : Nat} {ds : List PyData} (h : ∀ d ∈ ds, Gs w n d) (hl : ds.length ≤ m) : Gs (m * (w + 1)) (n + 1) (.list ds) := by
  obtain ⟨b, c, e, f⟩ := gs_all h
  exact ⟨b, Nat.succ_le_succ c, Nat.le_trans e (Nat.mul_le_mul_right _ hl), f⟩
theorem gs_bool {w n : Nat} (b : Bool) : Gs w n (.bool b) := ⟨rfl, Nat.zero_le _, Nat.zero_le _, rfl⟩
/-! ### data whose lists and dicts stand at told places: it stays where these stay -/
mutual
inductive Dv (K : PySem.W.Frag) (N : Addr → Prop) (H : Hp) : V → PyData → Prop
  | non : Dv K N H .non .none
  | bl (b : Bool) : Dv K N H (.bl b) (.bool b)
  | int (i : Int) : Dv K N H (.int i) (.int i)
  | str (x : Str) : Dv K N H (.str x) (.str x)
  | lst {a : Addr} {xs : List V} {ds : List PyData} : N a → a ≠ sysModules → H a = some (.lst xs) → DvAll K N H xs ds → Dv K N H (.ref a) (.list ds)
  | tup {a : Addr} {xs : List V} {ds : List PyData} : SqT K H a xs → DvAll K N H xs ds → Dv K N H (.ref a) (.tuple ds)
  | dct {a : Addr} : N a → H a = some (.dK []) → Dv K N H (.ref a) (.dict [])
inductive DvAll (K : PySem.W.Frag) (N : Addr → Prop) (H : Hp) : List V → List PyData → Prop
  | nil : DvAll K N H [] []
  | cons {v : V} {vs : List V} {d : PyData} {ds : List PyData} : Dv K N H v d → DvAll K N H vs ds → DvAll K N H (v :: vs) (d :: ds)
end
section
variable {K : PySem.W.Frag} {N N' : Addr → Prop} {H H' : Hp}
mutual
theorem Dv.kp (e1 : ∀ a o, N a → H a = some o → H' a = some o) (e2 : ∀ a xs, SqT K H a xs → SqT K H' a xs) : ∀ {v : V} {d : PyData}, Dv K N H v d → Dv K N H' v d
  | _, _, .non => .non
  | _, _, .bl b => .bl b
  | _, _, .int i => .int i
  | _, _, .str x => .str x
  | _, _, .lst n m h a => .lst n m (e1 _ _ n h) (DvAll.kp e1 e2 a)
  | _, _, .tup h a => .tup (e2 _ _ h) (DvAll.kp e1 e2 a)
  | _, _, .dct n h => .dct n (e1 _ _ n h)
theorem DvAll.kp (e1 : ∀ a o, N a → H a = some o → H' a = some o) (e2 : ∀ a xs, SqT K H a xs → SqT K H' a xs) : ∀ {v : List V} {d : List PyData}, DvAll K N H v d → DvAll K N H' v d
  | _, _, .nil => .nil
  | _, _, .cons a b => .cons (Dv.kp e1 e2 a) (DvAll.kp e1 e2 b)
end
mutual
theorem Dv.mono (e : ∀ a, N a → N' a) : ∀ {v : V} {d : PyData}, Dv K N H v d → Dv K N' H v d
  | _, _, .non => .non
  | _, _, .bl b => .bl b
  | _, _, .int i => .int i
  | _, _, .str x => .str x
  | _, _, .lst n m h a => .lst (e _ n) m h (DvAll.mono e a)
  | _, _, .tup h a => .tup h (DvAll.mono e a)
  | _, _, .dct n h => .dct (e _ n) h
theorem DvAll.mono (e : ∀ a, N a → N' a) : ∀ {v : List V} {d : List PyData}, DvAll K N H v d → DvAll K N' H v d
  | _, _, .nil => .nil
  | _, _, .cons a b => .cons (Dv.mono e a) (DvAll.mono e b)
end
mutual
theorem Dv.dg : ∀ {v : V} {d : PyData}, Dv K N H v d → Dg K H v d
  | _, _, .non => .non
  | _, _, .bl b => .bl b
  | _, _, .int i => .int i
  | _, _, .str x => .str x
  | _, _, .lst _ m h a => .lst m (SqL.of h) (DvAll.dg a)
  | _, _, .tup h a => .tup h (DvAll.dg a)
  | _, _, .dct n h => .dct h .nil
theorem DvAll.dg : ∀ {v : List V} {d : List PyData}, DvAll K N H v d → DgAll K H v d
  | _, _, .nil => .nil
  | _, _, .cons a b => .cons (Dv.dg a) (DvAll.dg b)
end
mutual
theorem Td.dv : ∀ {v : V} {d : PyData}, Td K H v d → Dv K N H v d
  | _, _, .int i => .int i
  | _, _, .str x => .str x
  | _, _, .tup h a => .tup h (TdAll.dv a)
theorem TdAll.dv : ∀ {v : List V} {d : List PyData}, TdAll K H v d → DvAll K N H v d
  | _, _, .nil => .nil
  | _, _, .cons a b => .cons (Td.dv a) (TdAll.dv b)
end
theorem Dv.same (e : Same H H') {v : V} {d : PyData} (h : Dv K N H v d) : Dv K N H' v d := h.kp (fun a o _ z => e a o z) fun _ _ z => Same.tup e z
theorem DvAll.same (e : Same H H') {v : List V} {d : List PyData} (h : DvAll K N H v d) : DvAll K N H' v d := h.kp (fun a o _ z => e a o z) fun _ _ z => Same.tup e z
theorem DvAll.len : ∀ {vs : List V} {ds : List PyData}, DvAll K N H vs ds → vs.length = ds.length
  | _, _, .nil => rfl
  | _, _, .cons a b => congrArg (· + 1) b.len
theorem DvAll.app : ∀ {vs us : List V} {ds es : List PyData}, DvAll K N H vs ds → DvAll K N H us es → DvAll K N H (vs ++ us) (ds ++ es)
  | _, _, _, _, .nil, h => h
  | _, _, _, _, .cons a b, h => .cons a (b.app h)
theorem DvAll.at : ∀ {vs : List V} {ds : List PyData} {i : Nat} {v : V}, DvAll K N H vs ds → vs[i]? = some v → ∃ d, ds[i]? = some d ∧ Dv K N H v d
  | _, _, 0, _, .cons a b, h => ⟨_, rfl, by cases h; exact a⟩
  | _, _, i + 1, _, .cons a b, h => DvAll.at (i := i) b h
theorem DvAll.mem {vs : List V} {ds : List PyData} {v : V} (h : DvAll K N H vs ds) (hv : v ∈ vs) : ∃ d ∈ ds, Dv K N H v d := by
  obtain ⟨i, hi, e⟩ := List.getElem_of_mem hv
  obtain ⟨d, h1, h2⟩ := h.at (i := i) (by rw [List.getElem?_eq_getElem hi, e])
  exact ⟨d, List.mem_of_getElem? h1, h2⟩
end
/-! ### capital letters -/
theorem upper_low (l : List Nat) (h : ∀ c ∈ l, c < 128) : ∃ u : List Nat, Txt.upper (S l) = S u ∧ u.length = l.length ∧ ∀ c ∈ u, c < 128 := by
  have h1 : ((List.range 128).all fun c => match Unicode.upperOf c with | [d] => decide (d < 128) | _ => false) = true := by decide +kernel
  have h2 : ∀ c, c < 128 → ∃ d, Unicode.upperOf c = [d] ∧ d < 128 := by
    intro c hc
    have h3 := List.all_eq_true.mp h1 c (List.mem_range.mpr hc)
    split at h3
    · rename_i d e
      exact ⟨d, e, of_decide_eq_true h3⟩
    · cases h3
  refine ⟨l.map fun c => (Unicode.upperOf c).headD 0, ?_, List.length_map .., ?_⟩
  · have e1 : (placed (S l) fun _ c => Unicode.upperOf c).toList = l.map fun c => (Unicode.upperOf c).headD 0 := by
      unfold placed
      rw [Array.toList_flatten, Array.toList_mapIdx]
      show ((List.mapIdx (fun (_ : Nat) (c : Nat) => (Unicode.upperOf c).toArray) l).map Array.toList).flatten = _
      rw [show ((List.mapIdx (fun (_ : Nat) (c : Nat) => (Unicode.upperOf c).toArray) l).map Array.toList) = l.map Unicode.upperOf from ?_]
      · clear h1
        induction l with
        | nil => rfl
        | cons c l ih =>
          obtain ⟨d, hd, _⟩ := h2 c (h c List.mem_cons_self)
          rw [List.map_cons, List.flatten_cons, List.map_cons, ih fun x hx => h x (List.mem_cons_of_mem _ hx), hd]
          rfl
      · refine List.ext_getElem? fun i => ?_
        rw [List.getElem?_map, List.getElem?_mapIdx, List.getElem?_map, Option.map_map]
        rfl
    show Str.mk _ = Str.mk _
    exact congrArg Str.mk (Array.toList_inj.mp e1)
  · intro c hc
    obtain ⟨d, hd, rfl⟩ := List.mem_map.mp hc
    obtain ⟨e, h3, h4⟩ := h2 d (h d hd)
    rw [h3]
    exact h4
end Mq

namespace Mq
open PySem PySem.Spec PyProof.Rows L2
/-! ### text.replace(c, d) of two written texts, behind a first item that gives out a token -/
section
variable {X : Cx}
theorem pat_of {es : List Expr} {t : TA} (h : PA X es t) : PAT X es t := fun pos pins s σ H Q _ I q => h.run pos pins s σ H Q I q
theorem pet_of {e : Expr} {t : TE} (h : PE X e t) : PET X e t := fun pins s σ H Q _ I q => h.run pins s σ H Q I q
/-- [a op 'c', ..]: behind the first item a token is out -/
theorem pa_consT {op : Operator} {r : R2} {a : Expr} {c : Str} {j : Nat} {es : List Expr} {ta : TE} {t : TA} {cp pos : Pos} (ho : OpR X (binaryOp op) r) (ha : PE X a ta) (hr : PAT X es t)
    (hs : starEach (.BinOp a op (.Constant (.str c) j cp) pos :: es) X.env = (false, eval (.BinOp a op (.Constant (.str c) j cp) pos) X.env) :: starEach es X.env := by rfl) :
    PA X (.BinOp a op (.Constant (.str c) j cp) pos :: es) (tCons (tOp r ta (tC (.str c))) t) := by
  refine ⟨fun pos2 pins s σ H Q I h => ?_⟩
  rw [hs]
  show wpAny _ _ (spliced ((false, eval (.BinOp a op (.Constant (.str c) j cp) pos) X.env) :: backTo pos2 (starEach es X.env))) _ _ s
  refine Calls.spliced_cons (wpAny_BinOp (thn (ha.run pins s σ H _ I h) fun v s1 ⟨x, H1, I1, r1, q1⟩ => ?_))
  refine Calls.Constant_str ?_
  have I2 := I1.tok (s1.toks + 1)
  refine wpAny_mono (PySem.wpAny_toks (ho pins _ σ H1 x (.str c) v _ _ I2 r1 ⟨_, rfl⟩ q1)) (fun u s3 hq => ?_) fun _ _ z => z.2
  obtain ⟨hk, y, H3, I3, r3, q3⟩ := hq
  have hk' : s1.toks + 1 ≤ s3.toks := hk
  exact thn (hr pos2 pins s3 σ H3 _ (by omega) I3 q3) fun us s4 ⟨xs, H4, I4, r4, q4⟩ => ⟨y :: xs, H4, I4, .cons r3 r4, q4⟩
def tRepC (ik : Nat) (y z : Str) : TE := fun σ H Q => ∃ x, σ[ik]? = some (some (.str x)) ∧ x.length + (x.length + 1) * z.length ≤ 16777216 ∧ Q (.str (Txt.replace x y z)) H
theorem pet_repC {ik j0 j1 : Nat} {kx y z : Str} {p1 c0 c1 apos pos : Pos} (hNk : X.N[ik]? = some kx) (hvk : Vis X.env.scope kx) (hyz : (y == z) = false)
    (hdk : (kx == ("__debug__" : Str)) = false := by decide) (hck : (kx == ("__classdict__" : Str)) = false := by decide)
    (hst : starEach [.Constant (.str y) j0 c0, .Constant (.str z) j1 c1] X.env = [(false, eval (.Constant (.str y) j0 c0) X.env), (false, eval (.Constant (.str z) j1 c1) X.env)] := by rfl)
    (hbase : attributeBase (.Name kx p1) "replace" X.env (eval (.Name kx p1) X.env) = eval (.Name kx p1) X.env := by rfl) (hline : (apos.endLine == pos.line) = true := by rfl) :
    PET X (.Call (.Attribute (.Name kx p1) "replace" apos) [.Constant (.str y) j0 c0, .Constant (.str z) j1 c1] [] pos) (tRepC ik y z) := by
  intro pins s σ H Q h0 I h
  obtain ⟨x, hx, hb, q⟩ := h
  refine PySem.Call_method2 hbase hst hline (raw_name hNk hvk I hx (fun v r => ?_) hdk hck)
  obtain ⟨tx, e⟩ := r
  subst e
  refine ⟨"str", _, F.plainAttrs_str, F.slot_str_replace, F.type_str_replace, typeIs_str _ _ _, (fun _ e => nomatch e), Calls.callWith_builtin rfl (Calls.evalArgs_plain (Calls.spliced_cons ?_))⟩
  refine Calls.Constant_str (Calls.spliced_cons (Calls.Constant_str (Calls.spliced_nil ?_)))
  exact PySem.SC.replace (show s.toks ≠ 0 by omega) (show s.toks + 1 ≠ 0 by omega) (show s.toks ≠ s.toks + 1 by omega) hyz hb fun t' k => ⟨.str (Txt.replace x y z), H, I.tok k, ⟨t', rfl⟩, q⟩
end
end Mq

namespace Lw
open PySem PySem.Spec PyProof.Rows L2 Mq
open SX (S)
theorem PT_imp {X : Cx} {e : Expr} {t t' : TT} (h : PT X e t) (i : ∀ σ H Q, t' σ H Q → t σ H Q) : PT X e t' := ⟨fun pins s σ H Q I q => h.run pins s σ H Q I (i σ H Q q)⟩
def KpT (K : PySem.W.Frag) (H H' : Hp) : Prop := ∀ a xs, SqT K H a xs → SqT K H' a xs
theorem KpT.trans {K : PySem.W.Frag} {H H' H'' : Hp} (a : KpT K H H') (b : KpT K H' H'') : KpT K H H'' := fun x y h => b x y (a x y h)
theorem KpT.off {K : PySem.W.Frag} {D C : Addr} {T : Nat} {H H' : Hp} (f : Off D C H H') (k : DeckAt D C T H) : KpT K H H' := fun _ _ h => f.tup k h
theorem KpT.same {K : PySem.W.Frag} {H H' : Hp} (e : Same H H') : KpT K H H' := fun _ _ h => Same.tup e h
theorem KpT.lst {K : PySem.W.Frag} {H : Hp} {L : Addr} {xs ys : List V} (h : H L = some (.lst xs)) : KpT K H (upd H L (.lst ys)) := by
  intro a zs hz
  have ne : ∀ {o : HO}, H a = some o → (∀ xs, o ≠ .lst xs) → upd H L (.lst ys) a = some o := by
    intro o e n
    by_cases q : a = L
    · subst q
      rw [h] at e
      cases e
      exact (n _ rfl).elim
    · exact (upd_ne q).trans e
  rcases hz with (hz | ⟨o, hz⟩) | hz
  · exact Or.inl (Or.inl (ne hz fun _ z => nomatch z))
  · exact Or.inl (Or.inr ⟨o, ne hz fun _ z => nomatch z⟩)
  · exact Or.inr hz
def letB (sg : List Nat) : List Nat → Bool
  | [c] => decide (c ∈ sg)
  | _ => false
theorem S_dec (a b : List Nat) : decide (V.str (S a) = V.str (S b)) = decide (a = b) := by
  refine decide_eq_decide.mpr ⟨fun h => SX.S_inj (V.str.inj h), fun h => by rw [h]⟩
theorem int_ne {n m : Nat} (h : n ≠ m) : (!decide (V.int (n : Nat) = V.int (m : Nat))) = true := by
  rw [Bool.not_eq_true']
  exact decide_eq_false fun z => h (Int.ofNat.inj (V.int.inj z))
theorem letB_one {sg a : List Nat} (h : letB sg a = true) : ∃ c, a = [c] ∧ c ∈ sg := by
  match a, h with
  | [c], h => exact ⟨c, rfl, of_decide_eq_true h⟩
def NoTx (K : PySem.W.Frag) (H : Hp) (v : V) : Prop := ∃ c, TyX K H v c ∧ PySem.W.kitOne K c (.type "str") = some false
def lineD (d : Addr) (k : Nat) (H : Hp) : Hp := upd H d (.xd [("line", .int (k : Nat))])
theorem map_SV (ws : List (List Nat)) : (ws.map S).map V.str = ws.map fun l => V.str (S l) := by rw [List.map_map]; rfl
theorem at_line {ws : List (List Nat)} {i : Nat} {l : List Nat} (h : ws[i]? = some l) : atI (ws.map fun l => V.str (S l)) (i : Nat) = some (.str (S l)) := atI_nat (by rw [List.getElem?_map, h]; rfl)
theorem cut_from (xs : List V) (k : Nat) : cutV xs (some ((k : Nat) : Int)) none = xs.drop k := by
  unfold cutV
  rw [HT.sIx_nat, HT.sIx_none]
  by_cases h : k ≤ xs.length
  · rw [Nat.min_eq_left h, List.take_of_length_le (by rw [List.length_drop]; exact Nat.le_refl _)]
  · rw [Nat.min_eq_right (by omega), List.drop_of_length_le (Nat.le_refl _), List.drop_of_length_le (by omega), List.take_nil]
theorem cut_tail (l : V) (xs : List V) : cutV (l :: xs) (some 1) none = xs := cut_from (l :: xs) 1
theorem push_same {H0 H : Hp} {L : Addr} {o : HO} (hn : H0 L = none) (s : Same H0 H) : Same H0 (upd H L o) := by
  intro b u e
  rw [upd_ne (ne_of_none e hn)]
  exact s b u e
def orDash (z : List Nat) : List Nat := if z = [] then [45] else z
theorem app_le {a b : Str} {m n : Nat} (h : a.length ≤ m) (k : b.length ≤ n) : (a ++ b).length ≤ m + n := by
  have e : (a ++ b).length = a.length + b.length := Array.size_append ..
  omega
theorem S_le {l : List Nat} {n : Nat} (h : l.length ≤ n) : (S l).length ≤ n := by rw [SX.S_len]; exact h
theorem sum_le {ps : List (List Nat)} {n : Nat} (h : ∀ p ∈ ps, p.length ≤ n) : ((ps.map S).map (·.length)).sum ≤ ps.length * n := by
  induction ps with
  | nil => exact Nat.zero_le _
  | cons p ps ih =>
    rw [List.map_cons, List.map_cons, List.sum_cons, List.length_cons, Nat.succ_mul]
    have h1 := ih fun q hq => h q (List.mem_cons_of_mem _ hq)
    have h2 := h p List.mem_cons_self
    rw [SX.S_len]
    omega
theorem getD_mem {l : List Nat} {a : Nat} (ha : a < l.length) : l.getD a 0 ∈ l := by
  rw [List.getD_eq_getElem?_getD, List.getElem?_eq_getElem ha]
  exact List.getElem_mem ha
theorem new_ne {D C : Addr} {T : Nat} {H : Hp} {q : Addr} (k : DeckAt D C T H) (h : H q = none) : q ≠ D ∧ q ≠ C := by
  obtain ⟨_, _, _, e1, e2, _⟩ := k.ex
  refine ⟨?_, ?_⟩
  · rintro rfl
    rw [h] at e1
    cases e1
  · rintro rfl
    rw [h] at e2
    cases e2
theorem deck_lst {D C L : Addr} {T : Nat} {H : Hp} {o : HO} (k : DeckAt D C T H) (h1 : L ≠ D) (h2 : L ≠ C) : DeckAt D C T (upd H L o) := by
  obtain ⟨m, t, js, a, b, c, d⟩ := k.ex
  exact ⟨m, t, js, (upd_ne (Ne.symm h1)).trans a, (upd_ne (Ne.symm h2)).trans b, c, d⟩
theorem off_lst {D C L : Addr} {H H' : Hp} {o : HO} (e : Off D C H H') (h : H L = none) : Off D C H (upd H' L o) := by
  intro b u h1 h2 e2
  rw [upd_ne (ne_of_none e2 h)]
  exact e b u h1 h2 e2
theorem S_one {c d : Nat} : S [c] = S [d] ↔ c = d := ⟨fun h => by have := SX.S_inj h; simpa using this, fun h => by rw [h]⟩
theorem asc_pair {l : List Nat} : ascB l = true ↔ l.Pairwise (· < ·) := by
  unfold ascB
  rw [List.pairwise_iff_getElem, List.all_eq_true]
  constructor
  · intro h
    have h1 : ∀ k, k + 1 < l.length → l.getD k 0 < l.getD (k + 1) 0 := by
      intro k hk
      have := h (decide (l.getD k 0 < l.getD (k + 1) 0)) (List.mem_map.mpr ⟨k, List.mem_range.mpr (by omega), rfl⟩)
      exact of_decide_eq_true this
    have h2 : ∀ n i, i + n + 1 < l.length → l.getD i 0 < l.getD (i + n + 1) 0 := by
      intro n
      induction n with
      | zero => exact fun i hi => h1 i hi
      | succ n ih => exact fun i hi => Nat.lt_trans (ih i (by omega)) (h1 (i + n + 1) (by omega))
    intro i j hi hj hij
    have := h2 (j - i - 1) i (by omega)
    rw [show i + (j - i - 1) + 1 = j by omega] at this
    rw [List.getD_eq_getElem?_getD, List.getD_eq_getElem?_getD, List.getElem?_eq_getElem hi, List.getElem?_eq_getElem hj] at this
    exact this
  · intro h b hb
    obtain ⟨k, hk, rfl⟩ := List.mem_map.mp hb
    have hk := List.mem_range.mp hk
    have := h k (k + 1) (by omega) (by omega) (by omega)
    rw [List.getD_eq_getElem?_getD, List.getD_eq_getElem?_getD, List.getElem?_eq_getElem (show k < l.length by omega), List.getElem?_eq_getElem (show k + 1 < l.length by omega)]
    exact decide_eq_true this
theorem rising_pair : ∀ (p : Nat) (l : List Nat), PyProof.Rows.risingS (S [p]) (l.map fun c => S [c]) = true → (p :: l).Pairwise (· ≤ ·)
  | p, [], _ => List.pairwise_singleton _ _
  | p, x :: l, h => by
    have h' : (!PySem.Spec.ltCps (S [x]).cps.toList (S [p]).cps.toList && PyProof.Rows.risingS (S [x]) (l.map fun c => S [c])) = true := h
    obtain ⟨h1, h2⟩ := Bool.and_eq_true_iff.mp h'
    have ih := rising_pair x l h2
    have h3 : p ≤ x := by
      have e : PySem.Spec.ltCps (S [x]).cps.toList (S [p]).cps.toList = decide (x < p) := by
        show (decide (x < p) || (x == p && false)) = _
        rw [Bool.and_false, Bool.or_false]
      rw [e] at h1
      have := of_decide_eq_false (by simpa using h1 : decide (x < p) = false)
      omega
    refine List.pairwise_cons.mpr ⟨fun y hy => ?_, ih⟩
    rcases List.mem_cons.mp hy with rfl | hy
    · exact h3
    · exact Nat.le_trans h3 ((List.pairwise_cons.mp ih).1 y hy)
theorem sorted_pair {l : List Nat} (h : PyProof.Rows.sortedS (l.map fun c => S [c]) = true) (nd : l.Nodup) : l.Pairwise (· < ·) := by
  have h1 : l.Pairwise (· ≤ ·) := by
    cases l with
    | nil => exact .nil
    | cons p l => exact rising_pair p l h
  exact (h1.and nd).imp fun ⟨a, b⟩ => Nat.lt_of_le_of_ne a b
theorem dp_strs {K : PySem.W.Frag} {H : Hp} : ∀ ys : List Str, DpAll K H (ys.map V.str) (ys.map PyData.str)
  | [] => .nil
  | y :: ys => .cons (.str y) (dp_strs ys)
theorem shaped_strs {ys : List Str} (h : ∀ y ∈ ys, (PyData.str y).canLay0 = true) : SeqAt.shaped (.list (ys.map PyData.str)) = true := by
  have key : PyData.canLayAll0 (ys.map PyData.str) = true ∧ PyData.depthAll (ys.map PyData.str) = 0 := by
    induction ys with
    | nil => exact ⟨rfl, rfl⟩
    | cons y ys ih =>
      obtain ⟨a, b⟩ := ih fun m hm => h m (List.mem_cons_of_mem _ hm)
      constructor
      · show ((PyData.str y).canLay0 && PyData.canLayAll0 (ys.map PyData.str)) = true
        rw [h y List.mem_cons_self, a]
        rfl
      · show max 0 (PyData.depthAll (ys.map PyData.str)) = 0
        rw [b]
        rfl
  unfold SeqAt.shaped
  rw [show (PyData.list (ys.map PyData.str)).canLay0 = true from key.1]
  have : (PyData.list (ys.map PyData.str)).depth ≤ 64 := by
    show PyData.depthAll _ + 1 ≤ 64
    rw [key.2]
    decide
  rw [decide_eq_true this]
  rfl
theorem eqv_strs : ∀ xs ys : List Str, PyData.eqv (.list (xs.map PyData.str)) (.list (ys.map PyData.str)) = decide (xs = ys)
  | [], [] => rfl
  | [], _ :: _ => rfl
  | _ :: _, [] => rfl
  | x :: xs, y :: ys => by
    have ih := eqv_strs xs ys
    show (x == y && PyData.eqv (.list (xs.map PyData.str)) (.list (ys.map PyData.str))) = _
    rw [ih]
    rw [Bool.eq_iff_iff]
    simp
theorem all_filter (n : Nat) (q : Nat → Bool) : ((List.range n).map q).all id = ((List.range n).filter fun k => !q k).isEmpty := by
  rw [Bool.eq_iff_iff]
  simp [List.filter_eq_nil_iff]
theorem dp_signs {K : PySem.W.Frag} {H : Hp} (g : Nat → Str) : ∀ js : List Nat, DpAll K H (js.map fun k => V.str (g k)) (js.map fun k => PyData.str (g k))
  | [] => .nil
  | t :: ts => .cons (.str _) (dp_signs g ts)
theorem lay_signs (g : Nat → Str) : ∀ js : List Nat, (∀ k ∈ js, (PyData.str (g k)).canLay0 = true) → PyData.canLayAll0 (js.map fun k => PyData.str (g k)) = true ∧ PyData.depthAll (js.map fun k => PyData.str (g k)) = 0
  | [], _ => ⟨rfl, rfl⟩
  | t :: ts, h => by
    have ih := lay_signs g ts (fun k hk => h k (List.mem_cons_of_mem _ hk))
    constructor
    · show ((PyData.str (g t)).canLay0 && PyData.canLayAll0 (ts.map fun k => PyData.str (g k))) = true
      rw [h t (List.mem_cons_self ..), ih.1]
      rfl
    · show max 0 (PyData.depthAll (ts.map fun k => PyData.str (g k))) = 0
      rw [ih.2]
      rfl
theorem shaped_signs (g : Nat → Str) (js : List Nat) (h : ∀ k ∈ js, (PyData.str (g k)).canLay0 = true) : SeqAt.shaped (.list (js.map fun k => PyData.str (g k))) = true := by
  unfold SeqAt.shaped
  obtain ⟨a, b⟩ := lay_signs g js h
  rw [show (PyData.list (js.map fun k => PyData.str (g k))).canLay0 = true from a]
  have : (PyData.list (js.map fun k => PyData.str (g k))).depth ≤ 64 := by
    show PyData.depthAll _ + 1 ≤ 64
    omega
  rw [decide_eq_true this]
  rfl
theorem sign_ok {c : Nat} (h : c < 1114112) : (PyData.str (S [c])).canLay0 = true := by
  show (#[c] : Array Nat).all (fun d => decide (d < 1114112)) = true
  simp [h]
theorem eqv_nil (g : Nat → Str) (js : List Nat) : PyData.eqv (.list (js.map fun k => PyData.str (g k))) (.list []) = js.isEmpty := by
  cases js <;> rfl
theorem lay_txt {l : List Nat} (h : ∀ c ∈ l, c < 128) : (PyData.str (S l)).canLay0 = true := by
  show (l.toArray : Array Nat).all (fun d => decide (d < 1114112)) = true
  rw [List.all_toArray]
  refine List.all_eq_true.mpr fun c hc => decide_eq_true ?_
  have := h c hc
  omega
def LowL (l : List Nat) : Prop := ∀ c ∈ l, c < 128
theorem few_of {α : Type} [DecidableEq α] : ∀ {l m : List α}, l.Nodup → (∀ x ∈ l, x ∈ m) → l.length ≤ m.length
  | [], _, _, _ => Nat.zero_le _
  | a :: l, m, hn, hs => by
    have h1 := hs a List.mem_cons_self
    have h2 := few_of (l := l) (m := m.erase a) (List.nodup_cons.mp hn).2 fun x hx => by
      refine (List.mem_erase_of_ne ?_).mpr (hs x (List.mem_cons_of_mem _ hx))
      rintro rfl
      exact (List.nodup_cons.mp hn).1 hx
    rw [List.length_erase_of_mem h1] at h2
    have h3 := List.length_pos_of_mem h1
    rw [List.length_cons]
    omega
theorem one_let (sg w : List Nat) : (sg.any fun c => decide (S [c] = S w)) = letB sg w := by
  rw [Bool.eq_iff_iff, List.any_eq_true]
  constructor
  · rintro ⟨c, hc, e⟩
    have e2 := SX.S_inj (of_decide_eq_true e)
    subst e2
    exact decide_eq_true hc
  · intro h
    obtain ⟨c, rfl, hc⟩ := letB_one h
    exact ⟨c, hc, decide_eq_true rfl⟩
theorem inV_let (sg w : List Nat) : inV (.str (S w)) ((S sg).cps.toList.map fun c => V.str ⟨#[c]⟩) = letB sg w := by
  rw [← one_let]
  unfold inV
  show ((sg.toArray.toList.map fun c => V.str ⟨#[c]⟩).any fun y => eqV y (.str (S w))) = _
  rw [List.any_map, List.toList_toArray]
  congr 1
theorem flat_signs (x : Str) : (x.cps.toList.map fun c => V.str ⟨#[c]⟩).all flatV = true := by
  rw [List.all_map, List.all_eq_true]
  intro c _
  rfl
theorem SqL.kp {K : PySem.W.Frag} {H H' : Hp} {p : Addr} {xs : List V} (h : SqL K H p xs) (e : Same H H') : SqL K H' p xs := by
  rcases h with (h | ⟨o, h⟩) | h
  · exact Or.inl (Or.inl (e _ _ h))
  · exact Or.inl (Or.inr ⟨o, e _ _ h⟩)
  · exact Or.inr h
theorem eqv_emp (ds : List PyData) : PyData.eqv (.list ds) (.list []) = ds.isEmpty := by
  cases ds <;> rfl
theorem cutS_eq (l : List Nat) (lo hi : Option Int) : cutS (S l) lo hi = S ((l.drop (HT.sIx l.length 0 lo)).take (HT.sIx l.length l.length hi - HT.sIx l.length 0 lo)) := by
  unfold cutS
  rw [SX.S_len]
theorem cutS_to (l : List Nat) (k : Nat) : cutS (S l) none (some (k : Int)) = S (l.take k) := by
  rw [cutS_eq, HT.sIx_none, HT.sIx_nat, List.drop_zero, Nat.sub_zero]
  congr 1
  by_cases h : k ≤ l.length
  · rw [Nat.min_eq_left h]
  · rw [Nat.min_eq_right (by omega), List.take_of_length_le (Nat.le_refl _), List.take_of_length_le (by omega)]
theorem cutS_from (l : List Nat) (k : Nat) : cutS (S l) (some (k : Int)) none = S (l.drop k) := by
  rw [cutS_eq, HT.sIx_none, HT.sIx_nat]
  congr 1
  by_cases h : k ≤ l.length
  · rw [Nat.min_eq_left h, List.take_of_length_le (by rw [List.length_drop]; exact Nat.le_refl _)]
  · rw [Nat.min_eq_right (by omega), List.drop_of_length_le (Nat.le_refl _), List.drop_of_length_le (by omega), List.take_nil]
theorem shaped_gd {d : PyData} {w n : Nat} (g : Gd w n d) (h : n ≤ 64) : (d.canLay0 && decide (d.depth ≤ 64)) = true := by
  rw [g.cl, decide_eq_true (Nat.le_trans g.de h)]
  rfl
def sumL (ps : List (List Nat)) : Nat := (ps.map fun p => p.length + 1).sum
theorem sumL_app (a b : List (List Nat)) : sumL (a ++ b) = sumL a + sumL b := by
  unfold sumL
  rw [List.map_append, List.sum_append]
theorem sumL_one (p : List Nat) : sumL [p] = p.length + 1 := by
  unfold sumL
  simp
theorem sumL_cut (ps : List (List Nat)) (k : Nat) : sumL (ps.take k) + sumL (ps.drop k) = sumL ps := by
  rw [← sumL_app, List.take_append_drop]
theorem sumL_drop (ps : List (List Nat)) (k : Nat) : sumL (ps.drop (k + 1)) ≤ sumL (ps.drop k) := by
  by_cases h : k < ps.length
  · rw [List.drop_eq_getElem_cons h]
    unfold sumL
    rw [List.map_cons, List.sum_cons]
    omega
  · rw [List.drop_of_length_le (by omega), List.drop_of_length_le (by omega)]
    exact Nat.le_refl _
theorem sumL_set : ∀ (ps : List (List Nat)) (k : Nat) (w : List Nat), sumL (ps.set k w) ≤ sumL ps + (w.length + 1)
  | [], _, _ => Nat.zero_le _
  | p :: ps, 0, w => by
    show (w.length + 1) + sumL ps ≤ ((p.length + 1) + sumL ps) + (w.length + 1)
    omega
  | p :: ps, k + 1, w => by
    have ih := sumL_set ps k w
    show (p.length + 1) + sumL (ps.set k w) ≤ ((p.length + 1) + sumL ps) + (w.length + 1)
    omega
theorem joinL_le (c : Nat) (ps : List (List Nat)) : (TL.joinL [c] ps).length ≤ sumL ps := by
  by_cases h : ps = []
  · subst h
    exact Nat.zero_le _
  · have := join_len c ps h
    show _ ≤ (ps.map fun p => p.length + 1).sum
    omega
def LowLs (ps : List (List Nat)) : Prop := ∀ p ∈ ps, LowL p
theorem joinL_low {c : Nat} (hc : c < 128) {ps : List (List Nat)} (h : LowLs ps) : LowL (TL.joinL [c] ps) := by
  intro d hd
  rcases join_in c hd with rfl | ⟨p, hp, e⟩
  · exact hc
  · exact h p hp d e
theorem LowLs.app {a b : List (List Nat)} (h : LowLs a) (k : LowLs b) : LowLs (a ++ b) := fun p hp => (List.mem_append.mp hp).elim (h p) (k p)
theorem LowLs.take {a : List (List Nat)} (h : LowLs a) (n : Nat) : LowLs (a.take n) := fun p hp => h p (List.mem_of_mem_take hp)
theorem LowLs.drop {a : List (List Nat)} (h : LowLs a) (n : Nat) : LowLs (a.drop n) := fun p hp => h p (List.mem_of_mem_drop hp)
theorem LowLs.one {p : List Nat} (h : LowL p) : LowLs [p] := fun q hq => by rw [List.mem_singleton.mp hq]; exact h
theorem LowLs.set {a : List (List Nat)} {w : List Nat} (h : LowLs a) (k : Nat) (hw : LowL w) : LowLs (a.set k w) := fun p hp => (List.mem_or_eq_of_mem_set hp).elim (h p) fun e => by rw [e]; exact hw
theorem spl_low {c : Nat} {l : List Nat} (h : LowL l) : LowLs (spl c l) := fun p hp d hd => h d (spl_mem hp hd)
theorem join_bound (c : Nat) (ps : List (List Nat)) : ((ps.map S).map (·.length)).sum + (ps.map S).length * (S [c]).length = sumL ps := by
  have h1 : (S [c]).length = 1 := SX.S_len [c]
  rw [h1, List.length_map, Nat.mul_one]
  induction ps with
  | nil => rfl
  | cons p ps ih =>
    rw [List.map_cons, List.map_cons, List.sum_cons, SX.S_len, List.length_cons]
    show _ = (p.length + 1) + sumL ps
    omega
theorem cut_to (xs : List V) (k : Nat) : cutV xs none (some ((k : Nat) : Int)) = xs.take k := by
  unfold cutV
  rw [HT.sIx_none, HT.sIx_nat, List.drop_zero, Nat.sub_zero]
  by_cases h : k ≤ xs.length
  · rw [Nat.min_eq_left h]
  · rw [Nat.min_eq_right (by omega), List.take_of_length_le (Nat.le_refl _), List.take_of_length_le (by omega)]
abbrev txs (ps : List (List Nat)) : List V := ps.map fun l => V.str (S l)
theorem txs_to (ps : List (List Nat)) (k : Nat) : cutV (txs ps) none (some ((k : Nat) : Int)) = txs (ps.take k) := by rw [cut_to]; exact List.map_take.symm
theorem txs_from (ps : List (List Nat)) (k : Nat) : cutV (txs ps) (some ((k : Nat) : Int)) none = txs (ps.drop k) := by rw [cut_from]; exact List.map_drop.symm
theorem txs_at {ps : List (List Nat)} {k : Nat} (h : k < ps.length) : atI (txs ps) ((k : Nat) : Int) = some (.str (S ps[k])) := atI_nat (by rw [List.getElem?_map, List.getElem?_eq_getElem h]; rfl)
theorem joinW_in (sep : List Nat) : ∀ {ps : List (List Nat)} {d : Nat}, d ∈ TL.joinL sep ps → d ∈ sep ∨ ∃ p ∈ ps, d ∈ p
  | [], d, h => by cases h
  | [q], d, h => Or.inr ⟨q, List.mem_cons_self, h⟩
  | q :: q2 :: r, d, h => by
    have h : d ∈ q ++ (sep ++ TL.joinL sep (q2 :: r)) := h
    rcases List.mem_append.mp h with h | h
    · exact Or.inr ⟨q, List.mem_cons_self, h⟩
    rcases List.mem_append.mp h with h | h
    · exact Or.inl h
    · rcases joinW_in sep h with e | ⟨p, hp, e⟩
      · exact Or.inl e
      · exact Or.inr ⟨p, List.mem_cons_of_mem _ hp, e⟩
theorem kind_low {l : List Nat} (h : LowL l) : Builtin.Str.strKind (S l) = 1 := by
  unfold Builtin.Str.strKind
  rw [if_pos]
  rw [show (S l).cps = l.toArray from rfl, List.all_toArray]
  exact List.all_eq_true.mpr fun c hc => decide_eq_true (Nat.lt_trans (h c hc) (by decide))
theorem ixN_at {n j : Nat} (h : j < n) : ixN n (j : Int) = some j := by
  unfold ixN
  rw [if_pos (by omega), if_pos (by omega), Int.toNat_natCast]
theorem sumL_set_eq : ∀ {ps : List (List Nat)} {k : Nat} (h : k < ps.length) (w : List Nat), sumL (ps.set k w) + (ps[k]).length = sumL ps + w.length
  | p :: ps, 0, _, w => by
    show ((w.length + 1) + sumL ps) + p.length = ((p.length + 1) + sumL ps) + w.length
    omega
  | p :: ps, k + 1, h, w => by
    have ih := sumL_set_eq (ps := ps) (k := k) (by simpa using h) w
    show ((p.length + 1) + sumL (ps.set k w)) + (ps[k]'(by simpa using h)).length = ((p.length + 1) + sumL ps) + w.length
    omega
end Lw

namespace Mq
open PySem PySem.Spec PyProof.Rows L2
open SX (S)
/-! ### data in bounds: what is cut, joined, put otherwise stays in bounds -/
mutual
def lowD : PyData → Bool
  | .str x => x.cps.toList.all fun c => decide (c < 128)
  | .list xs => lowAll xs
  | .tuple xs => lowAll xs
  | .dict kvs => kvs.isEmpty
  | _ => true
def lowAll : List PyData → Bool
  | [] => true
  | d :: ds => lowD d && lowAll ds
end
structure OkD (w n : Nat) (d : PyData) : Prop where
  gs : Gs w n d
  lo : lowD d = true
structure LsOk (w n : Nat) (ds : List PyData) : Prop where
  sh : PyData.showableAll ds = true
  de : PyData.depthAll ds ≤ n
  we : PyData.weightAll ds ≤ w
  le : PyData.leavesShortAll 60 ds = true
  lo : lowAll ds = true
theorem OkD.mono {w n w' n' : Nat} {d : PyData} (h : OkD w n d) (hw : w ≤ w') (hn : n ≤ n') : OkD w' n' d := ⟨h.gs.mono hw hn, h.lo⟩
theorem LsOk.mono {w n w' n' : Nat} {d : List PyData} (h : LsOk w n d) (hw : w ≤ w') (hn : n ≤ n') : LsOk w' n' d := ⟨h.sh, Nat.le_trans h.de hn, Nat.le_trans h.we hw, h.le, h.lo⟩
theorem LsOk.tup {w n : Nat} {ds : List PyData} (h : LsOk w n ds) : OkD w (n + 1) (.tuple ds) := ⟨⟨h.sh, Nat.succ_le_succ h.de, h.we, h.le⟩, h.lo⟩
theorem LsOk.lst {w n : Nat} {ds : List PyData} (h : LsOk w n ds) : OkD w (n + 1) (.list ds) := ⟨⟨h.sh, Nat.succ_le_succ h.de, h.we, h.le⟩, h.lo⟩
theorem OkD.tup {w n : Nat} {ds : List PyData} (h : OkD w n (.tuple ds)) : ∃ m, n = m + 1 ∧ LsOk w m ds := by
  have h1 : PyData.depthAll ds + 1 ≤ n := h.gs.de
  exact ⟨n - 1, by omega, ⟨h.gs.sh, by omega, h.gs.we, h.gs.le, h.lo⟩⟩
theorem LsOk.nil {w n : Nat} : LsOk w n [] := ⟨rfl, Nat.zero_le _, Nat.zero_le _, rfl, rfl⟩
theorem LsOk.cons {w v n : Nat} {d : PyData} {ds : List PyData} (h : OkD w n d) (k : LsOk v n ds) : LsOk (w + 1 + v) n (d :: ds) := by
  refine ⟨?_, Nat.max_le.mpr ⟨h.gs.de, k.de⟩, ?_, ?_, ?_⟩
  · show (d.showable && PyData.showableAll ds) = true
    rw [h.gs.sh, k.sh]
    rfl
  · show d.weight + 1 + PyData.weightAll ds ≤ _
    have := h.gs.we
    have := k.we
    omega
  · show (d.leavesShort 60 && PyData.leavesShortAll 60 ds) = true
    rw [h.gs.le, k.le]
    rfl
  · show (lowD d && lowAll ds) = true
    rw [h.lo, k.lo]
    rfl
theorem LsOk.uncons {w n : Nat} {d : PyData} {ds : List PyData} (h : LsOk w n (d :: ds)) : OkD d.weight n d ∧ LsOk (PyData.weightAll ds) n ds ∧ d.weight + 1 + PyData.weightAll ds ≤ w := by
  have h1 : (d.showable && PyData.showableAll ds) = true := h.sh
  have h2 : max d.depth (PyData.depthAll ds) ≤ n := h.de
  have h3 : (d.leavesShort 60 && PyData.leavesShortAll 60 ds) = true := h.le
  have h4 : (lowD d && lowAll ds) = true := h.lo
  have h5 : d.weight + 1 + PyData.weightAll ds ≤ w := h.we
  rw [Bool.and_eq_true] at h1 h3 h4
  exact ⟨⟨⟨h1.1, Nat.le_trans (Nat.le_max_left _ _) h2, Nat.le_refl _, h3.1⟩, h4.1⟩, ⟨h1.2, Nat.le_trans (Nat.le_max_right _ _) h2, Nat.le_refl _, h3.2, h4.2⟩, h5⟩
theorem LsOk.mem {w n : Nat} : ∀ {ds : List PyData} {d : PyData}, LsOk w n ds → d ∈ ds → OkD w n d
  | _ :: _, _, h, hm => by
    obtain ⟨a, b, c⟩ := h.uncons
    rcases List.mem_cons.mp hm with rfl | hm
    · exact a.mono (by omega) (Nat.le_refl _)
    · exact LsOk.mem (b.mono (by omega) (Nat.le_refl _)) hm
theorem LsOk.len {w n : Nat} : ∀ {ds : List PyData}, LsOk w n ds → ds.length ≤ w
  | [], _ => Nat.zero_le _
  | d :: ds, h => by
    obtain ⟨a, b, c⟩ := h.uncons
    have := b.len
    rw [List.length_cons]
    omega
theorem LsOk.app {w v n : Nat} : ∀ {ds es : List PyData}, LsOk w n ds → LsOk v n es → LsOk (w + v) n (ds ++ es)
  | [], es, _, k => k.mono (Nat.le_add_left _ _) (Nat.le_refl _)
  | d :: ds, es, h, k => by
    obtain ⟨a, b, c⟩ := h.uncons
    exact (LsOk.cons a (b.app k)).mono (by omega) (Nat.le_refl _)
theorem weight_app : ∀ ds es : List PyData, PyData.weightAll (ds ++ es) = PyData.weightAll ds + PyData.weightAll es
  | [], es => (Nat.zero_add _).symm
  | d :: ds, es => by
    show d.weight + 1 + PyData.weightAll (ds ++ es) = d.weight + 1 + PyData.weightAll ds + PyData.weightAll es
    rw [weight_app ds es]
    omega
theorem LsOk.sub {n : Nat} : ∀ {ds es : List PyData} {w : Nat}, es.Sublist ds → LsOk w n ds → LsOk w n es
  | _, _, _, .slnil, h => h
  | _, _, _, .cons a s, h => by
    obtain ⟨_, b, c⟩ := h.uncons
    exact LsOk.sub s (b.mono (by omega) (Nat.le_refl _))
  | _, _, _, .cons₂ a s, h => by
    obtain ⟨a, b, c⟩ := h.uncons
    exact (LsOk.cons a (LsOk.sub s b)).mono (by omega) (Nat.le_refl _)
theorem LsOk.rev {n : Nat} : ∀ {ds : List PyData} {w : Nat}, LsOk w n ds → LsOk w n ds.reverse
  | [], _, h => h
  | d :: ds, w, h => by
    obtain ⟨a, b, c⟩ := h.uncons
    rw [List.reverse_cons]
    exact (b.rev.app (LsOk.cons a (LsOk.nil (w := 0)))).mono (by omega) (Nat.le_refl _)
theorem LsOk.exact {w n : Nat} {ds : List PyData} (h : LsOk w n ds) : LsOk (PyData.weightAll ds) n ds := ⟨h.sh, h.de, Nat.le_refl _, h.le, h.lo⟩
theorem OkD.exact {w n : Nat} {d : PyData} (h : OkD w n d) : OkD d.weight n d := ⟨⟨h.gs.sh, h.gs.de, Nat.le_refl _, h.gs.le⟩, h.lo⟩
theorem OkD.text {w n : Nat} {x : Str} (h : OkD w n (.str x)) : x.cps.toList.length ≤ w ∧ ∀ c ∈ x.cps.toList, c < 128 := by
  refine ⟨?_, fun c hc => ?_⟩
  · have : x.cps.size ≤ w := h.gs.we
    simpa using this
  · have h1 : (x.cps.toList.all fun c => decide (c < 128)) = true := h.lo
    exact of_decide_eq_true (List.all_eq_true.mp h1 c hc)
theorem okD_str {l : List Nat} {w : Nat} (h : ∀ c ∈ l, c < 128) (hl : l.length ≤ w) : OkD w 0 (.str (S l)) := ⟨gs_str (fun c hc => Nat.lt_trans (h c hc) (by decide)) hl, List.all_eq_true.mpr fun c hc => decide_eq_true (h c (by simpa using hc))⟩
def okB (w n : Nat) (d : PyData) : Bool := gsB w n d && lowD d
theorem okD_of {w n : Nat} {d : PyData} (h : okB w n d = true) : OkD w n d := by
  obtain ⟨a, b⟩ := Bool.and_eq_true_iff.mp h
  exact ⟨gs_of a, b⟩
theorem S_of (x : Str) : S x.cps.toList = x := by
  cases x
  rfl
theorem OkD.lay {w n : Nat} {x : Str} (h : OkD w n (.str x)) : (PyData.str x).canLay0 = true := by
  show x.cps.all (fun d => decide (d < 1114112)) = true
  rw [← Array.all_toList]
  refine List.all_eq_true.mpr fun c hc => decide_eq_true ?_
  have := h.text.2 c hc
  omega
/-! what may be shown -/
theorem OkD.ok {w n : Nat} {d : PyData} (h : OkD w n d) (hw : w ≤ 200000) (hn : n ≤ 40) : ShowOk d := h.gs.ok hw hn
/-! ### parts of a list of values -/
section
variable {K : PySem.W.Frag} {N : Addr → Prop} {H : Hp}
theorem DvAll.take : ∀ {vs : List V} {ds : List PyData} (n : Nat), DvAll K N H vs ds → DvAll K N H (vs.take n) (ds.take n)
  | _, _, 0, _ => .nil
  | _, _, _ + 1, .nil => .nil
  | _, _, n + 1, .cons a b => .cons a (b.take n)
theorem DvAll.drop : ∀ {vs : List V} {ds : List PyData} (n : Nat), DvAll K N H vs ds → DvAll K N H (vs.drop n) (ds.drop n)
  | _, _, 0, h => h
  | _, _, _ + 1, .nil => .nil
  | _, _, n + 1, .cons a b => b.drop n
theorem DvAll.rev : ∀ {vs : List V} {ds : List PyData}, DvAll K N H vs ds → DvAll K N H vs.reverse ds.reverse
  | _, _, .nil => .nil
  | _, _, .cons a b => by
    rw [List.reverse_cons, List.reverse_cons]
    exact b.rev.app (.cons a .nil)
theorem DvAll.cut {vs : List V} {ds : List PyData} (h : DvAll K N H vs ds) (lo hi : Option Int) : ∃ es, es.Sublist ds ∧ DvAll K N H (cutV vs lo hi) es := by
  unfold cutV
  exact ⟨_, (List.take_sublist _ _).trans (List.drop_sublist _ _), (h.drop _).take _⟩
theorem cut_front (xs : List V) (k : Nat) : cutV xs none (some ((k : Nat) : Int)) = xs.take k := by
  unfold cutV
  rw [HT.sIx_nat, HT.sIx_none]
  by_cases h : k ≤ xs.length
  · rw [Nat.min_eq_left h, Nat.sub_zero, List.drop_zero]
  · rw [Nat.min_eq_right (by omega), Nat.sub_zero, List.drop_zero, List.take_length, List.take_of_length_le (by omega)]
theorem cut_back (xs : List V) (k : Nat) : cutV xs (some ((k : Nat) : Int)) none = xs.drop k := by
  unfold cutV
  rw [HT.sIx_nat, HT.sIx_none]
  by_cases h : k ≤ xs.length
  · rw [Nat.min_eq_left h, List.take_of_length_le (by rw [List.length_drop]; exact Nat.le_refl _)]
  · rw [Nat.min_eq_right (by omega), List.drop_of_length_le (Nat.le_refl _), List.drop_of_length_le (by omega), List.take_nil]
end
/-- a value and its data, in bounds; its lists and dicts stand at places of N -/
def OdD (K : PySem.W.Frag) (N : Addr → Prop) (w n : Nat) (H : Hp) (v : V) : Prop := ∃ d, Dv K N H v d ∧ OkD w n d
section
variable {K : PySem.W.Frag} {N N' : Addr → Prop} {H H' : Hp} {w n w' n' : Nat} {v : V}
theorem OdD.same (h : OdD K N w n H v) (e : Same H H') : OdD K N w n H' v := let ⟨d, a, b⟩ := h; ⟨d, a.same e, b⟩
theorem OdD.mono (h : OdD K N w n H v) (e : ∀ a, N a → N' a) (hw : w ≤ w') (hn : n ≤ n') : OdD K N' w' n' H v := let ⟨d, a, b⟩ := h; ⟨d, a.mono e, b.mono hw hn⟩
end
/-! ### kinds of data -/
def sevenT : List String := ["NoneType", "bool", "int", "str", "list", "tuple", "dict"]
section
variable {K : PySem.W.Frag} {H : Hp} {v : V} {d : PyData}
theorem dg_str (h : Dg K H v d) : (∃ l, v = .str (S l) ∧ d = .str (S l)) ∨ ((∃ a, TyX K H v (.type a) ∧ a ∈ sevenT ∧ a ≠ "str") ∧ ∀ x, d ≠ .str x) := by
  cases h with
  | non => exact Or.inr ⟨⟨_, .base .non, by decide, by decide⟩, fun _ z => nomatch z⟩
  | bl b => exact Or.inr ⟨⟨_, .base (.bl b), by decide, by decide⟩, fun _ z => nomatch z⟩
  | int i => exact Or.inr ⟨⟨_, .base (.int i), by decide, by decide⟩, fun _ z => nomatch z⟩
  | str x => exact Or.inl ⟨x.cps.toList, by rw [S_of], by rw [S_of]⟩
  | lst _ hs _ => exact Or.inr ⟨⟨_, ty_list hs, by decide, by decide⟩, fun _ z => nomatch z⟩
  | tup hs _ => exact Or.inr ⟨⟨_, ty_tup hs, by decide, by decide⟩, fun _ z => nomatch z⟩
  | dct hs _ => exact Or.inr ⟨⟨_, .base (.dK hs), by decide, by decide⟩, fun _ z => nomatch z⟩
theorem dg_tup (h : Dg K H v d) : (∃ a xs ds, v = .ref a ∧ d = .tuple ds ∧ SqT K H a xs ∧ DgAll K H xs ds) ∨ ((∃ a, TyX K H v (.type a) ∧ a ∈ sevenT ∧ a ≠ "tuple") ∧ ∀ ds, d ≠ .tuple ds) := by
  cases h with
  | non => exact Or.inr ⟨⟨_, .base .non, by decide, by decide⟩, fun _ z => nomatch z⟩
  | bl b => exact Or.inr ⟨⟨_, .base (.bl b), by decide, by decide⟩, fun _ z => nomatch z⟩
  | int i => exact Or.inr ⟨⟨_, .base (.int i), by decide, by decide⟩, fun _ z => nomatch z⟩
  | str x => exact Or.inr ⟨⟨_, .base (.str x), by decide, by decide⟩, fun _ z => nomatch z⟩
  | lst _ hs _ => exact Or.inr ⟨⟨_, ty_list hs, by decide, by decide⟩, fun _ z => nomatch z⟩
  | tup hs ha => exact Or.inl ⟨_, _, _, rfl, rfl, hs, ha⟩
  | dct hs _ => exact Or.inr ⟨⟨_, .base (.dK hs), by decide, by decide⟩, fun _ z => nomatch z⟩
theorem DgAll.at : ∀ {vs : List V} {ds : List PyData} {i : Nat} {v : V}, DgAll K H vs ds → vs[i]? = some v → ∃ d, ds[i]? = some d ∧ Dg K H v d
  | _, _, 0, _, .cons a b, h => ⟨_, rfl, by cases h; exact a⟩
  | _, _, i + 1, _, .cons a b, h => DgAll.at (i := i) b h
theorem DgAll.len : ∀ {vs : List V} {ds : List PyData}, DgAll K H vs ds → vs.length = ds.length
  | _, _, .nil => rfl
  | _, _, .cons a b => congrArg (· + 1) b.len
end
end Mq

namespace Mq
open PySem PySem.Spec PySem.W PySem.Calls PySem.HandSPX PyProof.Rows
/-! ### an own error made by keywords -/
section
variable {M : Model} {A : Around} {E : Value → Shared → Prop} {h : Heap} {g : Array GenState} {dr : Drawn} {tk : Nat} {os : OsState}
variable {nm q : Str} {C N : Addr} {bs bm bmB : List Value} {hd : Bool} {sn : List Str} {sub : List Value} {ab : Bool} {col : Option Bool} {dd : Option Addr} {k0 k1 k2 k3 k5 : Option Value} {B newId initId : String}
theorem new_fine (F : ExcBaseFacts B newId initId bmB) (same : ∀ X : String, bm.contains (.type X) = bmB.contains (.type X)) {us : List Value} {kw : List (Str × Value)} {Q : Unit → Shared → Prop}
    (at' : h.get? C = some (excClassObj nm q C N bs bm hd sn sub ab col dd k0 k1 k2 k3 k5 newId)) (done : Q () ⟨h, g, dr, tk, os⟩) : wpAny M A (checkBuiltinCall newId ⟨.ref C :: us, kw⟩) Q E ⟨h, g, dr, tk, os⟩ := by
  have below : (Value.ref C :: bm).contains (.type B) = true := by rw [List.contains_cons, same, F.hasB, Bool.or_true]
  have ns := F.noStar
  simp only [checkBuiltinCall, F.newKind, F.newSplit, F.newRow]
  repeat (first
    | refine wpAny_loadPart_at at' ?_
    | (refine wpAny_isSubtype_exc at' ?_; rw [below])
    | refine wpAny_staticBase_exc at' ?_
    | refine wpAny_madeBy_exc at' ?_
    | simp only [bne_self_eq_false, Bool.false_eq_true, if_false]
    | wp_step)
  exact done
end
section
variable {prog : Program} {w : World} {A : Around} {E : Value → Shared → Prop} {R : Result → Shared → Prop} {h : Heap} {g : Array GenState} {dr : Drawn} {tk : Nat} {os : OsState}
variable {nm q : Str} {C N : Addr} {bs bm bmB : List Value} {hd : Bool} {sn : List Str} {sub : List Value} {ab : Bool} {col : Option Bool} {dd : Option Addr} {k0 k1 k2 k3 k5 : Option Value} {B newId initId : String}
theorem new_kw (F : ExcBaseFacts B newId initId bmB) (same : ∀ X : String, bm.contains (.type X) = bmB.contains (.type X)) {us : List Value} {kw : List (Str × Value)}
    (at' : h.get? C = some (excClassObj nm q C N bs bm hd sn sub ab col dd k0 k1 k2 k3 k5 newId)) (few : us.length ≤ sizeLine)
    (done : R (.ok (.ret (.ref (h.objs.size + 1)))) ⟨(h.push (kdv_tup us)).push (excO C h.objs.size), g, dr, tk, os⟩) :
    codeAny (model prog w) A (.builtin newId ⟨.ref C :: us, kw⟩) R ⟨h, g, dr, tk, os⟩ := by
  have ends := F.ends
  have isB : (Value.ref C :: bm).contains (.type B) = true := by rw [List.contains_cons, same, F.hasB, Bool.or_true]
  have isA : (Value.ref C :: bm).contains (.type "AttributeError") = false := by rw [List.contains_cons, same, F.noAttr]; rfl
  have isN : (Value.ref C :: bm).contains (.type "NameError") = false := by rw [List.contains_cons, same, F.noName]; rfl
  refine codeAny_builtinAt F.entry ?_
  unfold Builtin.«BaseException.__new__»
  refine PySem.wpAt_bind ?_
  show PySem.wpAt _ _ _ (stack >>= _) _ _ _
  refine PySem.wpAt_bind (PySem.wpAt_stack fun p below => PySem.wpAt_of_wpAny ?_)
  wp_walk
  refine PySem.wpAt_of_wpAny ?_
  rw [F.owner]
  repeat (first
    | with_reducible refine wpAny_madeHere_exc F.canon at' ?_
    | with_reducible refine wpAny_loadPart_at at' ?_
    | (with_reducible refine wpAny_isSubtype_exc at' ?_; first | rw [isB] | rw [isA] | rw [isN])
    | wp_step)
  show R _ _
  rw [Heap.size_push]
  exact done
theorem type_kw (F : ExcBaseFacts B newId initId bmB) (same : ∀ X : String, bm.contains (.type X) = bmB.contains (.type X)) {us : List Value} {kw : List (Str × Value)} {fI : Addr} {Q : Fin → Shared → Prop}
    (at' : h.get? C = some (excClassObj nm q C N bs bm hd sn sub ab col dd k0 k1 k2 k3 k5 newId)) (few : us.length ≤ sizeLine)
    (looks : Looks (model prog w) h (typeLookup (.ref C) "__init__") (some (.ref fI))) (binds : ∀ self, Looks (model prog w) h (bindSpecial (.ref fI) self) (.ref fI, [self]))
    (done : codeAny (model prog w) A (.call (.ref fI) ⟨.ref (h.objs.size + 1) :: us, kw⟩)
      (fun r s' => match r with | .ok (.ret v) => v = .none ∧ Q (.done (.ret (.ref (h.objs.size + 1)))) s' | .ok _ => False | .error e => E e s')
      ⟨(h.push (kdv_tup us)).push (excO C h.objs.size), g, dr, tk, os⟩) :
    wpAny (model prog w) A (Builtin.«type.__call__» ⟨.ref C :: us, kw⟩) Q E ⟨h, g, dr, tk, os⟩ := by
  repeat (first
    | with_reducible refine wpAny_loadPart_at at' ?_
    | with_reducible refine wpAny_madeBy_exc at' ?_
    | wp_step)
  refine codeAny_call_builtin_code (Code.quiet_builtin _ F.quiet) (new_fine F same at' ?_)
  refine new_kw F same at' few ?_
  show wpAny _ _ _ _ _ _
  have k : ∀ b o, h.get? b = some o → ((h.push (kdv_tup us)).push (excO C h.objs.size)).get? b = some o := fun b o e => Heap.get?_push_of_some _ (Heap.get?_push_of_some _ e)
  have at1 := k _ _ at'
  have new : ((h.push (kdv_tup us)).push (excO C h.objs.size)).get? (h.objs.size + 1) = some (excO C h.objs.size) := by heap_get
  have own : (Value.ref C :: bm).contains (.ref C) = true := by simp
  have i1 := looks.keeps k
  have b1 := (binds (.ref (h.objs.size + 1))).keeps k
  unfold isInstance
  repeat (first
    | with_reducible refine wpAny_loadPart_at new ?_
    | (with_reducible refine wpAny_isSubtype_exc at1 ?_; rw [own])
    | wp_step)
  show wpAny _ _ (typeLookup (.ref C) _) _ _ _
  refine i1.at ?_
  refine wpAny_holding (wpAny_bind (b1.at ?_))
  refine wpAny_bind (wpAny_call (codeAny_mono done fun r s' z => ?_))
  rcases r with e | (v | _ | _ | _) <;> first | exact z | exact z.elim | skip
  obtain ⟨rfl, z⟩ := z
  first
    | exact wpAny_pure (wpAny_pure z)
    | (wp_walk; exact z)
theorem call_kw (F : ExcBaseFacts B newId initId bmB) (same : ∀ X : String, bm.contains (.type X) = bmB.contains (.type X)) {us : List Value} {kw : List (Str × Value)} {fI : Addr}
    (at' : h.get? C = some (excClassObj nm q C N bs bm hd sn sub ab col dd k0 k1 k2 k3 k5 newId)) (few : us.length ≤ sizeLine)
    (looks : Looks (model prog w) h (typeLookup (.ref C) "__init__") (some (.ref fI))) (binds : ∀ self, Looks (model prog w) h (bindSpecial (.ref fI) self) (.ref fI, [self]))
    (done : codeAny (model prog w) (A.under (.builtin "type.__call__" ⟨.ref C :: us, kw⟩)) (.call (.ref fI) ⟨.ref (h.objs.size + 1) :: us, kw⟩) (InitBack (h.objs.size + 1) R)
      ⟨(h.push (kdv_tup us)).push (excO C h.objs.size), g, dr, tk, os⟩) :
    codeAny (model prog w) A (.call (.ref C) ⟨us, kw⟩) R ⟨h, g, dr, tk, os⟩ := by
  have f1 := tc_lookup
  have f2 := tc_bind (.ref C)
  have isT : (⟨h, g, dr, tk, os⟩ : Shared).TypeIs (.ref C) "type" := ⟨_, at', rfl⟩
  refine codeAny_of_tree ?_
  show wpAny _ _ (callAny (.ref C) _) _ _ _
  repeat (any_goals (first
    | assumption
    | with_reducible refine wpAny_loadPart_at at' ?_
    | wp_step))
  refine ⟨rfl, ?_⟩
  refine codeAny_call_builtin_at (Code.quiet_builtin _ (by decide +kernel)) entry_typeCall (wpAny_check_type_call_sub at' (type_kw F same at' few looks binds ?_))
  refine codeAny_mono done fun r s' z => ?_
  rcases r with e | (v | _ | _ | _) <;> exact z
end
end Mq

namespace Mq
open PySem PySem.Spec PyProof.Rows L2
open PySem.W (Frag)
open PySem.Builtin.ObjectAttr
/-! ### a second field -/
section
variable {prog : Program} {w : World} {A : Around} {E : Value → Shared → Prop} {R : Result → Shared → Prop}
  {hp : Heap} {g : Array GenState} {d : Drawn} {t : Nat} {os : OsState} {K : Frag}
theorem osa_next {name n0 : Str} {tk : Tok} {v v0 : Value} {x C t1 dx : Addr} (X : K.In hp)
    (hx : hp.get? x = some (PySem.W.excObj C t1 (some dx) .none)) (hn : hp.Ns1 dx (fun y => if y = n0 then some v0 else none)) (ho : PySem.W.excOver K C exTail = true)
    (hh : PySem.W.hasDictIn K C = true) (ht : PySem.W.takerIn K C name = some none)
    (hq : ∀ h' tk', (∀ b o, b ≠ dx → hp.get? b = some o → h'.get? b = some o) →
      h'.Ns1 dx (fun y => if y = name then some v else if y = n0 then some v0 else none) → R (.ok (.ret .none)) ⟨h', g, d, tk', os⟩) :
    codeAny (model prog w) A (.call (.builtin "object.__setattr__") ⟨[.ref x, .str name tk, v], []⟩) R ⟨hp, g, d, t, os⟩ := by
  obtain ⟨od, hod, _⟩ := lookIn_ns hn
  refine PySem.W.osa_openX (od := some od) (s := ⟨hp, g, d, t, os⟩) F.store_Exception X ⟨hx, rfl, rfl, hod⟩ ho ht (fun b => ?_)
  obtain ⟨cd, hc, hd'⟩ := PySem.W.any_some hh
  have Lc : PySem.W.Looks (model prog w) hp (classData C) cd := PySem.W.looks_clsIn X hc
  refine wpAny_bind (wpAny_pure (wpAny_bind ?_))
  unfold ownDictForStores
  show wpAny _ _ (instanceDict x true) _ _ _
  unfold instanceDict
  refine wpAny_bind (wpAny_loadPart hx ?_)
  dsimp only
  refine wpAny_bind (Lc.here ?_)
  rw [hd']
  rw [if_neg (by decide)]
  refine wpAny_pure ?_
  show wpAny _ _ (storeInDict dx (.str name tk) name v) _ _ _
  unfold storeInDict newKeyGuard
  refine wpAny_bind (wpAny_pure (wpAny_bind (wpAny_nsSet1 hn fun h' hn' hs => ?_)))
  have hw : PySem.Within (fun y => if y = name then some v else if y = n0 then some v0 else none) [name, n0] := by
    have h1 := PySem.Within.cons name v (PySem.Within.cons n0 v0 PySem.Within.nil)
    exact h1
  obtain ⟨oD, esD, epD, hoD, hdD, hcD⟩ := hn'.count hw
  refine wpAny_bind (wpAny_lookBehind hoD (by rw [hdD]; exact pastItsLine_dict (Nat.le_trans hcD (by rw [sizeLine_eq]; show 2 ≤ 16777216 + 1; decide))) ?_)
  wp_walk
  exact hq h' _ (fun b o hb ho => (hs.2 b hb).trans ho) hn'
end
/-! ### errors as values -/
def ExF (C : Addr) (d : Option Addr) (a : Addr) : HO := .ext fun h => ∃ (oe : Obj) (vs : Array Value), h.get? a = some oe ∧ Zc (.ref C) d oe ∧ oe.data = .fields vs
theorem exF_ok {P : Program} {w : World} {H : Hp} {h : Heap} {a C : Addr} {d : Option Addr} {oe : Obj} {vs : Array Value} (e : h.get? a = some oe) (z : Zc (.ref C) d oe) (f : oe.data = .fields vs) : ObjOk P w H h a (ExF C d a) :=
  ⟨⟨oe, vs, e, z, f⟩, ⟨oe, e⟩, fun _ _ ⟨o, v, q, r⟩ k => ⟨o, v, k o q, r⟩⟩
/-- the error at e, of the class C, its field's dict at d -/
structure ErrAt (H : Hp) (C e d : Addr) (fs : List (Str × V)) : Prop where
  ex : H e = some (ExF C (some d) e)
  fd : H d = some (.xd fs)
theorem ErrAt.same {H H' : Hp} {C e d : Addr} {fs : List (Str × V)} (h : ErrAt H C e d fs) (s : ∀ b o, H b = some o → H' b = some o) : ErrAt H' C e d fs := ⟨s _ _ h.ex, s _ _ h.fd⟩
section
variable {X : Cx} {pins : List (Addr × Obj)} {σ : L2.St} {H : Hp} {s : Shared}
/-- e.n, e an error that is a value -/
def tXv (C : Addr) (n : Str) (te : TE) : TE := fun σ H Q => te σ H fun x H1 => ∃ (a d : Addr) (fs : List (Str × V)) (v : V), x = .ref a ∧ ErrAt H1 C a d fs ∧ fs.lookup n = some v ∧ Q v H1
theorem pe_xv {C : Addr} {e : Expr} {te : TE} {pos : Pos} {n : Str} (T : XfC X.K C) (hno : PySem.W.findIn X.K (.ref C) n = some none)
    (he : PE X e te) (hb : attributeBase e n X.env (eval e X.env) = eval e X.env := by rfl) : PE X (.Attribute e n pos) (tXv C n te) := by
  refine ⟨fun pins s σ H Q I h => ?_⟩
  refine attr_of hb (thn (he.run pins s σ H _ I h) fun u s1 hh => ?_)
  obtain ⟨x, H1, I1, rx, a, dd, fs, v, ex, er, l, q⟩ := hh
  subst ex
  obtain rfl : u = Value.ref a := rx
  obtain ⟨⟨oe, vs, ha, hz, hd⟩, _, _⟩ := (show ObjOk X.prog X.w H1 s1.heap a (ExF C (some dd) a) from I1.hok a _ er.ex)
  obtain ⟨mA, hns, hr⟩ := (show ObjOk X.prog X.w H1 s1.heap dd (.xd fs) from I1.hok dd _ er.fd)
  obtain ⟨od, ho, hl⟩ := lookIn_ns hns
  obtain ⟨u, hu, ru⟩ := RelO.some_of (v := v) (o := mA n) (by rw [← l]; exact hr n)
  have J : PySem.W.InstAt s1.heap a oe C (some od) := by
    refine ⟨ha, hz.1, ?_, ?_⟩
    · unfold PySem.W.notCls
      rw [hd]
    · rw [hz.2]
      exact ho
  exact HandSPX.exc_get I1.kIn J T.ga T.gg T.exC (PySem.W.findObj_own T.hdC hno rfl (by rw [hl, hu])) (handed_of ru) ⟨v, H1, I1.tok _, ru, q⟩
/-- isinstance(e, c), e an error that is a value -/
def rIsE (K : PySem.W.Frag) : List V → Hp → VK → Prop := fun xs H Q => ∃ (a D : Addr) (d : Option Addr) (c : V) (u : Value) (b : Bool), xs = [.ref a, c] ∧ ClsV c u ∧ H a = some (ExF D d a) ∧
  (∀ x, d = some x → ∃ fs, H x = some (.xd fs)) ∧ HeldC K D ∧ PySem.W.kitOne K (.ref D) u = some b ∧ Q (.bl b) H
theorem call_isE : CallR X (.builtin "isinstance") (rIsE X.K) := by
  intro pins s σ H xs us Q I r h
  obtain ⟨a, D, d, c, u, b, rfl, k, ha, hdx, C, e, q⟩ := h
  obtain ⟨u1, u2, rfl, r1, r2⟩ := vals2 r
  have e2 := k.eq r2
  subst e2
  cases r1
  obtain ⟨⟨oe, vs, hget, hz, hv⟩, _, _⟩ := (show ObjOk X.prog X.w H s.heap a (ExF D d a) from I.hok a _ ha)
  obtain ⟨od, J⟩ : ∃ od, PySem.W.InstAt s.heap a oe D od := by
    cases d with
    | none =>
      refine ⟨none, hget, hz.1, ?_, ?_⟩
      · unfold PySem.W.notCls
        rw [hv]
      · rw [hz.2]
        trivial
    | some dd =>
      obtain ⟨fs, hf⟩ := hdx dd rfl
      obtain ⟨mA, ⟨od, es, ep, ho, _⟩, _⟩ := (show ObjOk X.prog X.w H s.heap dd (.xd fs) from I.hok dd _ hf)
      refine ⟨some od, hget, hz.1, ?_, ?_⟩
      · unfold PySem.W.notCls
        rw [hv]
      · rw [hz.2]
        exact ho
  refine PySem.W.kia_one (PySem.W.kitx_exc C.cl C.ga C.gg C.sb C.ca C.sp C.tk C.mo) I.kIn J e (fun z => by cases z) (fun tk => ?_)
  exact ⟨.bl b, H, I.kept (t' := tk) (fun _ _ z => z), rfl, q⟩
/-- C(), a bare one -/
theorem pe_exB {C : Addr} {bmB : List Value} {B newId initId : String} {x : Str} {p pos : Pos} (F : ExcBaseFacts B newId initId bmB) (q : PySem.W.excIn X.K C bmB newId = true) (gC : X.mg x = some (.ref C)) (kC : PySem.W.keepIn X.K (.ref C) = true) (hg : Gl X x)
    (hdb : (x == ("__debug__" : Str)) = false := by decide) :
    PE X (.Call (.Name x p) [] [] pos) (fun _ H Q => ∀ a, H a = none → Q (.ref a) (upd H a (ExF C none a))) := by
  refine ⟨fun pins s σ H Q I h => ?_⟩
  refine wpAny_Call_Name_kw (ld_glob I hg gC ?_ hdb)
  refine PySem.W.callWith_K0 I.kIn kC ?_
  obtain ⟨bm, N, nm, qn, bs, hdct, sn, sub, ab, col, dd, k0, k1, k2, k3, k5, mN, hC, hN, hni, T⟩ := exc_obj I.kIn q
  refine wpAny_call_exc_subT F T hC hN hni (fun h' a hm => ?_) (by show 0 ≤ sizeLine; exact Nat.zero_le _)
  have hn : H a = none := I.hok.gone hm.new
  obtain ⟨t, ht, _, _⟩ := hm.there
  exact ⟨.ref a, upd H a (ExF C none a), I.laidN hm.keeps hm.new hn (exF_ok ht ⟨rfl, rfl⟩ rfl), rfl, h a hn⟩
end
end Mq

namespace Mq
open PySem PySem.Spec PyProof.Rows L2
open PySem.W (Frag)
/-! ### the call of an error's class as a value -/
/-- a made error, its fields by m -/
structure MadeM (h h' : Heap) (e C d : Addr) (m : Str → Option Value) : Prop where
  keep : ∀ b o, h.get? b = some o → h'.get? b = some o
  new : h.objs.size ≤ e
  obj : ∃ oe vs, h'.get? e = some oe ∧ oe.cls = .ref C ∧ oe.dict = some d ∧ oe.data = .fields vs ∧ vs[1]? = some .none
  big : h.objs.size ≤ d
  ne : d ≠ e
  ns : h'.Ns1 d m
/-- what the written part says of an error's class -/
structure ErrC (K : Frag) (mg : Str → Option Value) (x : Str) (C fI : Addr) : Prop where
  gC : mg x = some (.ref C)
  kC : PySem.W.keepIn K (.ref C) = true
  ex : PySem.W.excInitIn K C exTail "Exception.__new__" = true
  ov : PySem.W.excOver K C exTail = true
  hdC : PySem.W.hasDictIn K C = true
  sa : PySem.W.findIn K (.ref C) "__setattr__" = some (some (.builtin "object.__setattr__"))
  iC : PySem.W.findIn K (.ref C) "__init__" = some (some (.ref fI))
  tC : PySem.W.typeIn K (.ref fI) = some (.type "function")
  exC : PySem.W.subIn K (.ref C) (.type "BaseException") = some true
  tyC : PySem.W.typeIn K (.ref C) = some (.type "type")
/-- calls of C with these arguments make an error with fields by m -/
def Makes (K : Frag) (C : Addr) (us : List Value) (kw : List (Str × Value)) (m : Str → Option Value) : Prop :=
  ∀ (prog : Program) (w : World) (A : Around) (R : Result → Shared → Prop) (s : Shared), K.In s.heap → s.heap.NoLimit → A.depth + 1 < recursionLimit →
    (∀ h' tk e d, MadeM s.heap h' e C d m → R (.ok (.ret (.ref e))) { s with heap := h', toks := tk }) → codeAny (model prog w) A (.call (.ref C) ⟨us, kw⟩) R s
theorem zip_rel : ∀ {ks : List Str} {vs : List V} {us : List Value}, Vals vs us → ∀ f : Str, RelO ((ks.zip vs).lookup f) ((ks.zip us).lookup f)
  | [], _, _, _, f => by simp [RelO]
  | _ :: _, _, _, .nil, f => by simp [RelO]
  | k :: ks, _, _, .cons r t, f => by
    rw [List.zip_cons_cons, List.zip_cons_cons, List.lookup_cons, List.lookup_cons]
    cases f == k with
    | true => exact r
    | false => exact zip_rel t f
section
variable {X : Cx} {pins : List (Addr × Obj)} {σ : L2.St} {H : Hp}
theorem laid_exc {hp h' : Heap} {g : Array GenState} {dr : Drawn} {tk tk' : Nat} {os : OsState} {e C d : Addr} {m : Str → Option Value} {fs : List (Str × V)}
    (I : L2.Inv X pins σ H ⟨hp, g, dr, tk, os⟩) (M : MadeM hp h' e C d m) (hr : ∀ f, RelO (fs.lookup f) (m f)) :
    H d = none ∧ H e = none ∧ L2.Inv X pins σ (upd (upd H d (.xd fs)) e (ExF C (some d) e)) ⟨h', g, dr, tk', os⟩ := by
  obtain ⟨oe, fv, hoe, hc, hd, hdat, h1⟩ := M.obj
  have hns := M.ns
  obtain ⟨G', g1, g2⟩ := restrict h' fun b => decide (b ≠ e)
  have gk : ∀ b, b ≠ e → G'.get? b = h'.get? b := fun b hb => g1 b (decide_eq_true hb)
  have ge : G'.get? e = none := g2 e (by simp)
  have old : ∀ b o, hp.get? b = some o → G'.get? b = some o := fun b o q => (gk b (Nat.ne_of_lt (Nat.lt_of_lt_of_le (Heap.lt_size q) M.new))).trans (M.keep b o q)
  have ob : ObjOk X.prog X.w (upd H d (.xd fs)) G' d (.xd fs) := ⟨m, hns.at (fun o q => (gk d M.ne).trans q), hr⟩
  have J : L2.Inv X pins σ (upd H d (.xd fs)) ⟨G', g, dr, tk', os⟩ := I.laid (t' := tk') old M.big ob
  have ne : upd H d (.xd fs) e = none := by
    rw [upd_ne (Ne.symm M.ne)]
    exact I.hok.fresh M.new
  have up : ∀ b o, G'.get? b = some o → h'.get? b = some o := fun b o q => by
    by_cases hb : b = e
    · rw [hb, ge] at q
      cases q
    · exact (gk b hb).symm.trans q
  exact ⟨I.hok.fresh M.big, I.hok.fresh M.new, J.laidN (s := ⟨G', g, dr, tk', os⟩) (t' := tk') up ge ne (exF_ok hoe ⟨hc, hd⟩ hdat)⟩
end
section
variable {X : Cx} {C fI : Addr} {x : Str} {k : Nat} {p pos : Pos} {e : Expr} {es : List Expr} {kws : List Keyword} {t tk : TA} {ks kks : List Str}
/-- C(e, ..) -/
def tMkP (C : Addr) (ks : List Str) (t : TA) : TE := fun σ H Q => t σ H fun vs H1 => vs.length = ks.length ∧ ∀ e d, H1 d = none → H1 e = none → d ≠ e → Q (.ref e) (upd (upd H1 d (.xd (ks.zip vs))) e (ExF C (some d) e))
theorem pe_mkP (T : ErrC X.K X.mg x C fI) (hr : Room k X.A) (M : ∀ us : List Value, us.length = ks.length → Makes X.K C us [] fun y => (ks.zip us).lookup y) (ha : PA X (e :: es) t) (hg : Gl X x := by rfl)
    (hdb : (x == ("__debug__" : Str)) = false := by decide) (he : starEach (e :: es) X.env = (false, eval e X.env) :: starEach es X.env := by rfl) (hpl : (backTo pos (starEach es X.env)).any (·.1) = false := by rfl) :
    PE X (.Call (.Name x p) (e :: es) [] pos) (tMkP C ks t) := by
  refine ⟨fun pins s σ H Q I h => ?_⟩
  refine wpAny_Call_Name_kw (ld_glob I hg T.gC ?_ hdb)
  refine PySem.W.callWith_K (h₀ := X.base) I.ok.mod.kin T.kC (thn (ha.run pos pins s σ H _ I h) fun us s1 hh => ?_) he hpl
  obtain ⟨vs, H1, I1, r1, hl, q1⟩ := hh
  refine ⟨I1.kIn, ?_⟩
  have hlim := I1.nolimit
  obtain ⟨hp, g, dr, tk, os⟩ := s1
  have hus : us.length = ks.length := r1.length.symm.trans hl
  show wpAny _ _ (call (.ref C) us) _ _ _
  refine wpAny_call (M us hus X.prog X.w _ _ _ I1.kIn hlim (by have := hr.dp; omega) (fun h' tk' e d MM => ?_))
  obtain ⟨n1, n2, J⟩ := laid_exc (tk' := tk') I1 MM (zip_rel r1)
  exact ⟨.ref e, _, J, rfl, q1 e d n1 n2 MM.ne⟩
/-- C(k = e, ..): the fields' values by g -/
def tMkK (C : Addr) (ks : List Str) (n : Nat) (g : {α : Type} → List α → List α) (tk : TA) : TE := fun σ H Q => tk σ H fun zs H1 => zs.length = n ∧ ∀ e d, H1 d = none → H1 e = none → d ≠ e → Q (.ref e) (upd (upd H1 d (.xd (ks.zip (g zs)))) e (ExF C (some d) e))
theorem pe_mkK {g : {α : Type} → List α → List α} (T : ErrC X.K X.mg x C fI) (hr : Room k X.A) (hg2 : ∀ {vs : List V} {us : List Value}, Vals vs us → Vals (g vs) (g us))
    (M : ∀ ws : List Value, ws.length = kks.length → Makes X.K C [] (kks.zip ws) fun y => (ks.zip (g ws)).lookup y) (hkw : PK X kws tk) (hg : Gl X x := by rfl)
    (hall : (backToKw pos (keywordEach kws X.env)).all (·.1.isSome) = true := by rfl) (hks : (backToKw pos (keywordEach kws X.env)).filterMap (·.1) = kks := by rfl)
    (hdb : (x == ("__debug__" : Str)) = false := by decide)
    (hpl : ((backTo pos (starEach [] X.env)).any (·.1) || (backToKw pos (keywordEach kws X.env)).any (·.1.isNone)) = false := by rfl) :
    PE X (.Call (.Name x p) [] kws pos) (tMkK C ks kks.length g tk) := by
  refine ⟨fun pins s σ H Q I h => ?_⟩
  refine wpAny_Call_Name_kw (ld_glob I hg T.gC ?_ hdb)
  refine PySem.W.callWith_KW0 (h₀ := X.base) I.ok.mod.kin T.kC hall ?_ hpl
  refine thn (hkw.run pos pins s σ H _ I h) fun ws s2 ⟨zs, H2, I2, rz, hl, q2⟩ => ⟨I2.kIn, ?_⟩
  rw [hks]
  have hlim := I2.nolimit
  have hws : ws.length = kks.length := rz.length.symm.trans hl
  obtain ⟨hp, gg, dr, tk, os⟩ := s2
  refine wpAny_call (M ws hws X.prog X.w _ _ _ I2.kIn hlim (by have := hr.dp; omega) (fun h' tk' e d MM => ?_))
  obtain ⟨n1, n2, J⟩ := laid_exc (tk' := tk') I2 MM (zip_rel (hg2 rz))
  exact ⟨.ref e, _, J, rfl, q2 e d n1 n2 MM.ne⟩
end
end Mq

namespace Mq
open PySem PySem.Spec PyProof.Rows L2
/-! ### such a call behind raise -/
section
variable {X : Cx} {pins : List (Addr × Obj)} {σ : L2.St} {H : Hp}
theorem flown {hp h' : Heap} {g : Array GenState} {dr : Drawn} {tk tk' : Nat} {os : OsState} {e C d : Addr} {m : Str → Option Value} {fs : List (Str × V)} {Q : XK}
    (I : L2.Inv X pins σ H ⟨hp, g, dr, tk, os⟩) (M : MadeM hp h' e C d m) (hr : ∀ f, RelO (fs.lookup f) (m f)) (rs : Raises X (.ref C)) (q : Q (.ref C) (some d) (upd H d (.xd fs))) (hd : H d = none) :
    MkP X pins σ Q (.ref e) ⟨h', g, dr, tk', os⟩ := by
  obtain ⟨oe, fv, hoe, hc, hd', hdat, h1⟩ := M.obj
  have hns := M.ns
  obtain ⟨G', g1, g2⟩ := restrict h' fun b => decide (b ≠ e)
  have gk : ∀ b, b ≠ e → G'.get? b = h'.get? b := fun b hb => g1 b (decide_eq_true hb)
  have ge : G'.get? e = none := g2 e (by simp)
  have old : ∀ b o, hp.get? b = some o → G'.get? b = some o := fun b o q => (gk b (Nat.ne_of_lt (Nat.lt_of_lt_of_le (Heap.lt_size q) M.new))).trans (M.keep b o q)
  have ob : ObjOk X.prog X.w (upd H d (.xd fs)) G' d (.xd fs) := ⟨m, hns.at (fun o q => (gk d M.ne).trans q), hr⟩
  have J : L2.Inv X pins σ (upd H d (.xd fs)) ⟨G', g, dr, tk', os⟩ := I.laid (t' := tk') old M.big ob
  refine ⟨e, oe, fv, ⟨G', g, dr, tk', os⟩, _, .ref C, some d, rfl, J, (fun b o q => ?_), ge, hoe, ⟨hc, hd'⟩, hdat, h1, ?_, rfl, I.bare, rs, q⟩
  · by_cases hb : b = e
    · have q' : G'.get? b = some o := q
      rw [hb, ge] at q'
      cases q'
    · exact (gk b hb).symm.trans q
  · rw [upd_ne (Ne.symm M.ne)]
    exact I.hok.fresh M.new
end
section
variable {X : Cx} {C fI : Addr} {x : Str} {k : Nat} {p pos : Pos} {e : Expr} {es : List Expr} {kws : List Keyword} {t tk : TA} {ks kks : List Str}
def tFlP (C : Addr) (ks : List Str) (t : TA) : L2.St → Hp → XK → Prop := fun σ H Q => t σ H fun vs H1 => vs.length = ks.length ∧ ∀ d, H1 d = none → Q (.ref C) (some d) (upd H1 d (.xd (ks.zip vs)))
theorem pmkP (T : ErrC X.K X.mg x C fI) (hr : Room k X.A) (M : ∀ us : List Value, us.length = ks.length → Makes X.K C us [] fun y => (ks.zip us).lookup y) (ha : PA X (e :: es) t) (hg : Gl X x := by rfl)
    (hdb : (x == ("__debug__" : Str)) = false := by decide) (he : starEach (e :: es) X.env = (false, eval e X.env) :: starEach es X.env := by rfl) (hpl : (backTo pos (starEach es X.env)).any (·.1) = false := by rfl) :
    PMk X (.Call (.Name x p) (e :: es) [] pos) (tFlP C ks t) := by
  intro pins s σ H Q I h
  refine wpAny_Call_Name_kw (ld_glob I hg T.gC ?_ hdb)
  refine PySem.W.callWith_K (h₀ := X.base) I.ok.mod.kin T.kC (thn (ha.run pos pins s σ H _ I h) fun us s1 hh => ?_) he hpl
  obtain ⟨vs, H1, I1, r1, hl, q1⟩ := hh
  refine ⟨I1.kIn, ?_⟩
  have hlim := I1.nolimit
  obtain ⟨hp, g, dr, tk, os⟩ := s1
  have hus : us.length = ks.length := r1.length.symm.trans hl
  show wpAny _ _ (call (.ref C) us) _ _ _
  refine wpAny_call (M us hus X.prog X.w _ _ _ I1.kIn hlim (by have := hr.dp; omega) (fun h' tk' e d MM => ?_))
  exact flown I1 MM (zip_rel r1) (raises_own T.exC T.tyC) (q1 d (I1.hok.fresh MM.big)) (I1.hok.fresh MM.big)
def tFlK (C : Addr) (ks : List Str) (n : Nat) (g : {α : Type} → List α → List α) (tk : TA) : L2.St → Hp → XK → Prop := fun σ H Q => tk σ H fun zs H1 => zs.length = n ∧ ∀ d, H1 d = none → Q (.ref C) (some d) (upd H1 d (.xd (ks.zip (g zs))))
theorem pmkK {g : {α : Type} → List α → List α} (T : ErrC X.K X.mg x C fI) (hr : Room k X.A) (hg2 : ∀ {vs : List V} {us : List Value}, Vals vs us → Vals (g vs) (g us))
    (M : ∀ ws : List Value, ws.length = kks.length → Makes X.K C [] (kks.zip ws) fun y => (ks.zip (g ws)).lookup y) (hkw : PK X kws tk) (hg : Gl X x := by rfl)
    (hall : (backToKw pos (keywordEach kws X.env)).all (·.1.isSome) = true := by rfl) (hks : (backToKw pos (keywordEach kws X.env)).filterMap (·.1) = kks := by rfl)
    (hdb : (x == ("__debug__" : Str)) = false := by decide)
    (hpl : ((backTo pos (starEach [] X.env)).any (·.1) || (backToKw pos (keywordEach kws X.env)).any (·.1.isNone)) = false := by rfl) :
    PMk X (.Call (.Name x p) [] kws pos) (tFlK C ks kks.length g tk) := by
  intro pins s σ H Q I h
  refine wpAny_Call_Name_kw (ld_glob I hg T.gC ?_ hdb)
  refine PySem.W.callWith_KW0 (h₀ := X.base) I.ok.mod.kin T.kC hall ?_ hpl
  refine thn (hkw.run pos pins s σ H _ I h) fun ws s2 ⟨zs, H2, I2, rz, hl, q2⟩ => ⟨I2.kIn, ?_⟩
  rw [hks]
  have hlim := I2.nolimit
  have hws : ws.length = kks.length := rz.length.symm.trans hl
  obtain ⟨hp, gg, dr, tk, os⟩ := s2
  refine wpAny_call (M ws hws X.prog X.w _ _ _ I2.kIn hlim (by have := hr.dp; omega) (fun h' tk' e d MM => ?_))
  exact flown I2 MM (zip_rel (hg2 rz)) (raises_own T.exC T.tyC) (q2 d (I2.hok.fresh MM.big)) (I2.hok.fresh MM.big)
end
end Mq

namespace Mq
open PySem PySem.Spec PyProof.Rows L2
section
variable {X : Cx} {pins : List (Addr × Obj)} {σ : L2.St} {H : Hp} {s : Shared}
/-- repr where an error is held: only the room below counts -/
theorem call_repU' (hu : X.A.units + 200 < cLine) (gA : Still X.A) : CallR X (.builtin "repr") (rRep X.K) := by
  intro pins s σ H xs us Q I r h
  obtain ⟨v, d, rfl, hd, hs, hz, hl, q⟩ := h
  cases r with
  | cons rx rr =>
    cases rr
    obtain ⟨as, rd, hn⟩ := Dg.rd I hd rx
    have leaf : ∀ {d : PyData} {t : Tok}, Q (.str d.shown) H → EP X pins σ Q (.str d.shown t) { s with toks := s.toks + 1 } :=
      fun {d t} q => ⟨.str d.shown, H, I.tok _, ⟨_, rfl⟩, q⟩
    cases hd with
    | non =>
      cases rx
      exact PySem.P.repr_of_none (leaf (d := .none) q)
    | bl b =>
      cases rx
      exact PySem.P.repr_of_bool (leaf (d := .bool b) q)
    | int i =>
      obtain ⟨t, rfl⟩ := rx
      exact PySem.P.repr_of_int (by simpa [PyData.showable] using hs) (leaf (d := .int i) q)
    | str x =>
      obtain ⟨t, rfl⟩ := rx
      refine PySem.P.repr_of_str (leaf (d := .str x) q) ?_
      simpa only [PyData.shown] using hl
    | lst ne h1 h2 =>
      cases rx
      exact repr_of_reads' rd hs (fun _ => hn) gA (by omega) (fun _ _ e => e) (fun h' u tk k => ⟨.str _, H, I.kept k, ⟨_, rfl⟩, q⟩) hl
    | tup h1 h2 =>
      cases rx
      exact repr_of_reads' rd hs (fun _ => hn) gA (by omega) (fun _ _ e => e) (fun h' u tk k => ⟨.str _, H, I.kept k, ⟨_, rfl⟩, q⟩) hl
    | dct h1 h2 =>
      cases rx
      exact repr_of_reads' rd hs (fun _ => hn) gA (by omega) (fun _ _ e => e) (fun h' u tk k => ⟨.str _, H, I.kept k, ⟨_, rfl⟩, q⟩) hl
/-- the same, the written part named -/
theorem call_repU {K0 : PySem.W.Frag} (hK : X.K = K0) (hu : X.A.units + 200 < cLine) (gA : Still X.A) : CallR X (.builtin "repr") (rRep K0) := hK ▸ call_repU' hu gA
theorem pe_bmK {K0 : PySem.W.Frag} {e : Expr} {T : String} {r : V → List V → Hp → VK → Prop} {to : TE} {t : TA} (hK : X.K = K0) (h : PE X e (tBM X.K T r to t)) : PE X e (tBM K0 T r to t) := hK ▸ h
end
end Mq

namespace Mq
open PySem PySem.Spec PyProof.Rows L2
/-! ### own objects: a field as a target among others; len and == by methods of their own -/
def gFld (K : PySem.W.Frag) (ta : TE) (f : Str) : TG := fun v σ H Q => ta σ H fun x H1 => ∃ a C dx fs, x = .ref a ∧ H1 a = some (.ins C dx fs) ∧ Cls K C ∧ NoAttr K C f ∧ fs.length < 1000 ∧ Q σ (upd H1 a (.ins C dx (putF f v fs)))
theorem pg_fld {X : Cx} {o : Expr} {f : Str} {pos : Pos} {ta : TE} (ho : PE X o ta) : PG X (.Attribute o f pos) (gFld X.K ta f) := by
  refine ⟨fun pins s σ H v u Q I r h => PySem.W.kas_attr (thn (ho.run pins s σ H _ I h) ?_)⟩
  rintro ov s1 ⟨x, H1, I1, rx, a, C, dx, fs, rfl, ea, c, n, hl, q⟩
  cases rx
  exact setattr_ok I1 ea c n hl r fun s' I2 => ⟨σ, _, I2, q⟩
section
variable {X : Cx} {pins : List (Addr × Obj)} {σ : L2.St} {H : Hp} {s : Shared} {a C dx : Addr} {fs : List (Str × V)}
theorem inst_of (I : L2.Inv X pins σ H s) (ea : H a = some (.ins C dx fs)) : ∃ o, PySem.W.InstAt s.heap a (PySem.W.instObj C dx) C (some o) := by
  have o := I.hok a _ ea
  unfold ObjOk at o
  obtain ⟨_, _, _, hget, mA, ⟨od, es, ep, ho, _⟩, _⟩ := o
  exact ⟨od, hget, rfl, rfl, ho⟩
end
/-- len(o) by the class's own def -/
def rLenO (C : Addr) (sp : Sp) (E : XK) : List V → Hp → VK → Prop := fun xs H Q => ∃ a dx fs, xs = [.ref a] ∧ H a = some (.ins C dx fs) ∧ sp [.ref a] H (fun v H' => ∃ n : Nat, v = .int (n : Nat) ∧ n ≤ 1000000 ∧ Q (.int (n : Nat)) H') E
theorem call_lenO {X : Cx} {CX : CXT} {k : Nat} {f C : Addr} {fd : FuncData} {ps : List Str} {sp : Sp} {E : XK} (hm : Meth X.K C "__len__" f)
    (F : FnOk X.prog X.w X.K X.mg X.base CX k f fd ps sp) (hr : Room (k + 1) X.A) (hb : Binds X.K fd ps []) (hx : Passes CX X E) : CallR X (.builtin "len") (rLenO C sp E) := by
  intro pins s σ H xs us Q I r h
  obtain ⟨a, dx, fs, rfl, ea, q⟩ := h
  cases r with
  | cons rx rr =>
    cases rr
    cases rx
    obtain ⟨o, J⟩ := inst_of I ea
    obtain ⟨m, fr⟩ := I.fr
    refine PySem.W.len_K fr I.ok.mod.kin J hm.at_ hm.fn ?_
    have rv : Vals [V.ref a] [Value.ref a] := .cons rfl .nil
    have hl : [Value.ref a].length = ps.length := F.len _ _ _ _ q
    have b := hb s [.ref a] I.kIn (by rw [List.append_nil]; exact hl)
    rw [List.append_nil] at b
    refine wpAny_call (codeAny_mono (F.run X.A.in1 X.stack s H ⟨[.ref a], []⟩ [.ref a] [.ref a] _ E hr.in1 I.env0.in1 b rv q) (fun r s' hq => ?_))
    match r, hq with
    | .error er, hq => exact hx pins σ H s er s' I hq
    | .ok (.ret u), hq =>
      obtain ⟨v, H', I', rv', n, rfl, hn, q'⟩ := I.after hq
      obtain ⟨t, rfl⟩ := rv'
      refine ⟨⟨by omega, by omega⟩, .int (n : Nat), H', ?_, ⟨_, rfl⟩, q'⟩
      exact I'.kept (h' := s'.heap) (t' := s'.toks + 1) (fun _ _ z => z)
    | .ok .next, hq => exact hq.elim
    | .ok .brk, hq => exact hq.elim
    | .ok .cont, hq => exact hq.elim
/-- o == p, both of one class, by the class's own def -/
def rEqO (K : PySem.W.Frag) (C : Addr) (sp : Sp) (E : XK) : R2 := fun x y H Q => ∃ a b dx dy fs gs, x = .ref a ∧ y = .ref b ∧ H a = some (.ins C dx fs) ∧ H b = some (.ins C dy gs) ∧ sp [.ref a, .ref b] H (fun v H' => ∃ r : Bool, v = .bl r ∧ Q (.bl r) H') E
theorem op_eqO {X : Cx} {CX : CXT} {k : Nat} {f C : Addr} {fd : FuncData} {ps : List Str} {sp : Sp} {E : XK} (hm : Meth X.K C "__eq__" f)
    (F : FnOk X.prog X.w X.K X.mg X.base CX k f fd ps sp) (hr : Room k X.A) (hb : Binds X.K fd ps []) (hx : Passes CX X E) : OpR X (compareOp .Eq) (rEqO X.K C sp E) := by
  intro pins s σ H x y v u Q I rx ry h
  obtain ⟨a, b, dx, dy, fs, gs, rfl, rfl, ea, eb, q⟩ := h
  cases rx
  cases ry
  obtain ⟨o, J⟩ := inst_of I ea
  obtain ⟨o2, J2⟩ := inst_of I eb
  obtain ⟨m, fr⟩ := I.fr
  refine PySem.W.cmp_ofEq (PySem.W.cmp_K (tb := .ref C) (by have := hr.un; omega) fr I.ok.mod.kin J ?_ ?_ hm.at_ hm.fn ?_)
  · exact J2.type
  · show (_ || _) = true
    rw [show ((Value.ref C == Value.ref C) = true) by simp]
    rfl
  · have rv : Vals [V.ref a, V.ref b] [Value.ref a, Value.ref b] := .cons rfl (.cons rfl .nil)
    have hl : [Value.ref a, Value.ref b].length = ps.length := F.len _ _ _ _ q
    have bd := hb s [.ref a, .ref b] I.kIn (by rw [List.append_nil]; exact hl)
    rw [List.append_nil] at bd
    refine wpAny_call (codeAny_mono (F.run X.A X.stack s H ⟨[.ref a, .ref b], []⟩ [.ref a, .ref b] [.ref a, .ref b] _ E hr I.env0 bd rv q) (fun r s' hq => ?_))
    match r, hq with
    | .error er, hq => exact hx pins σ H s er s' I hq
    | .ok (.ret u), hq =>
      obtain ⟨v, H', I', rv', r, rfl, q'⟩ := I.after hq
      cases rv'
      exact ⟨.bl r, H', I', rfl, q'⟩
    | .ok .next, hq => exact hq.elim
    | .ok .brk, hq => exact hq.elim
    | .ok .cont, hq => exact hq.elim
end Mq

namespace Mq
open PySem PySem.Spec PyProof.Rows L2
/-! ### str(o) by the class's own def -/
def rStrO (C : Addr) (sp : Sp) (E : XK) : List V → Hp → VK → Prop := fun xs H Q => ∃ a dx fs, xs = [.ref a] ∧ H a = some (.ins C dx fs) ∧ sp [.ref a] H (fun v H' => ∃ y : Str, v = .str y ∧ Q (.str y) H') E
theorem call_strO {X : Cx} {CX : CXT} {k : Nat} {f C : Addr} {fd : FuncData} {ps : List Str} {sp : Sp} {E : XK} (hm : Meth X.K C "__str__" f)
    (F : FnOk X.prog X.w X.K X.mg X.base CX k f fd ps sp) (hr : Room (k + 2) X.A) (hb : Binds X.K fd ps []) (hx : Passes CX X E) : CallR X (.type "str") (rStrO C sp E) := by
  intro pins s σ H xs us Q I r h
  obtain ⟨a, dx, fs, rfl, ea, q⟩ := h
  cases r with
  | cons rx rr =>
    cases rr
    cases rx
    obtain ⟨o, J⟩ := inst_of I ea
    have hu : X.A.in1.in1.units < cLine := by
      have := hr.in1.in1.units
      omega
    refine PySem.W.kso_call hu I.kIn J hm.at_ hm.fn ?_
    have rv : Vals [V.ref a] [Value.ref a] := .cons rfl .nil
    have hl : [Value.ref a].length = ps.length := F.len _ _ _ _ q
    have b := hb s [.ref a] I.kIn (by rw [List.append_nil]; exact hl)
    rw [List.append_nil] at b
    refine wpAny_call (codeAny_mono (F.run X.A.in1.in1 X.stack s H ⟨[.ref a], []⟩ [.ref a] [.ref a] _ E hr.in1.in1 I.env0.in1.in1 b rv q) (fun r s' hq => ?_))
    match r, hq with
    | .error er, hq => exact hx pins σ H s er s' I hq
    | .ok (.ret u), hq =>
      obtain ⟨v, H', I', rv', y, rfl, q'⟩ := I.after hq
      obtain ⟨t, rfl⟩ := rv'
      exact ⟨.str y, H', I', ⟨_, rfl⟩, q'⟩
    | .ok .next, hq => exact hq.elim
    | .ok .brk, hq => exact hq.elim
    | .ok .cont, hq => exact hq.elim
end Mq

namespace Mq
open PySem PySem.Spec PyProof.Rows L2
/-! ### an own object made within a try -/
section
variable {X : Cx} {CX : CXT} {k n : Nat} {f C : Addr} {fd : FuncData} {ps ks : List Str} {sp : Sp} {E : XK} {ES : L2.St → XK}
  {g : List Value → List Value → List Value} {gV : List V → List V → List V} {pins : List (Addr × Obj)} {σ : L2.St} {H : Hp} {s : Shared} {Q : VK} {us ws : List Value} {vs zs : List V}
  {x : Str} {p pos : Pos} {kws : List Keyword} {tk t : TA} {e : Expr} {es : List Expr}
theorem run_makeS (M : Mk X.K C f) (F : FnOk X.prog X.w X.K X.mg X.base CX k f fd ps sp) (hr : Room (k + 1) X.A) (hb : KBn X.K fd ps (n + 1) ks g gV) (hx : PassesAt CX X σ E)
    (I : Inv X pins σ H s) (ru : Vals vs us) (rz : Vals zs ws) (hn : vs.length = n) (hm : zs.length = ks.length)
    (h : ∀ x dx, H x = none → H dx = none → dx ≠ x → sp (gV (.ref x :: vs) zs) (upd (upd H dx (.own x)) x (.ins C dx [])) (fun v H2 => v = .non ∧ Q (.ref x) H2) E) :
    wpAny (model X.prog X.w) X.A (call (.ref C) us (ks.zip ws)) (EP X pins σ Q) X.xe s := by
  have I1 := I.made (C := C)
  have lt : ∀ {b : Addr} {o : HO}, H b = some o → b < s.heap.objs.size := fun {b o} e => I.hok.lt e
  have n0 : H s.heap.objs.size = none := by
    cases e : H s.heap.objs.size with
    | none => rfl
    | some o => exact absurd (lt e) (Nat.lt_irrefl _)
  have n1 : H (s.heap.objs.size + 1) = none := by
    cases e : H (s.heap.objs.size + 1) with
    | none => rfl
    | some o => exact absurd (Nat.lt_trans (Nat.lt_succ_self _) (lt e)) (Nat.lt_irrefl _)
  refine wpAny_call (Att.make_obj I.kIn M.makes M.init M.fn ?_)
  refine codeAny_mono (F.run _ X.stack _ _ ⟨.ref (s.heap.objs.size + 1) :: us, ks.zip ws⟩ (g (.ref (s.heap.objs.size + 1) :: us) ws) (gV (.ref (s.heap.objs.size + 1) :: vs) zs) _ E (hr.make _ _ _) (I1.env0.make _ _ _)
    (hb.to _ (.ref (s.heap.objs.size + 1) :: us) ws I1.kIn (by rw [List.length_cons, ← ru.length, hn]) (rz.length.symm.trans hm)) (hb.rel (.cons rfl ru) rz) (h _ _ n1 n0 (Nat.ne_of_lt (Nat.lt_succ_self _)))) (fun r s' hq => ?_)
  match r, hq with
  | .error er, hq => exact hx pins _ _ er s' I1 hq
  | .ok (.ret u), hq =>
    obtain ⟨v, H', I', rv', rfl, q'⟩ := I1.after hq
    cases rv'
    exact ⟨rfl, .ref _, H', I', rfl, q'⟩
  | .ok .next, hq => exact hq.elim
  | .ok .brk, hq => exact hq.elim
  | .ok .cont, hq => exact hq.elim
def tMakeS (C : Addr) (m : Nat) (sp : Sp) (gV : List V → List V → List V) (ES : L2.St → XK) (tk : TA) : TE := fun σ H Q => tk σ H fun zs H2 => zs.length = m ∧ ∀ x dx, H2 x = none → H2 dx = none → dx ≠ x → sp (gV [.ref x] zs) (upd (upd H2 dx (.own x)) x (.ins C dx [])) (fun v H3 => v = .non ∧ Q (.ref x) H3) (ES σ)
/-- x(k = v, ..), what is raised being wished for at the slots as they stand -/
theorem pe_makeKS (M : Mk X.K C f) (F : FnOk X.prog X.w X.K X.mg X.base CX k f fd ps sp) (hr : Room (k + 1) X.A) (hg : Gl X x) (hm : X.mg x = some (.ref C)) (hb : KBn X.K fd ps 1 ks g gV)
    (hx : ∀ σ, PassesAt CX X σ (ES σ)) (hkw : PK X kws tk)
    (hall : (backToKw pos (keywordEach kws X.env)).all (·.1.isSome) = true := by rfl)
    (hks : (backToKw pos (keywordEach kws X.env)).filterMap (·.1) = ks := by rfl)
    (hdb : (x == ("__debug__" : Str)) = false := by decide)
    (hpl : ((backTo pos (starEach [] X.env)).any (·.1) || (backToKw pos (keywordEach kws X.env)).any (·.1.isNone)) = false := by rfl) :
    PE X (.Call (.Name x p) [] kws pos) (tMakeS C ks.length sp gV ES tk) := by
  refine ⟨fun pins s σ H Q I h => ?_⟩
  refine wpAny_Call_Name_kw (ld_glob I hg hm ?_ hdb)
  refine PySem.W.callWith_KW0 (h₀ := X.base) I.ok.mod.kin M.kp hall ?_ hpl
  refine thn (hkw.run pos pins s σ H _ I h) fun ws s2 ⟨zs, H2, I2, rz, hl, q2⟩ => ⟨I2.kIn, ?_⟩
  rw [hks]
  exact run_makeS (n := 0) (vs := []) (us := []) M F hr hb (hx σ) I2 .nil rz rfl hl q2
def tMakeP (C : Addr) (m : Nat) (sp : Sp) (ES : L2.St → XK) (t : TA) : TE := fun σ H Q => t σ H fun vs H2 => vs.length = m ∧ ∀ x dx, H2 x = none → H2 dx = none → dx ≠ x → sp (.ref x :: vs) (upd (upd H2 dx (.own x)) x (.ins C dx [])) (fun v H3 => v = .non ∧ Q (.ref x) H3) (ES σ)
/-- x(e, ..), so too -/
theorem pe_makeS {m : Nat} (M : Mk X.K C f) (F : FnOk X.prog X.w X.K X.mg X.base CX k f fd ps sp) (hr : Room (k + 1) X.A) (hg : Gl X x) (hm : X.mg x = some (.ref C)) (hb : Binds X.K fd ps []) (hps : ps.length = m + 1)
    (hx : ∀ σ, PassesAt CX X σ (ES σ)) (ha : PA X (e :: es) t) (hdb : (x == ("__debug__" : Str)) = false := by decide)
    (he : starEach (e :: es) X.env = (false, eval e X.env) :: starEach es X.env := by rfl) (hpl : (backTo pos (starEach es X.env)).any (·.1) = false := by rfl) :
    PE X (.Call (.Name x p) (e :: es) [] pos) (tMakeP C m sp ES t) := by
  refine ⟨fun pins s σ H Q I h => ?_⟩
  refine wpAny_Call_Name_kw (ld_glob I hg hm ?_ hdb)
  refine PySem.W.callWith_K (h₀ := X.base) I.ok.mod.kin M.kp (thn (ha.run pos pins s σ H _ I h) fun us s1 ⟨vs, H1, I1, r, hl, q⟩ => ⟨I1.kIn, ?_⟩) he hpl
  have kb : KBn X.K fd ps (m + 1) [] (fun us _ => us) (fun vs _ => vs) := by
    refine ⟨fun s us ws kin h1 h2 => ?_, fun a _ => a⟩
    have b := hb s us kin (by rw [List.append_nil, hps, h1])
    rw [List.append_nil] at b
    exact b
  exact run_makeS (n := m) (zs := []) (ws := []) (ks := []) M F hr kb (hx σ) I1 r .nil hl rfl q
end
end Mq

namespace Mq
open PySem PySem.Spec PyProof.Rows L2
/-! ### data that stays is what it is -/
mutual
theorem eqv_td {K : PySem.W.Frag} {H : Hp} : ∀ {v : V} {d : PyData}, Td K H v d → PyData.eqv d d = true
  | _, _, .int i => by simp [PyData.eqv]
  | _, _, .str x => by simp [PyData.eqv]
  | _, _, .tup _ a => by
    simp only [PyData.eqv]
    exact eqv_tds a
theorem eqv_tds {K : PySem.W.Frag} {H : Hp} : ∀ {vs : List V} {ds : List PyData}, TdAll K H vs ds → PyData.eqvAll ds ds = true
  | _, _, .nil => by simp [PyData.eqvAll]
  | _, _, .cons a b => by
    simp only [PyData.eqvAll]
    rw [eqv_td a, eqv_tds b]
    rfl
end
theorem shaped_gd {w n : Nat} {d : PyData} (h : Gd w n d) (hn : n ≤ 64) : SeqAt.shaped d = true := by
  unfold SeqAt.shaped
  rw [h.cl, decide_eq_true (Nat.le_trans h.de hn)]
  rfl
end Mq

namespace Mq
open PySem PySem.Spec PyProof.Rows L2
/-! ### a dict beside a whole number -/
theorem dsa_eq (a : Addr) (b : Int) (u : Tok) : Builtin.Dict.dictSlotArgs "__eq__" ⟨[.ref a, .int b u], []⟩ = pure (.ref a, .int b u) := by rfl
theorem isa_eq (a : Addr) (b : Int) (u : Tok) : slotArgs "__eq__" 1 ⟨[.int b u, .ref a], []⟩ = pure (.int b u, [.ref a]) := by rfl
theorem sub_id : isSubtype (Value.type "int") (Value.type "dict") = pure false := by rfl
theorem dict_not_int (a : Addr) (b : Int) (u : Tok) : Meets (Builtin.«dict.__eq__» ⟨[.ref a, .int b u], []⟩) (fun _ R s => R (.ok (.ret .notImplemented)) s) := by
  intro prog w A R s hr
  unfold Builtin.«dict.__eq__»
  refine wpAny_bind ?_
  rw [dsa_eq]
  refine wpAny_pure ?_
  refine wpAny_bind ?_
  show wpAny _ _ (isSubtype (Value.type "int") (Value.type "dict")) _ _ _
  rw [sub_id]
  refine wpAny_pure ?_
  refine wpAny_bind (wpAny_rule ?_)
  exact wpAny_pure hr
theorem int_not_dict (a : Addr) (b : Int) (u : Tok) : Meets (Builtin.«int.__eq__» ⟨[.int b u, .ref a], []⟩) (fun _ R s => (∃ o es ep, s.heap.get? a = some o ∧ o.data = .dict es ep) ∧ R (.ok (.ret .notImplemented)) s) := by
  rintro prog w A R s ⟨⟨o, es, ep, ho, hd⟩, hr⟩
  unfold Builtin.«int.__eq__»
  refine wpAny_bind ?_
  rw [isa_eq]
  refine wpAny_pure ?_
  refine wpAny_bind (Q := _) ?_
  show wpAny _ _ (Builtin.Int.intOfSelf (.int b u)) _ _ _
  unfold Builtin.Int.intOfSelf
  refine wpAny_bind (wpAny_pure (wpAny_pure ?_))
  refine wpAny_bind ?_
  show wpAny _ _ (asInt? (.ref a)) _ _ _
  unfold asInt?
  refine wpAny_bind (wpAny_load ho ?_)
  rw [hd]
  refine wpAny_pure ?_
  refine wpAny_bind (wpAny_rule ?_)
  exact wpAny_pure hr
theorem op_eqDI {X : Cx} (hu : X.A.units < cLine) : OpR X (compareOp .Eq) (fun x y H Q => ∃ a kvs i, x = .ref a ∧ y = .int i ∧ H a = some (.dK kvs) ∧ Q (.bl false) H) := by
  intro pins s σ H x y v u Q I rx ry h
  obtain ⟨a, kvs, i, rfl, rfl, ha, q⟩ := h
  cases rx
  obtain ⟨t, rfl⟩ := ry
  have ok := I.hok a _ ha
  unfold ObjOk at ok
  obtain ⟨_, _, vs, _, dk⟩ := ok
  obtain ⟨o, es, ep, ho, hd, hcl⟩ : ∃ o es ep, s.heap.get? a = some o ∧ o.data = .dict es ep ∧ o.cls = .type "dict" := by
    obtain ⟨o, es, ep, h1, h2, h3, _⟩ := dk
    exact ⟨o, es, ep, h1, h3, h2.1⟩
  refine PySem.W.cmp_ofEq (SeqAt.rc_eq_decline_or (k := false) (Ta := "dict") (Tb := "int") ⟨o, ho, hcl⟩ (rfl : typeOf (.int i t) = _) (by decide) sub_id PySem.F.slot_dict_eq PySem.F.slot_int_eq_refl (fun Q' hq => ?_) (fun Q' hq => ?_) (fun Q' hq => ?_) (Or.inr hu) ⟨.bl false, H, I, rfl, q⟩)
  · exact call_meets PySem.F.slot_dict_eq ⟨o, ho, hcl⟩ PySem.F.entry_dict_eq (PySem.F.args_dict_eq_2 _ _) (dict_not_int a i t) hq
  · exact call_meets PySem.F.slot_int_eq_refl (rfl : typeOf (.int i t) = _) PySem.F.entry_int_eq (PySem.F.args_int_eq_2 _ _) (int_not_dict a i t) ⟨⟨o, es, ep, ho, hd⟩, hq⟩
  · exact wpAny_pure hq
theorem op_or {X : Cx} {f : Value → Value → Sem Value} {r1 r2 : R2} (h1 : OpR X f r1) (h2 : OpR X f r2) : OpR X f (fun x y H Q => r1 x y H Q ∨ r2 x y H Q) := by
  intro pins s σ H x y v u Q I rx ry h
  rcases h with h | h
  · exact h1 pins s σ H x y v u Q I rx ry h
  · exact h2 pins s σ H x y v u Q I rx ry h
end Mq

namespace Mq
open PySem PySem.Spec PyProof.Rows L2
/-! ### own objects with an `__eq__` of their own beside values of other kinds -/
section
variable {prog : Program} {w : World} {A : Around} {E : Value → Shared → Prop} {s : Shared} {K : PySem.W.Frag} {x C f : Addr} {ox : Obj} {od : Option Obj} {b tb : Value}
theorem try_own {op : Str} {Q : Value → Shared → Prop} (X : K.In s.heap) (I : PySem.W.InstAt s.heap x ox C od) (hs : PySem.W.findIn K (.ref C) op = some (some (.ref f))) (hf : PySem.W.isFn K (.ref f) = true)
    (h : wpAny (model prog w) A (call (.ref f) [.ref x, b]) (PySem.W.CmpBack Q) E s) : wpAny (model prog w) A (tryCompare (.ref x) op b) (fun r s' => ∃ v, r = some v ∧ Q v s') E s := by
  unfold tryCompare
  refine wpAny_bind (PySem.W.ifBound_K X I hs hf (wpAny_mono h (fun v s' hv => ?_) fun _ _ e => e))
  cases v <;> first | exact hv.elim | exact wpAny_pure ⟨_, rfl, hv⟩
/-- o == v, v of another kind -/
theorem rc_eqOV {T : String} {Q : Value → Shared → Prop} (hu : A.units < cLine) (X : K.In s.heap) (I : PySem.W.InstAt s.heap x ox C od) (hT : s.TypeIs b T) (hsub : PySem.W.subIn K (.type T) (.ref C) = some false)
    (hs : PySem.W.findIn K (.ref C) "__eq__" = some (some (.ref f))) (hf : PySem.W.isFn K (.ref f) = true)
    (h : wpAny (model prog w) A (call (.ref f) [.ref x, b]) (PySem.W.CmpBack Q) E s) : wpAny (model prog w) A (richCompare .Eq (.ref x) b) Q E s := by
  have one := try_own X I hs hf h
  simp only [richCompare, cmpInfo_Eq, oneThing_ref]
  refine wpAny_holding (wpAny_bind (wpAny_cRoomFor hu ?_))
  refine wpAny_bind (I.type.here ?_)
  refine wpAny_bind (wpAny_typeOf hT ?_)
  split
  · refine wpAny_bind ((PySem.W.looks_subIn X hsub).here ?_)
    simp only [Bool.false_eq_true, if_false, Bool.not_false, if_true]
    refine wpAny_bind (wpAny_mono one (fun r s' z => ?_) fun _ _ e => e)
    obtain ⟨v, rfl, hq⟩ := z
    exact wpAny_pure hq
  · rename_i q
    exact absurd (by simp) q
/-- v == o, v of another kind, whose own == declines -/
theorem rc_eqVO {T id : String} {Q : Value → Shared → Prop} (hu : A.units < cLine) (X : K.In s.heap) (I : PySem.W.InstAt s.heap x ox C od) (hT : s.TypeIs b T) (hsub : PySem.W.subIn K (.ref C) (.type T) = some false)
    (sl : Slot T "__eq__" id) (hc : ∀ Q' : Value → Shared → Prop, Q' .notImplemented s → wpAny (model prog w) A (call (.builtin id) [b, .ref x]) Q' E s)
    (hs : PySem.W.findIn K (.ref C) "__eq__" = some (some (.ref f))) (hf : PySem.W.isFn K (.ref f) = true)
    (h : wpAny (model prog w) A (call (.ref f) [.ref x, b]) (PySem.W.CmpBack Q) E s) : wpAny (model prog w) A (richCompare .Eq b (.ref x)) Q E s := by
  have one := try_own X I hs hf h
  have two : wpAny (model prog w) A (tryCompare b "__eq__" (.ref x)) (fun r s' => r = none ∧ s' = s) E s := wpAny_tryCompare_declines hT sl (hc _ ⟨rfl, rfl, rfl⟩)
  simp only [richCompare, cmpInfo_Eq, hT.oneThing_none]
  refine wpAny_holding (wpAny_bind (wpAny_cRoomFor hu ?_))
  refine wpAny_bind (wpAny_typeOf hT ?_)
  refine wpAny_bind (I.type.here ?_)
  split
  · refine wpAny_bind ((PySem.W.looks_subIn X hsub).here ?_)
    simp only [Bool.false_eq_true, if_false, Bool.not_false, if_true]
    refine wpAny_bind (m := tryCompare b _ (.ref x)) (wpAny_mono two (fun r s1 z => ?_) fun _ _ e => e)
    obtain ⟨z1, z2⟩ := z
    subst z1
    subst z2
    refine wpAny_bind (m := tryCompare (.ref x) _ b) (wpAny_mono one (fun r s' z => ?_) fun _ _ e => e)
    obtain ⟨v, rfl, hq⟩ := z
    exact wpAny_pure hq
  · rename_i q
    exact absurd (by simp) q
/-! != by the class's own == -/
theorem entry_neO {Q : Fin → Shared → Prop} (hu : A.units < cLine) (X : K.In s.heap) (I : PySem.W.InstAt s.heap x ox C od) (hs : PySem.W.findIn K (.ref C) "__eq__" = some (some (.ref f))) (hf : PySem.W.isFn K (.ref f) = true)
    (h : wpAny (model prog w) A (call (.ref f) [.ref x, b]) (fun v s' => ∃ r : Bool, v = .bool r ∧ Q (.done (.ret (.bool (!r)))) s') E s) :
    wpAny (model prog w) A (Builtin.«object.__ne__» ⟨[.ref x, b], []⟩) Q E s := by
  unfold Builtin.«object.__ne__»
  refine wpAny_bind ?_
  rw [show slotArgs "__ne__" 1 ⟨[.ref x, b], []⟩ = pure (.ref x, [b]) by rfl]
  refine wpAny_pure ?_
  refine wpAny_bind (wpAny_cRoomFor hu ?_)
  refine wpAny_bind (PySem.W.ifBound_K X I hs hf (wpAny_mono h (fun v s' hv => ?_) fun _ _ e => e))
  obtain ⟨r, rfl, q⟩ := hv
  exact wpAny_bind (wpAny_truthy_bool (wpAny_pure q))
theorem ifBound_objNe {M : Model} {args : List Value} {Q : Option Value → Shared → Prop} (X : K.In s.heap) (I : PySem.W.InstAt s.heap x ox C od) (hs : PySem.W.findIn K (.ref C) "__ne__" = some (some (.builtin "object.__ne__")))
    (h : wpAny M A (call (.builtin "object.__ne__") (.ref x :: args)) (fun v => Q (some v)) E s) : wpAny M A (callSpecialIfBound? (.ref x) "__ne__" args) Q E s := by
  simp only [callSpecialIfBound?, bindSpecialIfBound?]
  refine wpAny_holding (wpAny_bind (wpAny_bind (wpAny_bind (I.type.here ((PySem.W.looks_findIn X hs).here ?_)))))
  refine wpAny_bind (wpAny_askSetting (wpAny_ite ?_))
  have fin : wpAny M A (call (.builtin "object.__ne__") ([.ref x] ++ args) >>= fun v => pure (some v)) Q E s := wpAny_bind (wpAny_mono h (fun v s' h' => wpAny_pure h') fun _ _ h' => h')
  split
  · exact wpAny_bind (wpAny_of_eq (F.cmp_object.ne.bind _) (wpAny_pure (by exact fin)))
  · exact wpAny_tryCatch (wpAny_bind (wpAny_of_eq (F.cmp_object.ne.bind _) (wpAny_pure (by exact fin))))
/-- o != v -/
theorem rc_neO {Q : Value → Shared → Prop} (hu : A.units + 1 < cLine) (X : K.In s.heap) (I : PySem.W.InstAt s.heap x ox C od) (ht : ∀ Q : Value → Shared → Prop, Q tb s → wpAny (model prog w) A (typeOf b) Q E s)
    (hn : tb = .ref C ∨ PySem.W.subIn K tb (.ref C) = some false) (hm : PySem.W.mroIn K C (.type "object") = some true) (hne : PySem.W.findIn K (.ref C) "__ne__" = some (some (.builtin "object.__ne__")))
    (hs : PySem.W.findIn K (.ref C) "__eq__" = some (some (.ref f))) (hf : PySem.W.isFn K (.ref f) = true)
    (h : wpAny (model prog w) A.in1 (call (.ref f) [.ref x, b]) (fun v s' => ∃ r : Bool, v = .bool r ∧ Q (.bool (!r)) s') E s) : wpAny (model prog w) A (richCompare .NotEq (.ref x) b) Q E s := by
  have hu0 : A.units < cLine := Nat.lt_of_succ_lt hu
  have one : wpAny (model prog w) A (tryCompare (.ref x) "__ne__" b) (fun r s' => ∃ v, r = some v ∧ Q v s') E s := by
    unfold tryCompare
    refine wpAny_bind (ifBound_objNe X I hne (wpAny_call (codeAny_call_builtin F.cmp_object.ne.plain F.cmpEntry_ne (PySem.W.check_slot F.cmpKind_ne F.cmpSplit_ne (I.type.andThen (PySem.W.looks_mroIn X hm)) (F.cmpArgs_ne _ _)
      (entry_neO (A := A.in1) hu X I hs hf (wpAny_mono h (fun v s' hv => ?_) fun _ _ e => e))))))
    obtain ⟨r, rfl, q⟩ := hv
    exact ⟨r, rfl, wpAny_pure ⟨_, rfl, q⟩⟩
  simp only [richCompare, cmpInfo_NotEq, oneThing_ref]
  refine wpAny_holding (wpAny_bind (wpAny_cRoomFor hu0 ?_))
  refine wpAny_bind (I.type.here (wpAny_bind (ht _ ?_)))
  split
  · rename_i q
    have e : PySem.W.subIn K tb (.ref C) = some false := by
      rcases hn with e | e
      · rw [e] at q
        simp at q
      · exact e
    refine wpAny_bind ((PySem.W.looks_subIn X e).here ?_)
    simp only [Bool.false_eq_true, if_false]
    refine wpAny_bind (wpAny_mono one (fun r s' z => ?_) fun _ _ e => e)
    obtain ⟨v, rfl, hq⟩ := z
    exact wpAny_pure hq
  · refine wpAny_bind (wpAny_pure ?_)
    simp only [Bool.false_eq_true, if_false]
    refine wpAny_bind (wpAny_mono one (fun r s' z => ?_) fun _ _ e => e)
    obtain ⟨v, rfl, hq⟩ := z
    exact wpAny_pure hq
/-! the other kinds decline -/
theorem sub_of (X : K.In s.heap) (I : PySem.W.InstAt s.heap x ox C od) {T : String} (hsub : PySem.W.subIn K (.ref C) (.type T) = some false) {Q : Bool → Shared → Prop} (q : Q false s) : wpAny (model prog w) A (isInstance (.ref x) (.type T)) Q E s := by
  unfold isInstance
  exact wpAny_bind (I.type.here ((PySem.W.looks_subIn X hsub).here q))
theorem int_no (i : Int) (u : Tok) (I : PySem.W.InstAt s.heap x ox C od) (hd : ∀ p, ox.data ≠ .prim p) {R : Fin → Shared → Prop} (q : R (.done (.ret .notImplemented)) s) :
    wpAny (model prog w) A (Builtin.«int.__eq__» ⟨[.int i u, .ref x], []⟩) R E s := by
  unfold Builtin.«int.__eq__»
  refine wpAny_bind ?_
  rw [show slotArgs "__eq__" 1 ⟨[.int i u, .ref x], []⟩ = pure (.int i u, [.ref x]) by rfl]
  refine wpAny_pure ?_
  refine wpAny_bind (Q := _) ?_
  show wpAny _ _ (Builtin.Int.intOfSelf (.int i u)) _ _ _
  unfold Builtin.Int.intOfSelf
  refine wpAny_bind (wpAny_pure (wpAny_pure ?_))
  refine wpAny_bind ?_
  show wpAny _ _ (asInt? (.ref x)) _ _ _
  unfold asInt?
  refine wpAny_bind (wpAny_load I.at_ ?_)
  split
  · rename_i h
    exact (hd _ h).elim
  · refine wpAny_pure ?_
    refine wpAny_bind (wpAny_rule ?_)
    exact wpAny_pure q
theorem str_no (y : Str) (u : Tok) (I : PySem.W.InstAt s.heap x ox C od) (hd : ∀ p, ox.data ≠ .prim p) {R : Fin → Shared → Prop} (q : R (.done (.ret .notImplemented)) s) :
    wpAny (model prog w) A (Builtin.«str.__eq__» ⟨[.str y u, .ref x], []⟩) R E s := by
  unfold Builtin.«str.__eq__» Builtin.Str.strCompare
  refine wpAny_bind ?_
  rw [show Builtin.Str.strSlot "__eq__" 1 ⟨[.str y u, .ref x], []⟩ = pure (.str y u, y, [.ref x]) by rfl]
  refine wpAny_pure ?_
  refine wpAny_bind ?_
  show wpAny _ _ (asStr? (.ref x)) _ _ _
  unfold asStr?
  refine wpAny_bind (wpAny_load I.at_ ?_)
  split
  · rename_i h
    exact (hd _ h).elim
  · refine wpAny_pure ?_
    refine wpAny_bind (wpAny_rule ?_)
    exact wpAny_pure q
theorem tup_no (a : Addr) (X : K.In s.heap) (I : PySem.W.InstAt s.heap x ox C od) (hsub : PySem.W.subIn K (.ref C) (.type "tuple") = some false) {R : Fin → Shared → Prop} (q : R (.done (.ret .notImplemented)) s) :
    wpAny (model prog w) A (Builtin.«tuple.__eq__» ⟨[.ref a, .ref x], []⟩) R E s := by
  unfold Builtin.«tuple.__eq__»
  refine wpAny_bind ?_
  rw [show slotArgs "__eq__" 1 ⟨[.ref a, .ref x], []⟩ = pure (.ref a, [.ref x]) by rfl]
  refine wpAny_pure ?_
  refine wpAny_bind (sub_of X I hsub ?_)
  exact wpAny_pure q
theorem lst_no (a : Addr) (X : K.In s.heap) (I : PySem.W.InstAt s.heap x ox C od) (hsub : PySem.W.subIn K (.ref C) (.type "list") = some false) {R : Fin → Shared → Prop} (q : R (.done (.ret .notImplemented)) s) :
    wpAny (model prog w) A (Builtin.«list.__eq__» ⟨[.ref a, .ref x], []⟩) R E s := by
  unfold Builtin.«list.__eq__»
  refine wpAny_bind ?_
  rw [show slotArgs "__eq__" 1 ⟨[.ref a, .ref x], []⟩ = pure (.ref a, [.ref x]) by rfl]
  refine wpAny_pure ?_
  refine wpAny_bind (sub_of X I hsub ?_)
  exact wpAny_pure q
theorem dct_no (a : Addr) (X : K.In s.heap) (I : PySem.W.InstAt s.heap x ox C od) (hsub : PySem.W.subIn K (.ref C) (.type "dict") = some false) {R : Fin → Shared → Prop} (q : R (.done (.ret .notImplemented)) s) :
    wpAny (model prog w) A (Builtin.«dict.__eq__» ⟨[.ref a, .ref x], []⟩) R E s := by
  unfold Builtin.«dict.__eq__»
  refine wpAny_bind ?_
  rw [show Builtin.Dict.dictSlotArgs "__eq__" ⟨[.ref a, .ref x], []⟩ = pure (.ref a, .ref x) by rfl]
  refine wpAny_pure ?_
  refine wpAny_bind (sub_of X I hsub ?_)
  refine wpAny_bind (wpAny_rule ?_)
  exact wpAny_pure q
end
/-- a builtin's body, called by its slot -/
theorem call_slot {prog : Program} {w : World} {A : Around} {E : Value → Shared → Prop} {s : Shared} {T : String} {name : Str} {id : String} {B : Builtin} {self : Value} {rest : List Value} {Q : Value → Shared → Prop} (slot : Slot T name id) (hT : s.TypeIs self T)
    (entry : entryFor table id = some B) (args : argsOk id ⟨self :: rest, []⟩)
    (h : wpAny (model prog w) A.in1 (B ⟨self :: rest, []⟩) (GQ.FinOf prog w A (wants Q E)) (fun e s' => wants Q E (.error e) s') s) :
    wpAny (model prog w) A (call (.builtin id) (self :: rest)) Q E s := GQ.call_here slot hT entry args h
/-! ### the rules -/
/-- kinds that own objects are held beside -/
inductive KindV (K : PySem.W.Frag) (H : Hp) : V → String → Prop
  | non : KindV K H .non "NoneType"
  | int (i : Int) : KindV K H (.int i) "int"
  | str (y : Str) : KindV K H (.str y) "str"
  | lst {a : Addr} {xs : List V} : SqL K H a xs → KindV K H (.ref a) "list"
  | tup {a : Addr} {xs : List V} : SqT K H a xs → KindV K H (.ref a) "tuple"
  | dct {a : Addr} {kvs : List (Key × V)} : H a = some (.dK kvs) → KindV K H (.ref a) "dict"
def kinds6 : List String := ["NoneType", "int", "str", "list", "tuple", "dict"]
def isTy : Value → Bool
  | .type _ => true
  | _ => false
def tysOnly (T : String) : Bool := (fastBuiltinMro T).any fun l => l.all isTy
theorem sub_kind {K : PySem.W.Frag} {C : Addr} : ∀ T ∈ kinds6, PySem.W.subIn K (.type T) (.ref C) = some false := by
  intro T hT
  have h : kinds6.all tysOnly = true := by decide +kernel
  have h2 := List.all_eq_true.mp h T hT
  unfold tysOnly at h2
  show (fastBuiltinMro T).map (·.contains (.ref C)) = some false
  cases e : fastBuiltinMro T with
  | none =>
    rw [e] at h2
    cases h2
  | some l =>
    rw [e] at h2
    have h3 : l.all isTy = true := h2
    show some (l.contains (.ref C)) = some false
    congr 1
    rw [Bool.eq_false_iff]
    intro hc
    have hm : Value.ref C ∈ l := by simpa using hc
    have := List.all_eq_true.mp h3 _ hm
    cases this
theorem KindV.mem {K : PySem.W.Frag} {H : Hp} {y : V} {T : String} (h : KindV K H y T) : T ∈ kinds6 := by
  unfold kinds6
  cases h <;> simp
section
variable {X : Cx} {pins : List (Addr × Obj)} {σ : L2.St} {H : Hp} {s : Shared}
theorem KindV.ty (I : L2.Inv X pins σ H s) {y : V} {u : Value} {T : String} (h : KindV X.K H y T) (r : RelV y u) : s.TypeIs u T := by
  cases h with
  | non => cases r; exact (rfl : typeOf Value.none = pure (.type "NoneType"))
  | int i => obtain ⟨t, rfl⟩ := r; exact typeIs_int s i t
  | str z => obtain ⟨t, rfl⟩ := r; exact typeIs_str s z t
  | lst hs =>
    cases r
    obtain ⟨its, rv, ⟨o, n, ho, hc, _, hd⟩, _⟩ := I.list hs
    exact ⟨o, ho, hc⟩
  | tup hs =>
    cases r
    obtain ⟨its, rv, ⟨o, ho, hc, n, hd⟩, _⟩ := I.tuple hs
    exact ⟨o, ho, hc⟩
  | dct hs =>
    cases r
    obtain ⟨_, _, vs, _, o, es, ep, h1, h2, _⟩ := (show ObjOk X.prog X.w H s.heap _ (.dK _) from I.hok _ _ hs)
    exact ⟨o, h1, h2.1⟩
end
/-- what the class says -/
structure OwnEq (K : PySem.W.Frag) (C : Addr) : Prop where
  sub : ∀ T ∈ kinds6, PySem.W.subIn K (.ref C) (.type T) = some false
  ne : PySem.W.findIn K (.ref C) "__ne__" = some (some (.builtin "object.__ne__"))
  mo : PySem.W.mroIn K C (.type "object") = some true
def rOV (K : PySem.W.Frag) (C : Addr) (sp : Sp) (E : XK) : R2 := fun x y H Q => ∃ a dx fs T, x = .ref a ∧ H a = some (.ins C dx fs) ∧ KindV K H y T ∧ sp [.ref a, y] H (fun v H' => ∃ r : Bool, v = .bl r ∧ Q (.bl r) H') E
def rOO (C : Addr) (sp : Sp) (E : XK) : R2 := fun x y H Q => ∃ a b dx dy fs gs, x = .ref a ∧ y = .ref b ∧ H a = some (.ins C dx fs) ∧ H b = some (.ins C dy gs) ∧ sp [.ref a, .ref b] H (fun v H' => ∃ r : Bool, v = .bl r ∧ Q (.bl (!r)) H') E
section
variable {X : Cx} {CX : CXT} {k : Nat} {f C : Addr} {fd : FuncData} {ps : List Str} {sp : Sp} {E : XK}
theorem run_eq {A : Around} {pins : List (Addr × Obj)} {σ : L2.St} {H : Hp} {s : Shared} {v u : Value} {x y : V} {Q : Value → Shared → Prop} {P : Bool → Hp → Prop}
    (F : FnOk X.prog X.w X.K X.mg X.base CX k f fd ps sp) (hr : Room k A) (e0 : Env0 X.prog X.w X.K X.mg X.base A X.stack s H) (hb : Binds X.K fd ps []) (hx : Passes CX X E) (I : L2.Inv X pins σ H s) (rx : RelV x v) (ry : RelV y u)
    (q : sp [x, y] H (fun v H' => ∃ r : Bool, v = .bl r ∧ P r H') E) (hq : ∀ (r : Bool) s' H', L2.Inv X pins σ H' s' → P r H' → Q (.bool r) s') :
    wpAny (model X.prog X.w) A (call (.ref f) [v, u]) Q X.xe s := by
  have rv : Vals [x, y] [v, u] := .cons rx (.cons ry .nil)
  have hl : [v, u].length = ps.length := F.len _ _ _ _ q
  have bd := hb s [v, u] I.kIn (by rw [List.append_nil]; exact hl)
  rw [List.append_nil] at bd
  refine wpAny_call (codeAny_mono (F.run A X.stack s H ⟨[v, u], []⟩ [v, u] [x, y] _ E hr e0 bd rv q) (fun r s' hr' => ?_))
  match r, hr' with
  | .error er, hr' => exact hx pins σ H s er s' I hr'
  | .ok (.ret z), hr' =>
    obtain ⟨v', H', I', rv', r, rfl, q'⟩ := I.after hr'
    cases rv'
    exact hq r s' H' I' q'
  | .ok .next, hr' => exact hr'.elim
  | .ok .brk, hr' => exact hr'.elim
  | .ok .cont, hr' => exact hr'.elim
/-- o == v -/
theorem op_eqOV (hm : Meth X.K C "__eq__" f) (F : FnOk X.prog X.w X.K X.mg X.base CX k f fd ps sp) (hr : Room k X.A) (hb : Binds X.K fd ps []) (hx : Passes CX X E) : OpR X (compareOp .Eq) (rOV X.K C sp E) := by
  intro pins s σ H x y v u Q I rx ry h
  obtain ⟨a, dx, fs, T, rfl, ea, kd, q⟩ := h
  cases rx
  obtain ⟨o, J⟩ := inst_of I ea
  refine PySem.W.cmp_ofEq (rc_eqOV (by have := hr.un; omega) I.kIn J (kd.ty I ry) (sub_kind _ kd.mem) hm.at_ hm.fn ?_)
  exact run_eq (x := .ref a) (v := .ref a) F hr I.env0 hb hx I rfl ry q fun r s' H' I' q' => ⟨.bl r, H', I', rfl, q'⟩
/-- v == o -/
theorem op_eqVO (W : OwnEq X.K C) (hm : Meth X.K C "__eq__" f) (F : FnOk X.prog X.w X.K X.mg X.base CX k f fd ps sp) (hr : Room k X.A) (hb : Binds X.K fd ps []) (hx : Passes CX X E) : OpR X (compareOp .Eq) (fun y x H Q => rOV X.K C sp E x y H Q) := by
  intro pins s σ H y x u v Q I ry rx h
  obtain ⟨a, dx, fs, T, rfl, ea, kd, q⟩ := h
  cases rx
  obtain ⟨o, J⟩ := inst_of I ea
  have hd : ∀ p, (PySem.W.instObj C dx).data ≠ .prim p := fun p z => by cases z
  have fin := run_eq (x := .ref a) (v := .ref a) (Q := PySem.W.CmpBack (EP X pins σ Q)) F hr I.env0 hb hx I rfl ry q fun r s' H' I' q' => ⟨.bl r, H', I', rfl, q'⟩
  have hu : X.A.units < cLine := by have := hr.un; omega
  have hT := kd.ty I ry
  have hsub := W.sub _ kd.mem
  refine PySem.W.cmp_ofEq ?_
  cases kd with
  | non =>
    cases ry
    exact rc_eqVO hu I.kIn J hT hsub PySem.F.slot_NoneType_eq (fun Q' q => call_gives PySem.F.slot_NoneType_eq rfl PySem.F.entry_NoneType_eq (PySem.F.args_NoneType_eq_2 _ _) (SeqAt.NoneType___eq___none_ref_0 a) q) hm.at_ hm.fn fin
  | int i =>
    obtain ⟨t, rfl⟩ := ry
    exact rc_eqVO hu I.kIn J hT hsub PySem.F.slot_int_eq (fun Q' q => call_slot PySem.F.slot_int_eq hT PySem.F.entry_int_eq (PySem.F.args_int_eq_2 _ _) (int_no i t J hd q)) hm.at_ hm.fn fin
  | str z =>
    obtain ⟨t, rfl⟩ := ry
    exact rc_eqVO hu I.kIn J hT hsub PySem.F.slot_str_eq (fun Q' q => call_slot PySem.F.slot_str_eq hT PySem.F.entry_str_eq (PySem.F.args_str_eq_2 _ _) (str_no z t J hd q)) hm.at_ hm.fn fin
  | lst hs =>
    cases ry
    exact rc_eqVO hu I.kIn J hT hsub PySem.F.slot_list_eq (fun Q' q => call_slot PySem.F.slot_list_eq hT PySem.F.entry_list_eq (PySem.F.args_list_eq_2 _ _) (lst_no _ I.kIn J hsub q)) hm.at_ hm.fn fin
  | tup hs =>
    cases ry
    exact rc_eqVO hu I.kIn J hT hsub PySem.F.slot_tuple_eq (fun Q' q => call_slot PySem.F.slot_tuple_eq hT PySem.F.entry_tuple_eq (PySem.F.args_tuple_eq_2 _ _) (tup_no _ I.kIn J hsub q)) hm.at_ hm.fn fin
  | dct hs =>
    cases ry
    exact rc_eqVO hu I.kIn J hT hsub PySem.F.slot_dict_eq (fun Q' q => call_slot PySem.F.slot_dict_eq hT PySem.F.entry_dict_eq (PySem.F.args_dict_eq_2 _ _) (dct_no _ I.kIn J hsub q)) hm.at_ hm.fn fin
/-- o != v -/
def rOVn (K : PySem.W.Frag) (C : Addr) (sp : Sp) (E : XK) : R2 := fun x y H Q => ∃ a dx fs T, x = .ref a ∧ H a = some (.ins C dx fs) ∧ KindV K H y T ∧ sp [.ref a, y] H (fun v H' => ∃ r : Bool, v = .bl r ∧ Q (.bl (!r)) H') E
theorem op_neOV (W : OwnEq X.K C) (hm : Meth X.K C "__eq__" f) (F : FnOk X.prog X.w X.K X.mg X.base CX k f fd ps sp) (hr : Room (k + 1) X.A) (hb : Binds X.K fd ps []) (hx : Passes CX X E) : OpR X (compareOp .NotEq) (rOVn X.K C sp E) := by
  intro pins s σ H x y v u Q I rx ry h
  obtain ⟨a, dx, fs, T, rfl, ea, kd, q⟩ := h
  cases rx
  obtain ⟨o, J⟩ := inst_of I ea
  have hT := kd.ty I ry
  refine PySem.W.cmp_ofNotEq (rc_neO (by have := hr.un; omega) I.kIn J (fun Q q => wpAny_typeOf hT q) (Or.inr (sub_kind _ kd.mem)) W.mo W.ne hm.at_ hm.fn ?_)
  exact run_eq (x := .ref a) (v := .ref a) F hr.in1 I.env0.in1 hb hx I rfl ry q fun r s' H' I' q' => ⟨r, rfl, .bl (!r), H', I', rfl, q'⟩
/-- o != p, both of one class -/
theorem op_neOO (W : OwnEq X.K C) (hm : Meth X.K C "__eq__" f) (F : FnOk X.prog X.w X.K X.mg X.base CX k f fd ps sp) (hr : Room (k + 1) X.A) (hb : Binds X.K fd ps []) (hx : Passes CX X E) : OpR X (compareOp .NotEq) (rOO C sp E) := by
  intro pins s σ H x y v u Q I rx ry h
  obtain ⟨a, b, dx, dy, fs, gs, rfl, rfl, ea, eb, q⟩ := h
  cases rx
  cases ry
  obtain ⟨o, J⟩ := inst_of I ea
  obtain ⟨o2, J2⟩ := inst_of I eb
  refine PySem.W.cmp_ofNotEq (rc_neO (tb := .ref C) (by have := hr.un; omega) I.kIn J (fun Q q => J2.type.here q) (Or.inl rfl) W.mo W.ne hm.at_ hm.fn ?_)
  exact run_eq (x := .ref a) (v := .ref a) (y := .ref b) F hr.in1 I.env0.in1 hb hx I rfl rfl q fun r s' H' I' q' => ⟨r, rfl, .bl (!r), H', I', rfl, q'⟩
end
end Mq

namespace Mq
open PySem PySem.Spec PyProof.Rows L2
/-! ### a list of any things beside a list without things; two lists of unlike lengths -/
section
variable {X : Cx}
theorem op_neNil (hu : X.A.units < cLine) : OpR X (compareOp .NotEq) (fun x y H Q => ∃ a b xs, x = .ref a ∧ y = .ref b ∧ SqL X.K H a xs ∧ SqL X.K H b [] ∧ Q (.bl (!xs.isEmpty)) H) := by
  intro pins s σ H x y v u Q I rx ry h
  obtain ⟨a, b, xs, rfl, rfl, ha, hb, q⟩ := h
  cases rx
  cases ry
  obtain ⟨us, r1, p1, _⟩ := I.list ha
  obtain ⟨ws, r2, p2, _⟩ := I.list hb
  have hl := r1.length
  cases r2
  refine PySem.W.cmp_ofNotEq ?_
  cases xs with
  | nil =>
    cases r1
    refine SeqAt.RcNeAt.lists (e := fun _ => true) p1.isList p2.isList rfl hu (fun j h1 _ => absurd h1 (by simp)) X.prog X.w _ _ ?_
    exact ⟨.bl false, H, I, rfl, q⟩
  | cons x xs =>
    refine SeqAt.RcNeAt.lists_lengths p1.isList p2.isList ?_ hu X.prog X.w _ _ ⟨.bl true, H, I, rfl, q⟩
    rw [List.size_toArray, ← hl]
    simp
theorem op_eqNil (hu : X.A.units < cLine) : OpR X (compareOp .Eq) (fun x y H Q => ∃ a b xs, x = .ref a ∧ y = .ref b ∧ SqL X.K H a xs ∧ SqL X.K H b [] ∧ Q (.bl xs.isEmpty) H) := by
  intro pins s σ H x y v u Q I rx ry h
  obtain ⟨a, b, xs, rfl, rfl, ha, hb, q⟩ := h
  cases rx
  cases ry
  obtain ⟨us, r1, p1, _⟩ := I.list ha
  obtain ⟨ws, r2, p2, _⟩ := I.list hb
  have hl := r1.length
  cases r2
  refine PySem.W.cmp_ofEq ?_
  cases xs with
  | nil =>
    cases r1
    refine SeqAt.RcAt.lists (e := fun _ => true) p1.isList p2.isList rfl hu (fun j h1 _ => absurd h1 (by simp)) X.prog X.w _ _ ?_
    exact ⟨.bl true, H, I, rfl, q⟩
  | cons x xs =>
    refine SeqAt.RcAt.lists_lengths p1.isList p2.isList ?_ hu X.prog X.w _ _ ⟨.bl false, H, I, rfl, q⟩
    rw [List.size_toArray, ← hl]
    simp
end
end Mq

namespace Mq
open PySem PySem.Spec PyProof.Rows L2
open SX (S)
/-! ### a tuple of any things beside the empty tuple -/
section
variable {X : Cx}
theorem op_eqTup0 (hu : X.A.units < cLine) : OpR X (compareOp .Eq) (fun x y H Q => ∃ a b xs, x = .ref a ∧ y = .ref b ∧ SqT X.K H a xs ∧ SqT X.K H b [] ∧ Q (.bl xs.isEmpty) H) := by
  intro pins s σ H x y v u Q I rx ry h
  obtain ⟨a, b, xs, rfl, rfl, ha, hb, q⟩ := h
  cases rx
  cases ry
  obtain ⟨us, r1, p1, _⟩ := I.tuple ha
  obtain ⟨ws, r2, p2, _⟩ := I.tuple hb
  have hl := r1.length
  cases r2
  refine PySem.W.cmp_ofEq ?_
  refine SeqAt.RcAt.tuples (e := fun _ => true) p1 p2 hu (fun j _ h2 => absurd h2 (by simp)) X.prog X.w _ _ ?_
  refine ⟨.bl xs.isEmpty, H, I, ?_, q⟩
  have e : ((List.range (min us.toArray.size ([] : List Value).toArray.size)).all (fun _ => true) && us.toArray.size == ([] : List Value).toArray.size) = xs.isEmpty := by
    rw [List.size_toArray, List.size_toArray, ← hl]
    cases xs <;> simp
  rw [e]
  rfl
end
/-! ### data of tuples, texts, numbers and None: where tuples stay, it stays -/
mutual
inductive Tn (K : PySem.W.Frag) (H : Hp) : V → PyData → Prop
  | non : Tn K H .non .none
  | int (k : Nat) : k ≤ 1000 → Tn K H (.int (k : Nat)) (.int (k : Nat))
  | str (x : Str) : Tn K H (.str x) (.str x)
  | tup {a : Addr} {xs : List V} {ds : List PyData} : SqT K H a xs → TnAll K H xs ds → Tn K H (.ref a) (.tuple ds)
inductive TnAll (K : PySem.W.Frag) (H : Hp) : List V → List PyData → Prop
  | nil : TnAll K H [] []
  | cons {v : V} {vs : List V} {d : PyData} {ds : List PyData} : Tn K H v d → TnAll K H vs ds → TnAll K H (v :: vs) (d :: ds)
end
section
variable {K : PySem.W.Frag} {H H' : Hp}
mutual
theorem Tn.kp (e : ∀ a xs, SqT K H a xs → SqT K H' a xs) : ∀ {v : V} {d : PyData}, Tn K H v d → Tn K H' v d
  | _, _, .non => .non
  | _, _, .int i hi => .int i hi
  | _, _, .str x => .str x
  | _, _, .tup h a => .tup (e _ _ h) (TnAll.kp e a)
theorem TnAll.kp (e : ∀ a xs, SqT K H a xs → SqT K H' a xs) : ∀ {v : List V} {d : List PyData}, TnAll K H v d → TnAll K H' v d
  | _, _, .nil => .nil
  | _, _, .cons a b => .cons (Tn.kp e a) (TnAll.kp e b)
end
theorem Tn.same (e : Same H H') {v : V} {d : PyData} (h : Tn K H v d) : Tn K H' v d := h.kp fun _ _ z => Same.tup e z
theorem TnAll.same (e : Same H H') {v : List V} {d : List PyData} (h : TnAll K H v d) : TnAll K H' v d := h.kp fun _ _ z => Same.tup e z
mutual
theorem Tn.dg : ∀ {v : V} {d : PyData}, Tn K H v d → Dg K H v d
  | _, _, .non => .non
  | _, _, .int i _ => .int _
  | _, _, .str x => .str x
  | _, _, .tup h a => .tup h (TnAll.dg a)
theorem TnAll.dg : ∀ {v : List V} {d : List PyData}, TnAll K H v d → DgAll K H v d
  | _, _, .nil => .nil
  | _, _, .cons a b => .cons (Tn.dg a) (TnAll.dg b)
end
mutual
theorem Tn.dp : ∀ {v : V} {d : PyData}, Tn K H v d → Dp K H v d
  | _, _, .non => .non
  | _, _, .int i _ => .int _
  | _, _, .str x => .str x
  | _, _, .tup h a => .tup h (TnAll.dp a)
theorem TnAll.dp : ∀ {v : List V} {d : List PyData}, TnAll K H v d → DpAll K H v d
  | _, _, .nil => .nil
  | _, _, .cons a b => .cons (Tn.dp a) (TnAll.dp b)
end
mutual
theorem Tn.dv {N : Addr → Prop} : ∀ {v : V} {d : PyData}, Tn K H v d → Dv K N H v d
  | _, _, .non => .non
  | _, _, .int i _ => .int _
  | _, _, .str x => .str x
  | _, _, .tup h a => .tup h (TnAll.dv a)
theorem TnAll.dv {N : Addr → Prop} : ∀ {v : List V} {d : List PyData}, TnAll K H v d → DvAll K N H v d
  | _, _, .nil => .nil
  | _, _, .cons a b => .cons (Tn.dv a) (TnAll.dv b)
end
theorem TnAll.len : ∀ {vs : List V} {ds : List PyData}, TnAll K H vs ds → vs.length = ds.length
  | _, _, .nil => rfl
  | _, _, .cons a b => congrArg (· + 1) b.len
theorem TnAll.snoc : ∀ {vs : List V} {ds : List PyData} {v : V} {d : PyData}, TnAll K H vs ds → Tn K H v d → TnAll K H (vs ++ [v]) (ds ++ [d])
  | _, _, _, _, .nil, h => .cons h .nil
  | _, _, _, _, .cons a b, h => .cons a (b.snoc h)
theorem TnAll.at : ∀ {vs : List V} {ds : List PyData} {i : Nat} {v : V}, TnAll K H vs ds → vs[i]? = some v → ∃ d, ds[i]? = some d ∧ Tn K H v d
  | _, _, 0, _, .cons a b, h => ⟨_, rfl, by cases h; exact a⟩
  | _, _, i + 1, _, .cons a b, h => TnAll.at (i := i) b h
theorem Tn.two' {a : Addr} {x y : V} {d e : PyData} (h : SqT K H a [x, y]) (h1 : Tn K H x d) (h2 : Tn K H y e) : Tn K H (.ref a) (.tuple [d, e]) := .tup h (.cons h1 (.cons h2 .nil))
mutual
theorem tn_lay : ∀ {v : V} {d : PyData}, Tn K H v d → lowD d = true → d.canLay0 = true
  | _, _, .non, _ => rfl
  | _, _, .int i _, _ => rfl
  | _, _, .str x, h => by
    show x.cps.all (fun d => decide (d < 1114112)) = true
    rw [← Array.all_toList]
    refine List.all_eq_true.mpr fun c hc => decide_eq_true ?_
    have h1 : (x.cps.toList.all fun c => decide (c < 128)) = true := h
    have := of_decide_eq_true (List.all_eq_true.mp h1 c hc)
    omega
  | _, _, .tup _ ha, h => tnAll_lay ha h
theorem tnAll_lay : ∀ {vs : List V} {ds : List PyData}, TnAll K H vs ds → lowAll ds = true → PyData.canLayAll0 ds = true
  | _, _, .nil, _ => rfl
  | _, _, .cons (d := d) (ds := ds) a b, h => by
    have h' : (lowD d && lowAll ds) = true := h
    obtain ⟨h1, h2⟩ := Bool.and_eq_true_iff.mp h'
    show (d.canLay0 && PyData.canLayAll0 ds) = true
    rw [tn_lay a h1, tnAll_lay b h2]
    rfl
end
theorem tn_shaped {v : V} {d : PyData} {w n : Nat} (h : Tn K H v d) (k : OkD w n d) (hn : n ≤ 64) : SeqAt.shaped d = true := by
  unfold SeqAt.shaped
  rw [tn_lay h k.lo, decide_eq_true (Nat.le_trans k.gs.de hn)]
  rfl
end
end Mq

namespace Lw
open PySem PySem.Spec PyProof.Rows L2 Mq
open SX (S)
/-! ### data that are, or are not, nodes -/
def webD (sg : List Nat) : PyData → Bool
  | .str x => allB x.cps.toList sg
  | _ => false
def belowD (m : Nat) : PyData → Bool
  | .int i => decide (0 ≤ i) && decide (i < (m : Int))
  | _ => false
def noneD : PyData → Bool
  | .none => true
  | _ => false
def headD : List PyData → Option Str
  | .str x :: _ => some x
  | _ => none
def belowAllB (m : Nat) (ds : List PyData) : Bool := ((List.range (ds.length - 2)).map fun k => belowD m (ds.getD (k + 2) .none)).all id
def readB (sg : List Nat) (m : Nat) (ds : List PyData) : Bool := decide (ds.length = sg.length + 2) && (decide (headD ds = some ("reads" : Str)) && belowAllB m ds)
def nodeB (sg : List Nat) (m : Nat) (ds : List PyData) : Bool :=
  match headD ds with
  | none => false
  | some x => if decide (x = "stops") = true then decide (ds.length = 2) && webD sg (ds.getD 1 .none) else if decide (x = "none") = true then decide (ds.length = 1)
    else readB sg m ds && (noneD (ds.getD 1 .none) || webD sg (ds.getD 1 .none))
def nodeD (sg : List Nat) (m : Nat) : PyData → Bool
  | .tuple ds => nodeB sg m ds
  | _ => false
theorem webD_no {sg : List Nat} {d : PyData} (h : ∀ x, d ≠ .str x) : webD sg d = false := by
  cases d with
  | str x => exact (h x rfl).elim
  | _ => rfl
theorem nodeD_no {sg : List Nat} {m : Nat} {d : PyData} (h : ∀ x, d ≠ .tuple x) : nodeD sg m d = false := by
  cases d with
  | tuple x => exact (h x rfl).elim
  | _ => rfl
theorem kit_noT {K : PySem.W.Frag} {a : String} (m : a ∈ sevenT) (n : a ≠ "tuple") : PySem.W.kitOne K (.type a) (.type "tuple") = some false :=
  kit_ty (by rw [kit_known a "tuple" m (by simp), decide_eq_false n])
theorem dg_int {K : PySem.W.Frag} {H : Hp} {v : V} {d : PyData} (h : Dg K H v d) : (∃ i, v = .int i ∧ d = .int i) ∨ (∃ b, v = .bl b ∧ d = .bool b) ∨ ((∃ a, TyX K H v (.type a) ∧ PySem.W.kitOne K (.type a) (.type "int") = some false) ∧ ∀ m, belowD m d = false) := by
  cases h with
  | non => exact Or.inr (Or.inr ⟨⟨_, .base .non, kit_ty (by decide +kernel)⟩, fun _ => rfl⟩)
  | bl b => exact Or.inr (Or.inl ⟨b, rfl, rfl⟩)
  | int i => exact Or.inl ⟨i, rfl, rfl⟩
  | str x => exact Or.inr (Or.inr ⟨⟨_, .base (.str x), kit_ty (by decide +kernel)⟩, fun _ => rfl⟩)
  | lst _ hs _ => exact Or.inr (Or.inr ⟨⟨_, ty_list hs, kit_ty (by decide +kernel)⟩, fun _ => rfl⟩)
  | tup hs _ => exact Or.inr (Or.inr ⟨⟨_, ty_tup hs, kit_ty (by decide +kernel)⟩, fun _ => rfl⟩)
  | dct hs _ => exact Or.inr (Or.inr ⟨⟨_, .base (.dK hs), kit_ty (by decide +kernel)⟩, fun _ => rfl⟩)
theorem dg_none {K : PySem.W.Frag} {H : Hp} {v : V} {d : PyData} (h : Dg K H v d) : decide (v = .non) = noneD d := by
  cases h with
  | non => rfl
  | bl b => exact decide_eq_false fun z => nomatch z
  | int i => exact decide_eq_false fun z => nomatch z
  | str x => exact decide_eq_false fun z => nomatch z
  | lst _ hs _ => exact decide_eq_false fun z => nomatch z
  | tup hs _ => exact decide_eq_false fun z => nomatch z
  | dct hs _ => exact decide_eq_false fun z => nomatch z
def isNumB : PyData → Bool
  | .int _ => true
  | _ => false
def spNumA (K : PySem.W.Frag) : Sp := fun vs H Q _ => ∃ (v : V) (d : PyData), vs = [v] ∧ Dg K H v d ∧ Q (.bl (isNumB d)) H
def spBelowA (K : PySem.W.Frag) : Sp := fun vs H Q _ => ∃ (v : V) (d : PyData) (m : Nat), vs = [v, .int (m : Nat)] ∧ Dg K H v d ∧ Q (.bl (belowD m d)) H
def spHeadA (K : PySem.W.Frag) : Sp := fun vs H Q _ => ∃ (v : V) (d : PyData), vs = [v] ∧ Dg K H v d ∧ Q (.bl (match d with | .tuple ds => (headD ds).isSome | _ => false)) H
def spReadingA (K : PySem.W.Frag) : Sp := fun vs H Q _ => ∃ (sg : List Nat) (a : Addr) (xs : List V) (ds : List PyData) (m : Nat), vs = [.str (S sg), .ref a, .int (m : Nat)] ∧
  SqT K H a xs ∧ DgAll K H xs ds ∧ (headD ds).isSome = true ∧ xs.length ≤ 90000 ∧ sg.length ≤ 90000 ∧ ∀ H', Same H H' → Q (.bl (readB sg m ds)) H'
section
variable {P : Program} {w : World} {K : PySem.W.Frag} {mg : Str → Option Value} {base : Heap}
theorem ok_is_numberA {f : Addr} {fd : FuncData} (F : Fun K "is_number" "is_number" s_is_number f fd) (B : Blt mg) : FnOk P w K mg base CX0 1 f fd ["thing"] (spNumA K) := by
  refine F.ok sc_is_number (fun vs H Q E h => ?_) (fun cdv A outer s H vs Q E hr h => ?_)
  · obtain ⟨v, _, rfl, _⟩ := h
    rfl
  · obtain ⟨v, d, rfl, hd, q⟩ := h
    refine ⟨_, pss_one (ps_ret (pe_and (pe_callB call_isi (by rfl) B.isi (by decide +kernel) (pa_cons (pv 0) (pa_cons (pe_bltn (v := .ty "int") (by rfl) B.int (by decide +kernel) rfl) pa_nil))) (pe_one (pe_not (pe_callB call_isi (by rfl) B.isi (by decide +kernel) (pa_cons (pv 0) (pa_cons (pe_bltn (v := .ty "bool") (by rfl) B.bool (by decide +kernel) rfl) pa_nil))))))), ?_⟩
    rcases dg_int hd with ⟨i, rfl, rfl⟩ | ⟨b, rfl, rfl⟩ | ⟨⟨a, t, k⟩, nx⟩
    · exact ⟨.int i, rfl, .int i, .ty "int", _, _, true, rfl, .ty _, .base (.int _), kit_ty (by decide +kernel), true, rfl, iteT ⟨.int i, rfl, .int i, .ty "bool", _, _, false, rfl, .ty _, .base (.int _), kit_ty (by decide +kernel), false, rfl, q⟩⟩
    · exact ⟨.bl b, rfl, .bl b, .ty "int", _, _, true, rfl, .ty _, .base (.bl _), kit_ty (by decide +kernel), true, rfl, iteT ⟨.bl b, rfl, .bl b, .ty "bool", _, _, true, rfl, .ty _, .base (.bl _), kit_ty (by decide +kernel), true, rfl, q⟩⟩
    · refine ⟨_, rfl, _, .ty "int", _, _, false, rfl, .ty _, t, k, false, rfl, iteF ?_⟩
      have e : isNumB d = false := by
        cases d with
        | int i =>
          have := nx (i.toNat + 1)
          cases hd
          cases t with
          | base t => cases t; exact absurd k (by rw [kit_ty (a := "int") (b := "int") (r := true) (by decide +kernel)]; simp)
        | _ => rfl
      rw [e] at q
      exact q
end
end Lw

namespace Lw
open PySem PySem.Spec PyProof.Rows L2 Mq
open SX (S)
theorem head_some {ds : List PyData} {x : Str} (h : headD ds = some x) : ∃ es, ds = .str x :: es := by
  unfold headD at h
  split at h
  · cases h
    exact ⟨_, rfl⟩
  · cases h
/-- the head of what is a tuple with a text ahead -/
theorem head_at {K : PySem.W.Frag} {H : Hp} {xs : List V} {ds : List PyData} {x : Str} (h : headD ds = some x) (ha : DgAll K H xs ds) : ∃ ys, xs = .str x :: ys := by
  obtain ⟨es, rfl⟩ := head_some h
  cases ha with
  | cons a b =>
    cases a
    exact ⟨_, rfl⟩
theorem dgall_at {K : PySem.W.Frag} {H : Hp} {xs : List V} {ds : List PyData} {i : Nat} (ha : DgAll K H xs ds) (hi : i < xs.length) : Dg K H xs[i] (ds.getD i .none) := by
  obtain ⟨d, hd, hg⟩ := ha.at (List.getElem?_eq_getElem hi)
  rw [List.getD_eq_getElem?_getD, hd]
  exact hg
section
variable {P : Program} {w : World} {K : PySem.W.Frag} {mg : Str → Option Value} {base : Heap}
theorem ok_is_belowA {f fN : Addr} {fd fdN : FuncData} (F : Fun K "is_below" "is_below" s_is_below f fd) (B : Blt mg)
    (FN : Fun K "is_number" "is_number" s_is_number fN fdN) (gN : mg "is_number" = some (.ref fN)) (bN : Binds K fdN ["thing"] []) : FnOk P w K mg base CX0 2 f fd ["thing", "many"] (spBelowA K) := by
  have GN : FnOk P w K mg base CX0 1 fN fdN ["thing"] (spNumA K) := ok_is_numberA FN B
  refine F.ok sc_is_below (fun vs H Q E h => ?_) (fun cdv A outer s H vs Q E hr h => ?_)
  · obtain ⟨v, d, m, rfl, _⟩ := h
    rfl
  · obtain ⟨v, d, m, rfl, hd, q⟩ := h
    refine ⟨_, pss_one (ps_ret (pe_and (pe_call GN (hr.mono (by decide)) (by rfl) gN FN.kp bN .nil pass0 (pa_cons (pv 0) pa_nil)) (pe_one (pe_chain op_le op_lt pe_int (pv 0) (pv 1))))), ?_⟩
    cases e : isNumB d with
    | false =>
      refine ⟨_, rfl, v, d, rfl, hd, ?_⟩
      rw [e]
      refine ⟨false, rfl, iteF ?_⟩
      have e2 : belowD m d = false := by
        cases d with
        | int i => cases e
        | _ => rfl
      rw [e2] at q
      exact q
    | true =>
      cases d with
      | int i =>
        cases hd
        refine ⟨_, rfl, _, _, rfl, .int i, true, rfl, iteT ⟨_, rfl, 0, i, rfl, rfl, _, rfl, ?_⟩⟩
        have q : Q (.bl (decide (0 ≤ i) && decide (i < (m : Int)))) H := q
        cases e0 : decide (0 ≤ i) with
        | false =>
          rw [e0] at q
          exact iteF q
        | true =>
          rw [e0] at q
          exact iteT ⟨_, rfl, i, _, rfl, rfl, q⟩
      | _ => cases e
theorem ok_has_headA {f : Addr} {fd : FuncData} (F : Fun K "has_head" "has_head" s_has_head f fd) (B : Blt mg) : FnOk P w K mg base CX0 1 f fd ["thing"] (spHeadA K) := by
  refine F.ok sc_has_head (fun vs H Q E h => ?_) (fun cdv A outer s H vs Q E hr h => ?_)
  · obtain ⟨v, m, rfl, _⟩ := h
    rfl
  · obtain ⟨v, d, rfl, hd, q⟩ := h
    refine ⟨_, pss_one (ps_ret (pe_and (pe_callB call_isi (by rfl) B.isi (by decide +kernel) (pa_cons (pv 0) (pa_cons (pe_bltn (v := .ty "tuple") (by rfl) B.tuple (by decide +kernel) rfl) pa_nil))) (pe_and (pe_cmpR op_gt (pe_callB call_len (by rfl) B.len (by decide +kernel) (pa_cons (pv 0) pa_nil)) pe_int (nomark _)) (pe_one (pe_callB call_isi (by rfl) B.isi (by decide +kernel) (pa_cons (pe_ix ix_tup (pv 0) pe_int (fun _ _ => rfl)) (pa_cons (pe_bltn (v := .ty "str") (by rfl) B.str (by decide +kernel) rfl) pa_nil))))))), ?_⟩
    rcases dg_tup hd with ⟨p, xs, ds, rfl, rfl, hp, ha⟩ | ⟨⟨a, t, m, n⟩, nx⟩
    · refine ⟨_, rfl, _, .ty "tuple", _, _, true, rfl, .ty _, ty_tup hp, kit_ty (by decide +kernel), true, rfl, iteT ⟨_, rfl, _, _, rfl, len_tup hp, _, _, rfl, rfl, ?_⟩⟩
      cases ha with
      | nil => exact ⟨false, rfl, iteF q⟩
      | @cons v xs d ds h1 ha =>
        refine ⟨true, congrArg V.bl (decide_eq_true (by show (0 : Int) < ((v :: xs).length : Nat); rw [List.length_cons]; omega)), iteT ⟨_, rfl, p, _, 0, v, rfl, rfl, hp, atI_nat (j := 0) rfl, v, .ty "str", ?_⟩⟩
        rcases dg_str h1 with ⟨l, rfl, rfl⟩ | ⟨⟨a, t, m, n⟩, nx⟩
        · exact ⟨_, _, true, rfl, .ty _, .base (.str _), kit_self, q⟩
        · have e : headD (d :: ds) = none := by
            cases d with
            | str x => exact (nx x rfl).elim
            | _ => rfl
          refine ⟨_, _, false, rfl, .ty _, t, kit_no m n, ?_⟩
          dsimp only at q
          rw [e] at q
          exact q
    · refine ⟨_, rfl, _, .ty "tuple", _, _, false, rfl, .ty _, t, kit_noT m n, false, rfl, iteF ?_⟩
      cases d with
      | tuple x => exact (nx x rfl).elim
      | _ => exact q
theorem ok_is_readingA {f fB : Addr} {fd fdB : FuncData} (F : Fun K "is_reading" "is_reading" s_is_reading f fd) (B : Blt mg)
    (FB : Fun K "is_below" "is_below" s_is_below fB fdB) (gB : mg "is_below" = some (.ref fB)) (bB : Binds K fdB ["thing", "many"] [])
    (GB : FnOk P w K mg base CX0 2 fB fdB ["thing", "many"] (spBelowA K)) : FnOk P w K mg base CX0 3 f fd ["letters", "node", "many"] (spReadingA K) := by
  refine F.ok sc_is_reading (fun vs H Q E h => ?_) (fun cdv A outer s H vs Q E hr h => ?_)
  · obtain ⟨_, _, _, _, _, rfl, _⟩ := h
    rfl
  · obtain ⟨sg, a, xs, ds, m, rfl, ha, hall, hh, hxl, hsl, q⟩ := h
    refine ⟨_, (pss_cons (ps_if (PW.pt (pw_or (pt_cmpR op_ne (pe_callB call_len (by rfl) B.len (by decide +kernel) (pa_cons (pv 1) pa_nil)) (pe_op op_add (pe_callB call_len (by rfl) B.len (by decide +kernel) (pa_cons (pv 0) pa_nil)) pe_int) (nomark _)) (pw_or1 (pt_cmpR op_ne (pe_ix ix_tup (pv 1) pe_int (fun _ _ => rfl)) pe_str (nomark _))))) (pss_one (ps_ret pe_bl)) pss_nil)
      (pss_one (ps_ret (pe_callB (cr_all rfl) (by rfl) B.all (by decide +kernel) (pa_cons (pe_lc (own := [("number", 3)]) (g := gName 3) (tt := tYes) rfl sc_is_reading.nd (pi_tup (pe_slice sl_tup (pv 1) (po_some pe_int) po_none)) (blkOk_by (own := [("number", 3)]) (N := ["letters", "node", "many", "number"]) (sc := defScope s_is_reading) (by decide +kernel)) (fun _ _ _ _ _ => pg_name (i := 3) sc_is_reading.nd rfl (Or.inl rfl)) (fun _ _ _ _ _ => pts_nil)
        (fun _ _ _ _ _ => (pe_call GB (hr.mono (by decide)) (by rfl) gB FB.kp bB .nil pass0 (pa_cons (pv 3) (pa_cons (pv 2) pa_nil))))) pa_nil))))), ?_⟩
    obtain ⟨x, hx⟩ := Option.isSome_iff_exists.mp hh
    obtain ⟨ys, rfl⟩ := head_at hx hall
    have hl := hall.len
    have e1 : decide (V.int ((V.str x :: ys).length : Nat) = V.int ((sg.length : Nat) + 2)) = decide (ds.length = sg.length + 2) := by
      rw [dec_int, hl]
      exact decide_eq_decide.mpr ⟨fun h => by omega, fun h => by omega⟩
    refine ⟨_, rfl, _, _, rfl, len_tup ha, _, rfl, _, _, rfl, len_S (by omega), _, _, rfl, rfl, rfl, _, rfl, ?_⟩
    rw [e1]
    unfold readB at q
    cases e2 : decide (ds.length = sg.length + 2) with
    | false =>
      rw [e2] at q
      exact iteT (iteT (q H (Same.refl H)))
    | true =>
      rw [e2] at q
      have el : ds.length = sg.length + 2 := of_decide_eq_true e2
      refine iteF ⟨.ref a, rfl, a, _, 0, .str x, rfl, rfl, ha, atI_nat (j := 0) rfl, rfl, _, rfl, ?_⟩
      have e3 : decide (V.str x = V.str "reads") = decide (headD ds = some ("reads" : Str)) := by
        rw [hx]
        exact decide_eq_decide.mpr ⟨fun h => by rw [V.str.inj h], fun h => by rw [Option.some.inj h]⟩
      show (if (!decide (V.str x = V.str "reads")) = true then _ else _)
      rw [e3]
      cases e4 : decide (headD ds = some ("reads" : Str)) with
      | false =>
        rw [e4] at q
        exact ifT rfl (q H (Same.refl H))
      | true =>
        rw [e4] at q
        have q : ∀ H', Same H H' → Q (.bl (belowAllB m ds)) H' := q
        refine ifF rfl ?_
        unfold tNext tRet tCB tCons
        dsimp only
        have ha' : cutV (V.str x :: ys) (some 2) none = (V.str x :: ys).drop 2 := cut_back _ 2
        have hdl : ((V.str x :: ys).drop 2).length = ds.length - 2 := by rw [List.length_drop, hl]
        refine lc_mapJ (n := ds.length - 2) (Y := YAt ((V.str x :: ys).drop 2)) (fun k => .bl (belowD m (ds.getD (k + 2) .none))) (by omega) (fun R k => ?_) ?_ ?_
        · refine ⟨.ref a, rfl, 2, rfl, a, _, rfl, ha, ?_, fun p hp => ?_⟩
          · rintro ⟨h2, _⟩
            rw [show HT.sIx (V.str x :: ys).length 0 (some 2) = 2 by show HT.sIx _ 0 (some ((2 : Nat) : Int)) = 2; rw [HT.sIx_nat, hl]; omega] at h2
            cases h2
          · rw [ha']
            have hw := walk_tup (K := K) (a := p) (xs := (V.str x :: ys).drop 2)
            rw [hdl] at hw
            have hq : SqT K (upd H p (.tup ((V.str x :: ys).drop 2))) p ((V.str x :: ys).drop 2) := Or.inl (Or.inl upd_same)
            exact ⟨p, rfl, ⟨_, hq⟩, k _ _ _ hw (fun H' g e => Same.tup e g) (same_new hp) hq⟩
        · rintro i v H' H'' R hi sm ⟨rfl, hv⟩ k
          have hi2 : i + 2 < (V.str x :: ys).length := by omega
          have hv' : v = (V.str x :: ys)[i + 2] := by
            have h1 : ((V.str x :: ys).drop 2)[i]? = some v := hv
            rw [List.getElem?_drop, Nat.add_comm, List.getElem?_eq_getElem hi2] at h1
            exact (Option.some.inj h1).symm
          have hg : Dg K H'' v (ds.getD (i + 2) .none) := by
            rw [hv']
            exact (dgall_at hall hi2).same sm
          exact ⟨rfl, _, rfl, _, rfl, v, _, m, rfl, hg, k _ (Same.refl _)⟩
        · intro D H' hD sm hl'
          refine ⟨D, (List.range (ds.length - 2)).map fun k => belowD m (ds.getD (k + 2) .none), rfl, SqL.of ?_, ?_⟩
          · rw [List.map_map]
            exact hl'
          · exact q H' sm
end
end Lw

namespace Lw
open PySem PySem.Spec PyProof.Rows L2 Mq
open SX (S)
theorem word_any {K : PySem.W.Frag} {sg : List Nat} {v : V} {d : PyData} {H : Hp} {Q : VK} {E : XK} (hd : Dg K H v d) (hw : d.weight ≤ 90000) (q : ∀ H', Same H H' → Q (.bl (webD sg d)) H') : spWord K [.str (S sg), v] H Q E := by
  refine ⟨sg, v, rfl, ?_⟩
  rcases dg_str hd with ⟨l, rfl, rfl⟩ | ⟨⟨a, t, m, n⟩, nx⟩
  · have hl : l.length ≤ 90000 := hw
    exact Or.inl ⟨l, rfl, by omega, q⟩
  · rw [webD_no nx] at q
    exact Or.inr ⟨⟨a, t, m, n⟩, q⟩
theorem weight_mem : ∀ {ds : List PyData} {d : PyData}, d ∈ ds → d.weight ≤ PyData.weightAll ds
  | e :: ds, d, h => by
    show d.weight ≤ e.weight + 1 + PyData.weightAll ds
    rcases List.mem_cons.mp h with rfl | h
    · omega
    · have := weight_mem h
      omega
theorem weight_len : ∀ ds : List PyData, ds.length ≤ PyData.weightAll ds
  | [] => Nat.zero_le _
  | e :: ds => by
    show ds.length + 1 ≤ e.weight + 1 + PyData.weightAll ds
    have := weight_len ds
    omega
theorem weight_at {ds : List PyData} {i : Nat} : (ds.getD i .none).weight ≤ PyData.weightAll ds + 10 := by
  rw [List.getD_eq_getElem?_getD]
  cases h : ds[i]? with
  | none =>
    show PyData.weight .none ≤ _
    have : PyData.weight .none ≤ 10 := by decide +kernel
    omega
  | some d =>
    have := weight_mem (List.mem_of_getElem? h)
    show d.weight ≤ _
    omega
def spNodeA (K : PySem.W.Frag) : Sp := fun vs H Q _ => ∃ (sg : List Nat) (v : V) (d : PyData) (m : Nat), vs = [.str (S sg), v, .int (m : Nat)] ∧ Dg K H v d ∧ d.weight ≤ 80000 ∧ sg.length ≤ 90000 ∧ ∀ H', Same H H' → Q (.bl (nodeD sg m d)) H'
section
variable {P : Program} {w : World} {K : PySem.W.Frag} {mg : Str → Option Value} {base : Heap}
theorem ok_is_reader_nodeA {f fH fR fW : Addr} {fd fdH fdR fdW : FuncData} (F : Fun K "is_reader_node" "is_reader_node" s_is_reader_node f fd) (B : Blt mg)
    (FH : Fun K "has_head" "has_head" s_has_head fH fdH) (gH : mg "has_head" = some (.ref fH)) (bH : Binds K fdH ["thing"] [])
    (FR : Fun K "is_reading" "is_reading" s_is_reading fR fdR) (gR : mg "is_reading" = some (.ref fR)) (bR : Binds K fdR ["letters", "node", "many"] [])
    (FW : Fun K "is_web" "is_web" s_is_web fW fdW) (gW : mg "is_web" = some (.ref fW)) (bW : Binds K fdW ["letters", "thing"] [])
    (GR : FnOk P w K mg base CX0 3 fR fdR ["letters", "node", "many"] (spReadingA K)) (GW : FnOk P w K mg base CX0 2 fW fdW ["letters", "thing"] (spWord K)) :
    FnOk P w K mg base CX0 4 f fd ["letters", "node", "many"] (spNodeA K) := by
  have GH : FnOk P w K mg base CX0 1 fH fdH ["thing"] (spHeadA K) := ok_has_headA FH B
  refine F.ok sc_is_reader_node (fun vs H Q E h => ?_) (fun cdv A outer s H vs Q E hr h => ?_)
  · obtain ⟨_, _, _, _, rfl, _⟩ := h
    rfl
  · obtain ⟨sg, v, d, m, rfl, hd, hw, hsl, q⟩ := h
    refine ⟨_, (pss_cons (ps_if (pt_not (pt_val (pe_call GH (hr.mono (by decide)) (by rfl) gH FH.kp bH .nil pass0 (pa_cons (pv 1) pa_nil)))) (pss_one (ps_ret pe_bl)) pss_nil)
      (pss_cons (ps_if (pt_cmpR op_eq (pe_ix ix_tup (pv 1) pe_int (fun _ _ => rfl)) pe_str (nomark _)) (pss_one (ps_ret (pe_and (pe_cmpR op_eq (pe_callB call_len (by rfl) B.len (by decide +kernel) (pa_cons (pv 1) pa_nil)) pe_int (nomark _)) (pe_one (pe_call GW (hr.mono (by decide)) (by rfl) gW FW.kp bW .nil pass0 (pa_cons (pv 0) (pa_cons (pe_ix ix_tup (pv 1) pe_int (fun _ _ => rfl)) pa_nil))))))) pss_nil)
      (pss_cons (ps_if (pt_cmpR op_eq (pe_ix ix_tup (pv 1) pe_int (fun _ _ => rfl)) pe_str (nomark _)) (pss_one (ps_ret (pe_cmpR op_eq (pe_callB call_len (by rfl) B.len (by decide +kernel) (pa_cons (pv 1) pa_nil)) pe_int (nomark _)))) pss_nil)
      (pss_one (ps_ret (pe_and (pe_call GR (hr.mono (by decide)) (by rfl) gR FR.kp bR .nil pass0 (pa_cons (pv 0) (pa_cons (pv 1) (pa_cons (pv 2) pa_nil)))) (pe_one (pe_or (pe_cmpR op_isN (pe_ix ix_tup (pv 1) pe_int (fun _ _ => rfl)) pe_non (nomark _)) (pe_one (pe_call GW (hr.mono (by decide)) (by rfl) gW FW.kp bW .nil pass0 (pa_cons (pv 0) (pa_cons (pe_ix ix_tup (pv 1) pe_int (fun _ _ => rfl)) pa_nil)))))))))))), ?_⟩
    refine ⟨_, rfl, v, d, rfl, hd, _, rfl, ?_⟩
    rcases dg_tup hd with ⟨p, xs, ds, rfl, rfl, hp, ha⟩ | ⟨_, nx⟩
    rotate_left
    · rw [nodeD_no nx] at q
      cases d with
      | tuple x => exact (nx x rfl).elim
      | _ => exact ifT rfl (q H (Same.refl H))
    have q : ∀ H', Same H H' → Q (.bl (nodeB sg m ds)) H' := q
    have hwd : PyData.weightAll ds ≤ 80000 := hw
    unfold nodeB at q
    rcases Option.eq_none_or_eq_some (headD ds) with hx | ⟨x, hx⟩
    · rw [hx] at q
      exact ifT (by dsimp only; rw [hx]; rfl) (q H (Same.refl H))
    · rw [hx] at q
      dsimp only at q
      refine ifF (by dsimp only; rw [hx]; rfl) ?_
      obtain ⟨ys, rfl⟩ := head_at hx ha
      have hl := ha.len
      have hlx : (V.str x :: ys).length ≤ 80000 := by
        rw [hl]
        exact Nat.le_trans (weight_len ds) hwd
      have a0 : atI (V.str x :: ys) 0 = some (.str x) := atI_nat (j := 0) rfl
      have eS : ∀ z : Str, decide (V.str x = V.str z) = decide (x = z) := fun z => decide_eq_decide.mpr ⟨V.str.inj, fun e => by rw [e]⟩
      have eL : ∀ k : Nat, decide (V.int ((V.str x :: ys).length : Nat) = V.int (k : Nat)) = decide (ds.length = k) := fun k => by
        rw [dec_int, hl]
        exact decide_eq_decide.mpr ⟨fun h => by omega, fun h => by omega⟩
      refine ⟨_, rfl, p, _, 0, .str x, rfl, rfl, hp, a0, rfl, _, rfl, ?_⟩
      rw [eS]
      cases e1 : decide (x = "stops") with
      | true =>
        rw [e1, if_pos rfl] at q
        refine ifT rfl ⟨_, rfl, _, _, rfl, len_tup hp, rfl, ?_⟩
        rw [show decide (V.int ((V.str x :: ys).length : Nat) = V.int 2) = decide (ds.length = 2) from eL 2]
        refine ⟨_, rfl, ?_⟩
        cases e2 : decide (ds.length = 2) with
        | false =>
          rw [e2] at q
          exact ifF rfl (q H (Same.refl H))
        | true =>
          rw [e2] at q
          have h2 : 1 < (V.str x :: ys).length := by
            have : ds.length = 2 := of_decide_eq_true e2
            omega
          refine ifT rfl ⟨_, rfl, _, rfl, p, _, 1, _, rfl, rfl, hp, atI_nat (j := 1) (List.getElem?_eq_getElem h2), ?_⟩
          dsimp only [tNil, tCons, tC]
          refine word_any (dgall_at ha h2) ?_ q
          have := weight_at (ds := ds) (i := 1)
          omega
      | false =>
        rw [e1, if_neg (by decide)] at q
        refine ifF rfl ?_
        refine ⟨_, rfl, p, _, 0, .str x, rfl, rfl, hp, a0, rfl, _, rfl, ?_⟩
        rw [eS]
        cases e2 : decide (x = "none") with
        | true =>
          rw [e2, if_pos rfl] at q
          refine ifT rfl ⟨_, rfl, _, _, rfl, len_tup hp, rfl, ?_⟩
          rw [show decide (V.int ((V.str x :: ys).length : Nat) = V.int 1) = decide (ds.length = 1) from eL 1]
          exact q H (Same.refl H)
        | false =>
          rw [e2, if_neg (by decide)] at q
          refine ifF rfl ?_
          refine ⟨_, rfl, _, rfl, _, rfl, sg, p, _, ds, m, rfl, hp, ha, by rw [hx]; rfl, by omega, hsl, fun H1 s1 => ⟨_, rfl, ?_⟩⟩
          cases e3 : readB sg m ds with
          | false =>
            rw [e3] at q
            exact iteF (q H1 s1)
          | true =>
            rw [e3] at q
            have h2 : 1 < (V.str x :: ys).length := by
              unfold readB at e3
              have : ds.length = sg.length + 2 := of_decide_eq_true (Bool.and_eq_true_iff.mp e3).1
              omega
            have hp1 := Same.tup s1 hp
            have a1 : atI (V.str x :: ys) 1 = some (V.str x :: ys)[1] := atI_nat (j := 1) (List.getElem?_eq_getElem h2)
            have g1 := dgall_at ha h2
            refine iteT ⟨_, rfl, p, _, 1, _, rfl, rfl, hp1, a1, rfl, ?_⟩
            rw [dg_none g1]
            refine ⟨_, rfl, ?_⟩
            cases e4 : noneD (ds.getD 1 .none) with
            | true =>
              rw [e4] at q
              exact ifT rfl (q H1 s1)
            | false =>
              rw [e4] at q
              refine ifF rfl ⟨_, rfl, _, rfl, p, _, 1, _, rfl, rfl, hp1, a1, ?_⟩
              dsimp only [tNil, tCons, tC]
              refine word_any (g1.same s1) ?_ fun H2 s2 => q H2 (s1.trans s2)
              have := weight_at (ds := ds) (i := 1)
              omega
end
end Lw

namespace Lw
open PySem PySem.Spec PyProof.Rows L2 Mq
open SX (S)
/-! ### what is wrong of two values -/
inductive Wr
  | letters
  | nodes
  | num (k : Nat)
def Wr.v : Wr → V
  | .letters => .str "letters"
  | .nodes => .str "nodes"
  | .num k => .int (k : Nat)
def Wr.d : Wr → PyData
  | .letters => .str "letters"
  | .nodes => .str "nodes"
  | .num k => .int (k : Nat)
def lettersD : PyData → Bool
  | .str x => lettersB x.cps.toList
  | _ => false
theorem lettersD_no {d : PyData} (h : ∀ x, d ≠ .str x) : lettersD d = false := by
  cases d with
  | str x => exact (h x rfl).elim
  | _ => rfl
def firstBad (p : PyData → Bool) : List PyData → Nat → Option Nat
  | [], _ => none
  | d :: ds, k => if p d = true then firstBad p ds (k + 1) else some k
theorem first_step {p : PyData → Bool} {ds : List PyData} {i : Nat} {d : PyData} (h : ds[i]? = some d) : firstBad p (ds.drop i) i = if p d = true then firstBad p (ds.drop (i + 1)) (i + 1) else some i := by
  have hi : i < ds.length := by
    rcases Nat.lt_or_ge i ds.length with h2 | h2
    · exact h2
    · rw [List.getElem?_eq_none h2] at h
      cases h
  have e : ds[i] = d := by
    rw [List.getElem?_eq_getElem hi] at h
    exact Option.some.inj h
  rw [List.drop_eq_getElem_cons hi, e]
  rfl
def bodyN (sg : List Nat) : PyData → Option Wr
  | .tuple ds => if ds.isEmpty = true then some .nodes else (firstBad (nodeD sg ds.length) ds 0).map .num
  | _ => some .nodes
def dueM (l f : PyData) : Option Wr :=
  match l with
  | .str x => if lettersB x.cps.toList = true then bodyN x.cps.toList f else some .letters
  | _ => some .letters
theorem due_str (sg : List Nat) (f : PyData) : dueM (.str (S sg)) f = if lettersB sg = true then bodyN sg f else some .letters := rfl
theorem due_no {l f : PyData} (h : ∀ x, l ≠ .str x) : dueM l f = some .letters := by
  cases l with
  | str x => exact (h x rfl).elim
  | _ => rfl
theorem bodyN_no {sg : List Nat} {f : PyData} (h : ∀ x, f ≠ .tuple x) : bodyN sg f = some .nodes := by
  cases f with
  | tuple x => exact (h x rfl).elim
  | _ => rfl
def optW : Option Wr → V
  | none => .non
  | some p => p.v
def optWD : Option Wr → PyData
  | none => .none
  | some p => p.d
theorem walk_enumT {K : PySem.W.Frag} {a : Addr} {xs : List V} : Walk (Iee K a) xs.length (fun H => SqT K H a xs) (YPair (fun i => some (.int (i : Nat))) (fun i => xs[i]?)) := by
  refine ⟨fun i _ hi q => ⟨xs, xs[i], q, by simp [hi]⟩, fun _ q => ⟨xs, q, Nat.le_refl _⟩, fun i H v H' _ q y => ?_⟩
  obtain ⟨T, x, h1, h2, h3, h4⟩ := y
  exact ⟨T, .int (i : Nat), x, h1, h2, h3, rfl, h4 xs q⟩
theorem empty_len {xs : List V} {ds : List PyData} (h : xs.length = ds.length) : xs.isEmpty = ds.isEmpty := by
  cases xs <;> cases ds <;> first | rfl | cases h
def spWrongA (K : PySem.W.Frag) (fn : Addr) : Sp := fun vs H Q _ => ∃ (v1 v2 : V) (d1 d2 : PyData), vs = [v1, v2, .ref fn, .str "nodes", .non] ∧ Dg K H v1 d1 ∧ Dg K H v2 d2 ∧ d1.weight ≤ 80000 ∧ d2.weight ≤ 80000 ∧ ∀ H', Same H H' → Q (optW (dueM d1 d2)) H'
section
variable {P : Program} {w : World} {K : PySem.W.Frag} {mg : Str → Option Value} {base : Heap}
theorem ok_wrong_partA {f fL fN : Addr} {fd fdL fdN : FuncData} (F : FunD K "wrong_part" "wrong_part" (defArgs s_wrong_part) (defBody s_wrong_part) (defScope s_wrong_part) [.str "nodes", .non] [] f fd) (B : Blt mg)
    (FL : Fun K "is_letters" "is_letters" s_is_letters fL fdL) (gL : mg "is_letters" = some (.ref fL)) (bL : Binds K fdL ["thing"] [])
    (GL : FnOk P w K mg base CX0 2 fL fdL ["thing"] (spLetters K))
    (FN : Fun K "is_reader_node" "is_reader_node" s_is_reader_node fN fdN) (bN : Binds K fdN ["letters", "node", "many"] [])
    (GN : FnOk P w K mg base CX0 4 fN fdN ["letters", "node", "many"] (spNodeA K)) :
    FnOk P w K mg base CX0 5 f fd ["letters", "nodes", "is_node", "word", "most"] (spWrongA K fN) := by
  refine F.ok sc_wrong_part (fun vs H Q E h => ?_) (fun cdv A outer s H vs Q E hr h => ?_)
  · obtain ⟨_, _, _, _, rfl, _⟩ := h
    rfl
  · obtain ⟨v1, v2, d1, d2, rfl, g1, g2, hw1, hw2, q⟩ := h
    have hu : (A.deeper (envOfC "wrong_part" (defScope s_wrong_part) s.heap.objs.size f cdv)).units + 64 < cLine := by
      have := hr.units
      omega
    have hu0 : (A.deeper (envOfC "wrong_part" (defScope s_wrong_part) s.heap.objs.size f cdv)).units < cLine := by omega
    refine ⟨_, (pss_cons (ps_if (pt_not (pt_val (pe_call GL (hr.mono (by decide)) (by rfl) gL FL.kp bL .nil pass0 (pa_cons (pv 0) pa_nil)))) (pss_one (ps_ret pe_str)) pss_nil)
      (pss_cons (ps_if (PW.pt (pw_or (pt_not (pt_val (pe_callB call_isi (by rfl) B.isi (by decide +kernel) (pa_cons (pv 1) (pa_cons (pe_bltn (v := .ty "tuple") (by rfl) B.tuple (by decide +kernel) rfl) pa_nil))))) (pw_or (pt_cmpR (op_eqTup0 hu0) (pv 1) (pe_tup pa_nil) (nomark _)) (pw_or1 (PW.pt (pw_and (pt_cmpR op_notN (pv 4) pe_non (nomark _)) (pw_and1 (pt_cmpR op_gt (pe_callB call_len (by rfl) B.len (by decide +kernel) (pa_cons (pv 1) pa_nil)) (pv 4) (nomark _))))))))) (pss_one (ps_ret (pv 3))) pss_nil)
      (pss_cons (ps_for (passes_of rfl) rfl (pi_enumT (by rfl) B.enumerate (pa_cons (pv 1) pa_nil)) (pg_tup rfl (pgs_cons (pg_name (i := 5) sc_wrong_part.nd rfl (Or.inl rfl)) (pgs_cons (pg_name (i := 6) sc_wrong_part.nd rfl (Or.inl rfl)) pgs_nil)))
        (pss_one (ps_if (pt_not (pt_val (pe_callL (i := 2) GN (hr.mono (by decide)) rfl (Or.inl rfl) FN.kp bN .nil pass0 (pa_cons (pv 0) (pa_cons (pv 6) (pa_cons (pe_callB call_len (by rfl) B.len (by decide +kernel) (pa_cons (pv 1) pa_nil)) pa_nil)))))) (pss_one (ps_ret (pv 5))) pss_nil)))
      (pss_one (ps_ret pe_non))))), ?_⟩
    refine ⟨_, rfl, _, rfl, ?_⟩
    rcases dg_str g1 with ⟨sg, rfl, rfl⟩ | ⟨⟨a, t, m, n⟩, nx⟩
    rotate_left
    · rw [due_no nx] at q
      exact Or.inr ⟨⟨a, t, m, n⟩, fun H1 s1 => ⟨_, rfl, ifT rfl (q H1 s1)⟩⟩
    have hsl : sg.length ≤ 80000 := hw1
    rw [due_str] at q
    refine Or.inl ⟨sg, rfl, by omega, fun H1 s1 => ⟨_, rfl, ?_⟩⟩
    cases hlet : lettersB sg with
    | false =>
      rw [hlet] at q
      exact ifT rfl (q H1 s1)
    | true =>
      rw [hlet, if_pos rfl] at q
      refine ifF rfl ?_
      rcases dg_tup g2 with ⟨fa, xs, ds, rfl, rfl, hfa, ha⟩ | ⟨_, nx⟩
      rotate_left
      · rw [bodyN_no nx] at q
        have t1 : TyX K H1 v2 (.type (Mq.kindOf d2)) := (g2.same s1).ty
        have n1 : Mq.kindOf d2 ≠ "tuple" := by
          cases d2 with
          | tuple x => exact (nx x rfl).elim
          | _ => simp [Mq.kindOf]
        exact ⟨_, rfl, _, .ty "tuple", _, _, false, rfl, .ty _, t1, kit_noT (kind_in d2) n1, false, rfl, iteT (ifT rfl ⟨_, rfl, q H1 s1⟩)⟩
      have hfa1 := Same.tup s1 hfa
      have hl := ha.len
      have hwd : PyData.weightAll ds ≤ 80000 := hw2
      have hlx : xs.length ≤ 80000 := by
        rw [hl]
        exact Nat.le_trans (weight_len ds) hwd
      refine ⟨_, rfl, _, .ty "tuple", _, _, true, rfl, .ty _, ty_tup hfa1, kit_ty (by decide +kernel), true, rfl, iteF ⟨_, rfl, sz_le (n := 0) (by decide), fun p hp => ?_⟩⟩
      have s2 : Same H (upd H1 p (.tup [])) := s1.trans (same_new hp)
      refine ⟨fa, p, xs, rfl, rfl, Same.tup s2 hfa, Or.inl (Or.inl upd_same), _, rfl, ?_⟩
      rw [empty_len hl]
      unfold bodyN at q
      dsimp only at q
      cases e0 : ds.isEmpty with
      | true =>
        rw [e0, if_pos rfl] at q
        exact ifT rfl (ifT rfl ⟨_, rfl, q _ s2⟩)
      | false =>
        rw [e0, if_neg (by decide)] at q
        refine ifF rfl ⟨_, rfl, rfl, _, rfl, ifF rfl (ifF rfl ?_)⟩
        generalize upd H1 p (.tup []) = H2 at s2 ⊢
        refine ⟨_, rfl, fa, xs, rfl, Same.tup s2 hfa, ?_⟩
        refine for_it (walk_enumT (K := K) (a := fa) (xs := xs)) (fun i σ H' => Same H H' ∧ firstBad (nodeD sg ds.length) (ds.drop i) i = firstBad (nodeD sg ds.length) ds 0 ∧ ∃ o1 o2, σ = [some (.str (S sg)), some (.ref fa), some (.ref fN), some (.str "nodes"), some .non, o1, o2]) ⟨s2, rfl, _, _, rfl⟩ (fun i σ H' hi p => Same.tup p.1 hfa) ?_ ?_
        · rintro i x σ H4 H5 hi ⟨s4, hb, o1, o2, rfl⟩ ⟨T1, y1, y2, rfl, hT, rfl, hy1, hy2⟩
          cases hy1
          obtain ⟨d, hd, hdg⟩ := ha.at hy2
          rw [first_step hd] at hb
          have s5 := same_new (o := HO.tup [V.int (i : Nat), y2]) hT
          have t5 := Same.trans s4 s5
          refine ⟨T1, _, rfl, Or.inl (Or.inl upd_same), rfl, _, _, rfl, _, _, rfl, rfl, ?_⟩
          generalize upd H4 T1 (.tup [V.int (i : Nat), y2]) = H5 at t5 ⊢
          have hwm := weight_mem (List.mem_of_getElem? hd)
          refine ⟨rfl, _, rfl, _, rfl, _, rfl, _, _, rfl, len_tup (Same.tup t5 hfa), sg, y2, d, ds.length, by rw [hl]; rfl, hdg.same t5, by omega, by omega, fun H6 s6 => ⟨_, rfl, ?_⟩⟩
          have t6 := t5.trans s6
          cases hn : nodeD sg ds.length d with
          | false =>
            rw [hn, if_neg (by decide)] at hb
            rw [← hb] at q
            exact ifT rfl ⟨_, rfl, q H6 t6⟩
          | true =>
            rw [hn, if_pos rfl] at hb
            exact ifF rfl ⟨t6, hb, _, _, rfl⟩
        · rintro σ H4 ⟨s4, hb, o1, o2, rfl⟩
          rw [hl, List.drop_of_length_le (Nat.le_refl _)] at hb
          rw [← hb] at q
          exact q H4 s4
end
end Lw


namespace MqE_part
open PySem PySem.Spec PyProof.Rows L2 Mq PySem.W PySem.Calls
/-! ### errors whose one parameter is thing -/
def iA (p1 p2 : Pos) : Arguments := { posonlyargs := [], args := [{ arg := "self", annotation := none, pos := p1 }, { arg := "part", annotation := none, pos := p2 }], vararg := none, kwonlyargs := [], kw_defaults := [], kwarg := none, defaults := [] }
def iB (q1 q2 q3 q4 : Pos) : List Stmt := [.Assign [.Attribute (.Name "self" q1) "part" q2] (.Name "part" q3) q4]
def iS : Scope := { kind := .function, names := [(PySem.Str.ofString "self", .local), (PySem.Str.ofString "part", .local)], isGenerator := false, isCoroutine := false, more := [] }
/-- what the written part says of the class x at C, and of its __init__ at fI -/
structure Txt (K : Frag) (mg : Str → Option Value) (x qual : Str) (C fI : Addr) : Prop where
  gC : mg x = some (.ref C)
  kC : keepIn K (.ref C) = true
  ex : excInitIn K C exTail "Exception.__new__" = true
  ov : excOver K C exTail = true
  hdC : hasDictIn K C = true
  tk : takerIn K C "part" = some none
  sa : findIn K (.ref C) "__setattr__" = some (some (.builtin "object.__setattr__"))
  iC : findIn K (.ref C) "__init__" = some (some (.ref fI))
  tC : typeIn K (.ref fI) = some (.type "function")
  exC : subIn K (.ref C) (.type "BaseException") = some true
  tyC : typeIn K (.ref C) = some (.type "type")
  fn : ∃ (oc : Value) (od : Option Addr) (doc pm : Value) (an : Option Addr) (cdv ct : Value) (osl : Array (Option Value)) (p1 p2 q1 q2 q3 q4 : Pos),
    K.lookup fI = some ⟨oc, od, .func (fnOf "__init__" qual (iA p1 p2) (iB q1 q2 q3 q4) iS .none .none doc pm an cdv ct), osl⟩ ∧ codeIn K cdv qual = true
theorem ld_loc {M : Model} {s : Shared} {name : Str} {scope : Scope} {L a : Addr} {cd : Value} {m : Str → Option Value} {y : Str} {pos : Pos} {v : Value}
    {Q : Value → Shared → Prop} {A : Around} {E : Value → Shared → Prop} (hn : s.heap.Ns L m) (hv : m y = some v) (h : Q v s)
    (hk : scope.kind = .function := by rfl) (hl : (envOfC name scope L a cd).kindOf y = some .local := by rfl) (hd : (y == ("__debug__" : Str)) = false := by decide) :
    wpAny M A (eval (.Name y pos) (envOfC name scope L a cd)) Q E s := wpAny_Name (wpAny_loadName_local hk hl hn hv h) hd
/-- what __init__ leaves of a new error at e -/
structure Filled (h h' : Heap) (e C dx t1 : Addr) (v : Value) : Prop where
  keep : ∀ b o, b ≠ e → h.get? b = some o → h'.get? b = some o
  obj : h'.get? e = some (excObj C t1 (some dx) .none)
  big : h.objs.size ≤ dx
  ne : dx ≠ e
  ns : h'.Ns1 dx (fun y => if y = "part" then some v else none)
/-- a made error -/
structure Made (h h' : Heap) (e C d : Addr) (v : Value) : Prop where
  keep : ∀ b o, h.get? b = some o → h'.get? b = some o
  new : h.objs.size ≤ e
  obj : ∃ oe vs, h'.get? e = some oe ∧ oe.cls = .ref C ∧ oe.dict = some d ∧ oe.data = .fields vs ∧ vs[1]? = some .none
  big : h.objs.size ≤ d
  ne : d ≠ e
  ns : h'.Ns1 d (fun y => if y = "part" then some v else none)
section
variable {prog : Program} {w : World} {A : Around} {E : Value → Shared → Prop} {R : Result → Shared → Prop} {s : Shared} {K : Frag} {mg : Str → Option Value} {x qual : Str} {C fI : Addr}
theorem init_run (T : Txt K mg x qual C fI) {e t0 : Addr} {v : Value} (X : K.In s.heap) (lim : s.heap.NoLimit) (he : s.heap.get? e = some (excObj C t0 none .none)) (room : A.depth < recursionLimit)
    (hq : ∀ h' tk dx, Filled s.heap h' e C dx t0 v → R (.ok (.ret .none)) { s with heap := h', toks := tk }) :
    codeAny (model prog w) A (.call (.ref fI) ⟨[.ref e, v], []⟩) R s := by
  obtain ⟨oc, od, doc, pm, an, cdv, ct, osl, p1, p2, q1, q2, q3, q4, ho, hcd⟩ := T.fn
  refine Att.call_fn (binds := [("self", .ref e), ("part", v)]) X lim ho hcd room (BindsTo.of_eq (by first | rfl | with_unfolding_all rfl)) (by first | rfl | decide | with_unfolding_all rfl) (fun s₁ IC => ?_) rfl rfl rfl
  obtain ⟨h₁, tk₁, rfl⟩ := IC.toInCall.same
  have k : ∀ b o, s.heap.get? b = some o → h₁.get? b = some o := IC.toInCall.keep
  have hn := IC.toInCall.ns
  have X₁ : K.In h₁ := X.keeps k
  have he₁ := k _ _ he
  show wpAny _ _ (execs _ _) _ _ _
  refine wpAny_execs_cons (plainObj_wpAny_Assign_Attribute ?_)
  refine ld_loc (v := v) hn (by first | rfl | with_unfolding_all rfl | kernel_rfl) (ld_loc (v := .ref e) hn (by first | rfl | with_unfolding_all rfl | kernel_rfl) ?_)
  refine set_plain X₁ (ox := excObj C t0 none .none) (od := none) ⟨he₁, rfl, rfl, trivial⟩ T.sa ?_
  refine osa_first X₁ he₁ T.ov T.hdC T.tk (fun h₃ tk₃ dx k₃ dn dne he₃ hn₃ => ?_)
  show wpAny _ _ (execs _ _) _ _ _
  have z : s.heap.objs.size < h₁.objs.size := hn.lt
  exact wpAny_execs_nil (hq h₃ tk₃ dx ⟨fun b o hb e => k₃ b o hb (k b o e), he₃, Nat.le_of_lt (Nat.lt_of_lt_of_le z dn), dne, hn₃⟩)
theorem made_run (T : Txt K mg x qual C fI) {v : Value} (X : K.In s.heap) (lim : s.heap.NoLimit) (room : A.depth + 1 < recursionLimit)
    (hq : ∀ h' tk e d, Made s.heap h' e C d v → R (.ok (.ret (.ref e))) { s with heap := h', toks := tk }) :
    codeAny (model prog w) A (.call (.ref C) ⟨[v], []⟩) R s := by
  obtain ⟨nm, N, qn, bs, bm, hdct, sn, sub, ab, col, dd, k0, k1, k2, k3, k5, hC, hT⟩ := excInit_of X T.ex
  obtain ⟨hp, g, dr, tk, os⟩ := s
  have k : ∀ b o, hp.get? b = some o → ((hp.push (kdv_tup [v])).push (HandSPX.excO C hp.objs.size)).get? b = some o := fun b o e => Heap.get?_push_of_some _ (Heap.get?_push_of_some _ e)
  have hget : ((hp.push (kdv_tup [v])).push (HandSPX.excO C hp.objs.size)).get? (hp.objs.size + 1) = some (excObj C hp.objs.size none .none) := by heap_get
  refine HandSPX.call_own F.excBase_Exception hT hC (looks_findIn X T.iC) (fun self => bind_fn X self T.tC) (by rw [sizeLine_eq]; exact (by decide : 1 ≤ 16777216)) ?_
  refine init_run (s := ⟨(hp.push (kdv_tup [v])).push (HandSPX.excO C hp.objs.size), g, dr, tk, os⟩) T (X.keeps k) (lim.keeps k) hget ?_ (fun h' tk' dx M => ?_)
  · show A.depth + 1 < recursionLimit
    exact room
  · obtain ⟨k', hx, dn, dne, hns⟩ := M
    have old : ∀ b o, hp.get? b = some o → h'.get? b = some o := fun b o e => k' b o (Nat.ne_of_lt (Nat.lt_succ_of_lt (Heap.lt_size e))) (k b o e)
    have z : hp.objs.size + 1 + 1 ≤ dx := by
      have q := dn
      rw [Heap.size_push, Heap.size_push] at q
      exact q
    exact ⟨rfl, hq h' tk' (hp.objs.size + 1) dx ⟨old, Nat.le_succ _, ⟨_, _, hx, rfl, rfl, rfl, rfl⟩, Nat.le_trans (Nat.le_trans (Nat.le_succ _) (Nat.le_succ _)) z, dne, hns⟩⟩
end
theorem relO_f {v : V} {v' : Value} (r : RelV v v') (f : Str) : RelO (List.lookup f [(("part" : Str), v)]) (if f = "part" then some v' else none) := by
  by_cases hw : f = "part"
  · subst hw
    rw [if_pos rfl]
    have q : List.lookup ("part" : Str) [(("part" : Str), v)] = some v := by simp [List.lookup]
    rw [q]
    exact r
  · rw [if_neg hw]
    have qw : (f == ("part" : Str)) = false := by simpa using hw
    have q2 : List.lookup f [(("part" : Str), v)] = none := by simp [List.lookup, qw]
    rw [q2]
    trivial
section
variable {X : Cx} {C fI : Addr} {x qual : Str}
/-- x(e) -/
def tMk (C : Addr) (ta : TA) : L2.St → Hp → XK → Prop := fun σ H Q => ta σ H fun vs H1 => ∃ v, vs = [v] ∧ ∀ d, H1 d = none → Q (.ref C) (some d) (upd H1 d (.xd [(("part" : Str), v)]))
theorem pmk {a : Expr} {ta : TA} {p pos : Pos} {k : Nat} (T : Txt X.K X.mg x qual C fI) (hr : Room k X.A) (ha : PA X [a] ta) (hg : Gl X x := by rfl) (hdb : (x == ("__debug__" : Str)) = false := by decide)
    (he : starEach (a :: []) X.env = (false, eval a X.env) :: starEach [] X.env := by rfl) (hpl : (backTo pos (starEach [] X.env)).any (·.1) = false := by rfl) :
    PMk X (.Call (.Name x p) [a] [] pos) (tMk C ta) := by
  intro pins s σ H Q I h
  refine wpAny_Call_Name_kw (ld_glob I hg T.gC ?_ hdb)
  refine callWith_K (h₀ := X.base) I.ok.mod.kin T.kC (thn (ha.run pos pins s σ H _ I h) fun us s1 hh => ?_) he hpl
  obtain ⟨vs, H1, I1, r1, v, ev, q1⟩ := hh
  subst ev
  refine ⟨I1.kIn, ?_⟩
  cases r1 with
  | cons rv rn =>
    rename_i v' us'
    cases rn
    show wpAny _ _ (call (.ref C) [v']) _ _ _
    have hlim := I1.nolimit
    obtain ⟨hp, g, dr, tk, os⟩ := s1
    refine wpAny_call (made_run T I1.kIn hlim (by have := hr.dp; omega) (fun h' tk' e d M => ?_))
    show MkP X pins σ Q (.ref e) ⟨h', g, dr, tk', os⟩
    obtain ⟨oe, fv, hoe, hc, hd, hdat, h1⟩ := M.obj
    have hns := M.ns
    obtain ⟨G', g1, g2⟩ := restrict h' fun b => decide (b ≠ e)
    have gk : ∀ b, b ≠ e → G'.get? b = h'.get? b := fun b hb => g1 b (decide_eq_true hb)
    have ge : G'.get? e = none := g2 e (by simp)
    have old : ∀ b o, hp.get? b = some o → G'.get? b = some o := fun b o q => (gk b (Nat.ne_of_lt (Nat.lt_of_lt_of_le (Heap.lt_size q) M.new))).trans (M.keep b o q)
    have ob : ObjOk X.prog X.w (upd H1 d (.xd [(("part" : Str), v)])) G' d (.xd [(("part" : Str), v)]) :=
      ⟨_, hns.at (fun o q => (gk d M.ne).trans q), fun f => relO_f rv f⟩
    have J : L2.Inv X pins σ (upd H1 d (.xd [(("part" : Str), v)])) ⟨G', g, dr, tk', os⟩ := I1.laid (t' := tk') old M.big ob
    refine ⟨e, oe, fv, ⟨G', g, dr, tk', os⟩, _, .ref C, some d, rfl, J, (fun b o q => ?_), ge, hoe, ⟨hc, hd⟩, hdat, h1, ?_, rfl, I1.bare, raises_own T.exC T.tyC, q1 d (I1.hok.fresh M.big)⟩
    · by_cases hb : b = e
      · have q' : G'.get? b = some o := q
        rw [hb, ge] at q'
        cases q'
      · exact (gk b hb).symm.trans q
    · rw [upd_ne (Ne.symm M.ne)]
      exact I1.hok.fresh M.new
/-- raise x(e) -/
def tRaise (C : Addr) (W : WX) (ta : TA) : TS := fun _ σ H => tMk C ta σ H fun cls d H' => W cls d σ H'
theorem ps_raise {a : Expr} {ta : TA} {W : WX} {p pos pos2 : Pos} {k : Nat} (hc : X.calm = true) (T : Txt X.K X.mg x qual C fI) (hr : Room k X.A) (tk : Takes X W) (ha : PA X [a] ta) (hg : Gl X x := by rfl) (hdb : (x == ("__debug__" : Str)) = false := by decide)
    (he : starEach (a :: []) X.env = (false, eval a X.env) :: starEach [] X.env := by rfl) (hpl : (backTo pos (starEach [] X.env)).any (·.1) = false := by rfl) :
    PS X (.Raise (some (.Call (.Name x p) [a] [] pos)) none pos2) (tRaise C W ta) := L2.ps_raise hc tk (pmk T hr ha hg hdb he hpl)
end
end MqE_part

namespace Lw
open PySem PySem.Spec PyProof.Rows L2 Mq
open SX (S)
/-! ### a reader is made of right parts, or the part is told -/
structure RdC (K : PySem.W.Frag) (C : Addr) : Prop where
  cls : Cls K C
  nL : NoAttr K C "letters"
  nN : NoAttr K C "nodes"
def rdF (sg : List Nat) (na : Addr) : List (Str × V) := [("letters", .str (S sg)), ("nodes", .ref na)]
def RdAt (H : Hp) (C r : Addr) (sg : List Nat) (na : Addr) : Prop := ∃ dx, H r = some (.ins C dx (rdF sg na))
theorem RdAt.same {H H' : Hp} {C r na : Addr} {sg : List Nat} (h : RdAt H C r sg na) (e : Same H H') : RdAt H' C r sg na := let ⟨d, x⟩ := h; ⟨d, e _ _ x⟩
def spInitA (K : PySem.W.Frag) (C CT : Addr) : Sp := fun vs H Q E => ∃ (r dx : Addr) (v1 v2 : V) (d1 d2 : PyData), vs = [.ref r, v1, v2] ∧ H r = some (.ins C dx []) ∧ Dg K H v1 d1 ∧ Dg K H v2 d2 ∧ d1.weight ≤ 80000 ∧ d2.weight ≤ 80000 ∧
  match dueM d1 d2 with
  | some p => ∀ H' d, Same H H' → H' d = none → E (.ref CT) (some d) (upd H' d (.xd [("part", p.v)]))
  | none => ∀ H' sg na, v1 = .str (S sg) → d1 = .str (S sg) → v2 = .ref na → RdAt H' C r sg na → (∀ b o, H b = some o → b ≠ r → H' b = some o) → Q .non H'
theorem due_none {d1 d2 : PyData} (h : dueM d1 d2 = none) : ∃ sg ds, d1 = .str (S sg) ∧ d2 = .tuple ds ∧ lettersB sg = true ∧ ds ≠ [] ∧ firstBad (nodeD sg ds.length) ds 0 = none := by
  cases d1 with
  | str x =>
    rw [← S_of x, due_str] at h
    cases hl : lettersB x.cps.toList with
    | false =>
      rw [hl] at h
      cases h
    | true =>
      rw [hl, if_pos rfl] at h
      cases d2 with
      | tuple ds =>
        unfold bodyN at h
        dsimp only at h
        refine ⟨x.cps.toList, ds, by rw [S_of], rfl, hl, ?_, ?_⟩
        · rintro rfl
          cases h
        · cases h0 : ds.isEmpty with
          | true =>
            rw [h0] at h
            cases h
          | false =>
            rw [h0, if_neg (by decide)] at h
            cases h1 : firstBad (nodeD x.cps.toList ds.length) ds 0 with
            | none => rfl
            | some k =>
              rw [h1] at h
              cases h
      | _ => cases h
  | _ => cases h
theorem wr_non (p : Wr) : decide (p.v = .non) = false := by cases p <;> exact decide_eq_false fun z => nomatch z
section
variable {P : Program} {w : World} {K : PySem.W.Frag} {mg : Str → Option Value} {base : Heap} {C CT : Addr}
theorem ok_initA {f fW fN fE : Addr} {fd fdW : FuncData} (F : Fun K "__init__" "Reader.__init__" s_Reader___init__ f fd) (R : RdC K C)
    (kW : PySem.W.keepIn K (.ref fW) = true) {dW : List Value} (gW : mg "wrong_part" = some (.ref fW)) (bW : Binds K fdW ["letters", "nodes", "is_node", "word", "most"] dW) (vW : Vals [.str "nodes", .non] dW)
    (gN : mg "is_reader_node" = some (.ref fN))
    (GW : FnOk P w K mg base CX0 5 fW fdW ["letters", "nodes", "is_node", "word", "most"] (spWrongA K fN)) (T : MqE_part.Txt K mg "BadReader" "BadReader.__init__" CT fE) :
    FnOk P w K mg base (L2.CX P w) 6 f fd ["self", "letters", "nodes"] (spInitA K C CT) := by
  refine F.okX sc_Reader___init__ (fun vs H Q E h => ?_) (fun cdv A outer s H vs Q E hr h => ?_)
  · obtain ⟨_, _, _, _, _, _, rfl, _⟩ := h
    rfl
  · obtain ⟨r, dx, v1, v2, d1, d2, rfl, hr0, g1, g2, hw1, hw2, q⟩ := h
    refine ⟨_, (pss_cons (ps_set (i := 3) sc_Reader___init__.nd rfl (Or.inl rfl) (pe_call GW (hr.mono (by decide)) (by rfl) gW kW bW vW pass0 (pa_cons (pv 1) (pa_cons (pv 2) (pa_cons (pe_glob (v := .ref fN) (by rfl) gN rfl) pa_nil)))))
      (pss_cons (ps_if (pt_cmpR op_notN (pv 3) pe_non (nomark _)) (pss_one (MqE_part.ps_raise rfl T hr (takes_of rfl rfl rfl rfl) (pa_cons (pv 3) pa_nil))) pss_nil)
      (pss_cons (ps_fld (pv 0) (pv 1) rfl)
      (pss_one (ps_fld (pv 0) (pv 2) rfl))))), ?_⟩
    refine ⟨_, rfl, _, rfl, ?_⟩
    refine ⟨v1, v2, d1, d2, rfl, g1, g2, hw1, hw2, fun H1 s1 => ?_⟩
    refine ⟨_, rfl, rfl, _, rfl, ?_⟩
    cases e : dueM d1 d2 with
    | some p =>
      rw [e] at q
      exact ifT (by show (!decide (p.v = .non)) = true; rw [wr_non]; rfl) ⟨_, rfl, _, rfl, fun d hd => q H1 d s1 hd⟩
    | none =>
      rw [e] at q
      obtain ⟨sg, ds, rfl, rfl, _⟩ := due_none e
      cases g1
      rcases dg_tup g2 with ⟨na, xs, ds', rfl, e', hp, ha⟩ | ⟨_, nx⟩
      rotate_left
      · exact (nx ds rfl).elim
      refine ifF rfl ?_
      have h1 := s1 _ _ hr0
      refine ⟨_, rfl, _, rfl, r, C, dx, [], rfl, h1, R.cls, R.nL, (by show 0 < 1000; decide), ?_⟩
      refine ⟨_, rfl, _, rfl, r, C, dx, _, rfl, upd_same, R.cls, R.nN, (by show 1 < 1000; decide), ?_⟩
      refine q _ sg na rfl rfl rfl ⟨dx, upd_same.trans ?_⟩ (fun b o e hb => ?_)
      · exact congrArg (fun z => some (HO.ins C dx z)) rfl
      · rw [upd_ne hb, upd_ne hb]
        exact s1 b o e
end
end Lw

namespace Lw
open PySem PySem.Spec PyProof.Rows L2 Mq
open SX (S)
theorem asc_set {lc : List Nat} {l' ys : List Str} (h1 : l'.Nodup) (h2 : ∀ k, k ∈ l' ↔ k ∈ lc.map fun c => S [c]) (hp : ys.Perm l') (hs : PyProof.Rows.sortedS ys = true) : decide ((lc.map fun c => S [c]) = ys) = ascB lc := by
  have hnd : ys.Nodup := hp.nodup_iff.mpr h1
  have hm : ∀ k, k ∈ ys ↔ k ∈ lc.map fun c => S [c] := fun k => (hp.mem_iff).trans (h2 k)
  by_cases ha : ascB lc = true
  · rw [ha]
    refine decide_eq_true ?_
    have ha := asc_pair.mp ha
    have hy : ys = (ys.map fun k => k.cps.toList.headD 0).map fun c => S [c] := by
      rw [List.map_map]
      refine (List.map_id' ys).symm.trans (List.map_congr_left fun k hk => ?_)
      obtain ⟨c, _, rfl⟩ := List.mem_map.mp ((hm k).mp hk)
      rfl
    generalize hq : (ys.map fun k => k.cps.toList.headD 0) = qs at hy
    rw [hy] at hs hnd hm ⊢
    have hqn : qs.Nodup := (List.pairwise_map.mp hnd).imp fun h3 h4 => h3 (by rw [h4])
    have hqp := sorted_pair hs hqn
    have hmm : ∀ c, c ∈ lc ↔ c ∈ qs := by
      intro c
      have e : ∀ l : List Nat, S [c] ∈ l.map (fun c => S [c]) ↔ c ∈ l := by
        intro l
        rw [List.mem_map]
        exact ⟨fun ⟨d, h3, h4⟩ => by rw [S_one.mp h4] at h3; exact h3, fun h3 => ⟨c, h3, rfl⟩⟩
      rw [← e lc, ← e qs, hm (S [c])]
    have hln : lc.Nodup := ha.imp fun h => Nat.ne_of_lt h
    have hpm : lc.Perm qs := (List.perm_ext_iff_of_nodup hln hqn).mpr hmm
    rw [perm_asc (r := fun a b => decide (a < b)) hpm (ha.imp fun h => decide_eq_false (by omega)) (hqp.imp fun h => decide_eq_true h)]
  · have ha' := Bool.eq_false_iff.mpr ha
    rw [ha']
    refine decide_eq_false fun e => ha ?_
    rw [← e] at hs hnd
    have hqn : lc.Nodup := (List.pairwise_map.mp hnd).imp fun h3 h4 => h3 (by rw [h4])
    exact asc_pair.mpr (sorted_pair hs hqn)
theorem in_alpha (c : Nat) : inB c alpha = (!decide (c < 97) && !decide (122 < c)) := by
  unfold inB
  rw [Bool.eq_iff_iff]
  simp only [decide_eq_true_eq, Bool.and_eq_true, Bool.not_eq_true', decide_eq_false_iff_not]
  unfold alpha
  rw [List.mem_range'_1]
  omega
def tOut : TT := fun σ H Q => ∃ c, σ[1]? = some (some (.str (S [c]))) ∧ Q (!inB c alpha) H
def spAre (K : PySem.W.Frag) : Sp := fun vs H Q _ => ∃ (v : V) (d : PyData) (w n : Nat), vs = [v] ∧ Dg K H v d ∧ OkD w n d ∧ w ≤ 4000 ∧ ∀ H', Same H H' → Q (.bl (lettersD d)) H'
section
variable {P : Program} {w : World} {K : PySem.W.Frag} {mg : Str → Option Value} {base : Heap}
theorem ok_are {f : Addr} {fd : FuncData} (F : Fun K "_law_are_letters" "_law_are_letters" s__law_are_letters f fd) (B : Blt mg) (bS : mg "sorted" = none) (bT : mg "set" = none) :
    FnOk P w K mg base CX0 1 f fd ["_law_it"] (spAre K) := by
  refine F.ok sc__law_are_letters (fun vs H Q E h => ?_) (fun cdv A outer s H vs Q E hr h => ?_)
  · obtain ⟨_, _, _, _, rfl, _⟩ := h
    rfl
  · obtain ⟨v, d, wd, nd, rfl, hd, hok, hwd, q⟩ := h
    have hu : (A.deeper (envOfC "_law_are_letters" (defScope s__law_are_letters) s.heap.objs.size f cdv)).units + 64 < cLine := by
      have := hr.units
      omega
    refine ⟨_, (pss_cons (ps_if (PW.pt (pw_or (pt_not (pt_val (pe_callB call_isi (by rfl) B.isi (by decide +kernel) (pa_cons (pv 0) (pa_cons (pe_bltn (v := .ty "str") (by rfl) B.str (by decide +kernel) rfl) pa_nil))))) (pw_or1 (pt_cmpR op_eq (pv 0) pe_str (nomark _))))) (pss_one (ps_ret pe_bl)) pss_nil)
      (pss_one (ps_ret (pe_and (pe_cmpR (op_eqD hu) (pe_lc (own := [("_law_x", 1)]) (g := gName 1) rfl sc__law_are_letters.nd (pi_str (pv 0)) (blkOk_by (own := [("_law_x", 1)]) (N := ["_law_it", "_law_x"]) (sc := defScope s__law_are_letters) (by decide +kernel)) (fun _ _ _ _ _ => pg_name (i := 1) sc__law_are_letters.nd rfl (Or.inl rfl))
        (fun _ _ _ _ _ => pts_one (PT_imp (t' := tOut) (pt_not (pt_chain op_le_str op_le_str pe_str (pv 1) pe_str)) (fun σ H Q h => by
          obtain ⟨c, h1, q⟩ := h
          rw [in_alpha] at q
          refine ⟨_, h1, S [97], S [c], rfl, rfl, _, rfl, ?_⟩
          rw [lt_sign]
          cases e : decide (c < 97) with
          | true =>
            rw [e] at q
            exact ifF rfl ⟨_, rfl, q⟩
          | false =>
            rw [e] at q
            refine ifT rfl ⟨S [c], S [122], rfl, rfl, ?_⟩
            rw [lt_sign]
            exact ⟨_, rfl, q⟩))) (fun _ _ _ _ _ => (pv 1))) (Mq.pe_ls pa_nil) (nomark _))
        (pe_one (pe_cmpR (op_eqD hu) (pe_callTy (call_listTx rfl) (by rfl) B.list (by decide +kernel) (pa_cons (pv 0) pa_nil)) (pe_callB (cr_sortTx rfl) (by rfl) bS (by decide +kernel) (pa_cons (pe_callTy (cr_setTx rfl) (by rfl) bT (by decide +kernel) (pa_cons (pv 0) pa_nil)) pa_nil)) (nomark _))))))), ?_⟩
    rcases dg_str hd with ⟨l, rfl, rfl⟩ | ⟨⟨a, t, m, n⟩, nx⟩
    rotate_left
    · rw [lettersD_no nx] at q
      exact ⟨_, rfl, _, .ty "str", _, _, false, rfl, .ty _, t, kit_no m n, false, rfl, ifT rfl (ifT rfl (q H (Same.refl H)))⟩
    have hl : l.length ≤ 4000 := Nat.le_trans hok.text.1 hwd
    have hlow : LowL l := hok.text.2
    have q : ∀ H', Same H H' → Q (.bl (lettersB l)) H' := q
    have hlz : (S l).length ≤ sizeLine := sz_le (by rw [SX.S_len]; omega)
    refine ⟨_, rfl, _, .ty "str", _, _, true, rfl, .ty _, .base (.str _), kit_self, true, rfl, ifF rfl ⟨_, rfl, rfl, _, rfl, ?_⟩⟩
    rw [str_is_nil]
    unfold lettersB at q
    cases e0 : decide (l = []) with
    | true =>
      rw [e0] at q
      exact ifT rfl (q H (Same.refl H))
    | false =>
      rw [e0] at q
      refine ifF rfl ⟨_, rfl, S l, rfl, fun L hL => ?_⟩
      refine lc_it (walk_S l) (fun i H' => Same H H' ∧ H' L = some (.lst ((((List.range i).filter fun k => !inB (l.getD k 0) alpha)).map fun k => .str (S [l.getD k 0])))) ⟨same_new hL, upd_same⟩ (fun _ _ _ _ => trivial) ?_ ?_
      · rintro i x H2 H3 hi ⟨s2, hL2⟩ ⟨rfl, rfl⟩
        refine ⟨rfl, l.getD i 0, rfl, ?_⟩
        have er : ((List.range (i + 1)).filter fun k => !inB (l.getD k 0) alpha) = ((List.range i).filter fun k => !inB (l.getD k 0) alpha) ++ (if (!inB (l.getD i 0) alpha) = true then [i] else []) := by
          rw [List.range_succ, List.filter_append]
          congr 1
          by_cases hb : (!inB (l.getD i 0) alpha) = true
          · rw [if_pos hb]
            show List.filter _ [i] = [i]
            rw [List.filter_cons, if_pos hb]
            rfl
          · rw [if_neg hb, List.filter_cons, if_neg hb]
            rfl
        have hlen : ((List.range i).filter fun k => !inB (l.getD k 0) alpha).length ≤ i := by
          have := List.length_filter_le (fun k => !inB (l.getD k 0) alpha) (List.range i)
          rw [List.length_range] at this
          exact this
        by_cases hb : (!inB (l.getD i 0) alpha) = true
        · rw [if_pos hb] at er
          refine ifT hb ?_
          refine ⟨_, rfl, _, hL2, sz_lt (by rw [List.length_map]; omega), push_same hL s2, ?_⟩
          rw [upd_same, er, List.map_append]
          rfl
        · rw [if_neg hb, List.append_nil] at er
          refine ifF (Bool.eq_false_iff.mpr hb) ?_
          refine ⟨s2, ?_⟩
          rw [er]
          exact hL2
      · rintro H2 ⟨s2, hL2⟩
        refine ⟨sz_le (n := 0) (by decide), fun p hp _ => ?_⟩
        have sp := same_new (o := HO.lst []) hp
        refine ⟨_, _, .lst (SqL.of (sp _ _ hL2)) (dp_signs (fun k => S [l.getD k 0]) _), .lst (SqL.of upd_same) .nil, shaped_signs _ _ ?_, by decide +kernel, ?_⟩
        · intro k hk
          have hk' := List.mem_range.mp (List.mem_filter.mp hk).1
          exact sign_ok (Nat.lt_trans (hlow _ (getD_mem hk')) (by decide))
        rw [eqv_nil]
        have eAll : (((List.range l.length).filter fun k => !inB (l.getD k 0) alpha)).isEmpty = allB l alpha := (all_filter l.length fun k => inB (l.getD k 0) alpha).symm
        rw [eAll]
        have s3 : Same H (upd H2 p (.lst [])) := s2.trans sp
        generalize upd H2 p (.lst []) = H3 at s3 ⊢
        cases e1 : allB l alpha with
        | false =>
          rw [e1, Bool.and_false, Bool.and_false] at q
          exact ⟨_, rfl, ifF rfl (q H3 s3)⟩
        | true =>
          rw [e1, Bool.and_true] at q
          have hal : ∀ c ∈ l, c ∈ alpha := fun c hc => by
            obtain ⟨i, hi, rfl⟩ := List.mem_iff_getElem.mp hc
            unfold allB at e1
            rw [List.all_map, List.all_eq_true] at e1
            have h4 := e1 i (List.mem_range.mpr hi)
            have h5 : l.getD i 0 ∈ alpha := of_decide_eq_true h4
            rw [List.getD_eq_getElem?_getD, List.getElem?_eq_getElem hi] at h5
            exact h5
          refine ⟨_, rfl, ifT rfl ⟨_, rfl, S l, rfl, hlz, fun pl hpl _ => ?_⟩⟩
          have sl := same_new (o := HO.lst ((S l).cps.toList.map fun c => V.str ⟨#[c]⟩)) hpl
          have s4 := s3.trans sl
          have hpl4 : upd H3 pl (.lst ((S l).cps.toList.map fun c => V.str ⟨#[c]⟩)) pl = some (.lst ((l.map fun c => S [c]).map V.str)) := by
            rw [upd_same, List.map_map]
            rfl
          generalize upd H3 pl (.lst ((S l).cps.toList.map fun c => V.str ⟨#[c]⟩)) = H4 at s4 hpl4 ⊢
          refine ⟨_, rfl, S l, rfl, ?_, fun ps l' hps hnd hls hms => ?_⟩
          · show (S l).length + 1 < 4096
            rw [SX.S_len]
            omega
          have s5 := s4.trans (same_new (o := TxO P w ps l') hps)
          have hpl5 := same_new (o := TxO P w ps l') hps _ _ hpl4
          have hms2 : ∀ k, k ∈ l' ↔ k ∈ l.map fun c => S [c] := hms
          have hls2 : l'.length ≤ 26 := by
            have := few_of (m := alpha.map fun c => S [c]) hnd fun k hk => by
              obtain ⟨c, hc, rfl⟩ := List.mem_map.mp ((hms2 k).mp hk)
              exact List.mem_map.mpr ⟨c, hal c hc, rfl⟩
            rw [List.length_map] at this
            exact this
          refine ⟨ps, l', rfl, upd_same, by omega, fun ys p6 hys hso hp6 => ?_⟩
          have s6 := s5.trans (same_new (o := HO.lst (ys.map V.str)) hp6)
          have hpl6 := same_new (o := HO.lst (ys.map V.str)) hp6 _ _ hpl5
          have hysm : ∀ k ∈ ys, k ∈ l.map fun c => S [c] := fun k hk => (hms2 k).mp (hys.mem_iff.mp hk)
          have lay : ∀ y ∈ l.map (fun c => S [c]), (PyData.str y).canLay0 = true := by
            intro y hy
            obtain ⟨c, hc, rfl⟩ := List.mem_map.mp hy
            exact sign_ok (Nat.lt_trans (hlow c hc) (by decide))
          refine ⟨_, _, .lst (SqL.of hpl6) (dp_strs _), .lst (SqL.of upd_same) (dp_strs ys), shaped_strs lay, shaped_strs (fun y hy => lay y (hysm y hy)), ?_⟩
          rw [eqv_strs, asc_set hnd hms hys hso]
          exact q _ s6
end
end Lw

namespace Lw
open PySem PySem.Spec PyProof.Rows L2 Mq
open SX (S)
/-! ### the law's own look at webs and nodes -/
theorem filt_range (p : Nat → Bool) (i : Nat) : (List.range (i + 1)).filter p = (List.range i).filter p ++ (if p i = true then [i] else []) := by
  rw [List.range_succ, List.filter_append]
  congr 1
  show List.filter _ [i] = _
  rw [List.filter_cons]
  rfl
theorem app1_empty {α : Type} (l : List α) (x : α) : (l ++ [x]).isEmpty = false := by cases l <;> rfl
theorem filt_len (p : Nat → Bool) (i : Nat) : ((List.range i).filter p).length ≤ i := by
  have := List.length_filter_le p (List.range i)
  rw [List.length_range] at this
  exact this
def spIsWeb (K : PySem.W.Frag) : Sp := fun vs H Q _ => ∃ (sg : List Nat) (v : V) (d : PyData), vs = [.str (S sg), v] ∧ Dg K H v d ∧ d.weight ≤ 90000 ∧ ∀ H', Same H H' → Q (.bl (webD sg d)) H'
def tBadT (K : PySem.W.Frag) : TT := fun σ H Q => ∃ v d m, σ[3]? = some (some v) ∧ σ[1]? = some (some (.int ((m : Nat) : Int))) ∧ Dg K H v d ∧ Q (!belowD m d) H
def tComp (K : PySem.W.Frag) : TE := fun σ H Q => ∃ (v0 : V) (m : Nat) (p : Addr) (o3 : Option V) (xs : List V) (ds : List PyData), σ = [some v0, some (.int (m : Nat)), some (.ref p), o3] ∧ SqT K H p xs ∧ DgAll K H xs ds ∧ 2 ≤ xs.length ∧ xs.length ≤ 90000 ∧ ∀ H', Same H H' → Q (.bl (belowAllB m ds)) H'
def spIsNode (K : PySem.W.Frag) : Sp := fun vs H Q _ => ∃ (sg : List Nat) (m : Nat) (v : V) (d : PyData), vs = [.str (S sg), .int (m : Nat), v] ∧ sg.length ≤ 90000 ∧ Dg K H v d ∧ d.weight ≤ 80000 ∧ ∀ H', Same H H' → Q (.bl (nodeD sg m d)) H'
section
variable {P : Program} {w : World} {K : PySem.W.Frag} {mg : Str → Option Value} {base : Heap}
theorem ok_is_webL {f : Addr} {fd : FuncData} (F : Fun K "_law_is_web" "_law_is_web" s__law_is_web f fd) (B : Blt mg) :
    FnOk P w K mg base CX0 1 f fd ["_law_signs", "_law_it"] (spIsWeb K) := by
  refine F.ok sc__law_is_web (fun vs H Q E h => ?_) (fun cdv A outer s H vs Q E hr h => ?_)
  · obtain ⟨_, _, _, rfl, _⟩ := h
    rfl
  · obtain ⟨sg, v, d, rfl, hd, hw, q⟩ := h
    have hu0 : (A.deeper (envOfC "_law_is_web" (defScope s__law_is_web) s.heap.objs.size f cdv)).units < cLine := by
      have := hr.units
      omega
    refine ⟨_, (pss_one (ps_ret (pe_and (pe_callB call_isi (by rfl) B.isi (by decide +kernel) (pa_cons (pv 1) (pa_cons (pe_bltn (v := .ty "str") (by rfl) B.str (by decide +kernel) rfl) pa_nil))) (pe_one (pe_cmpR (op_eqNil hu0) (pe_lc (own := [("_law_x", 2)]) (g := gName 2) rfl sc__law_is_web.nd (pi_str (pv 1)) (blkOk_by (own := [("_law_x", 2)]) (N := ["_law_signs", "_law_it", "_law_x"]) (sc := defScope s__law_is_web) (by decide +kernel)) (fun _ _ _ _ _ => pg_name (i := 2) sc__law_is_web.nd rfl (Or.inl rfl)) (fun _ _ _ _ _ => pts_one (pt_cmpR op_notIn_sign (pv 2) (pv 0) rfl)) (fun _ _ _ _ _ => (pv 2))) (Mq.pe_ls pa_nil) (nomark _)))))), ?_⟩
    rcases dg_str hd with ⟨l, rfl, rfl⟩ | ⟨⟨a, t, m, n⟩, nx⟩
    rotate_left
    · rw [webD_no nx] at q
      exact ⟨_, rfl, _, .ty "str", _, _, false, rfl, .ty _, t, kit_no m n, false, rfl, iteF (q H (Same.refl H))⟩
    have hl : l.length ≤ 90000 := hw
    have q : ∀ H', Same H H' → Q (.bl (allB l sg)) H' := q
    refine ⟨_, rfl, _, .ty "str", _, _, true, rfl, .ty _, .base (.str _), kit_self, true, rfl, iteT ⟨_, rfl, S l, rfl, fun L hL => ?_⟩⟩
    refine lc_it (walk_S l) (fun i H' => Same H H' ∧ H' L = some (.lst ((((List.range i).filter fun k => !inB (l.getD k 0) sg)).map fun k => .str (S [l.getD k 0])))) ⟨same_new hL, upd_same⟩ (fun _ _ _ _ => trivial) ?_ ?_
    · rintro i x H2 H3 hi ⟨s2, hL2⟩ ⟨rfl, rfl⟩
      refine ⟨rfl, _, rfl, _, rfl, l.getD i 0, S sg, rfl, rfl, _, rfl, ?_⟩
      have er := filt_range (fun k => !inB (l.getD k 0) sg) i
      show (if (!inB (l.getD i 0) sg) = true then _ else _)
      have hlen := filt_len (fun k => !inB (l.getD k 0) sg) i
      by_cases hb : (!inB (l.getD i 0) sg) = true
      · rw [if_pos hb] at er
        refine ifT hb ?_
        refine ⟨_, rfl, _, hL2, sz_lt (by rw [List.length_map]; omega), push_same hL s2, ?_⟩
        rw [upd_same, er, List.map_append]
        rfl
      · rw [if_neg hb, List.append_nil] at er
        refine ifF (Bool.eq_false_iff.mpr hb) ?_
        refine ⟨s2, ?_⟩
        rw [er]
        exact hL2
    · rintro H2 ⟨s2, hL2⟩
      refine ⟨sz_le (n := 0) (by decide), fun p hp _ => ?_⟩
      have sp := same_new (o := HO.lst []) hp
      refine ⟨L, p, _, rfl, rfl, SqL.of (sp _ _ hL2), SqL.of upd_same, ?_⟩
      have eAll : ((((List.range l.length).filter fun k => !inB (l.getD k 0) sg)).map fun k => V.str (S [l.getD k 0])).isEmpty = allB l sg := by
        rw [List.isEmpty_map]
        exact (all_filter l.length fun k => inB (l.getD k 0) sg).symm
      rw [eAll]
      exact q _ (s2.trans sp)
theorem ok_is_nodeL {f fW : Addr} {fd fdW : FuncData} (F : Fun K "_law_is_node" "_law_is_node" s__law_is_node f fd) (B : Blt mg)
    (FW : Fun K "_law_is_web" "_law_is_web" s__law_is_web fW fdW) (gW : mg "_law_is_web" = some (.ref fW)) (bW : Binds K fdW ["_law_signs", "_law_it"] []) :
    FnOk P w K mg base CX0 2 f fd ["_law_signs", "_law_size", "_law_it"] (spIsNode K) := by
  have GW : FnOk P w K mg base CX0 1 fW fdW ["_law_signs", "_law_it"] (spIsWeb K) := ok_is_webL FW B
  refine F.ok sc__law_is_node (fun vs H Q E h => ?_) (fun cdv A outer s H vs Q E hr h => ?_)
  · obtain ⟨_, _, _, _, rfl, _⟩ := h
    rfl
  · obtain ⟨sg, m, v, d, rfl, hsl, hd, hw, q⟩ := h
    have hu0 : (A.deeper (envOfC "_law_is_node" (defScope s__law_is_node) s.heap.objs.size f cdv)).units < cLine := by
      have := hr.units
      omega
    refine ⟨_, (pss_cons (ps_if (PW.pt (pw_or (pt_not (pt_val (pe_callB call_isi (by rfl) B.isi (by decide +kernel) (pa_cons (pv 2) (pa_cons (pe_bltn (v := .ty "tuple") (by rfl) B.tuple (by decide +kernel) rfl) pa_nil))))) (pw_or (pt_cmpR (op_eqTup0 hu0) (pv 2) (pe_tup pa_nil) (nomark _)) (pw_or1 (pt_not (pt_val (pe_callB call_isi (by rfl) B.isi (by decide +kernel) (pa_cons (pe_ix ix_tup (pv 2) pe_int (fun _ _ => rfl)) (pa_cons (pe_bltn (v := .ty "str") (by rfl) B.str (by decide +kernel) rfl) pa_nil))))))))) (pss_one (ps_ret pe_bl)) pss_nil)
      (pss_cons (ps_if (PW.pt (pw_or (pt_cmpR op_eq (pe_ix ix_tup (pv 2) pe_int (fun _ _ => rfl)) pe_str (nomark _)) (pw_or1 (pt_cmpR op_eq (pe_ix ix_tup (pv 2) pe_int (fun _ _ => rfl)) pe_str (nomark _))))) (pss_one (ps_ret (pe_ifExp (pt_cmpR op_eq (pe_ix ix_tup (pv 2) pe_int (fun _ _ => rfl)) pe_str (nomark _)) (pe_cmpR op_eq (pe_callB call_len (by rfl) B.len (by decide +kernel) (pa_cons (pv 2) pa_nil)) pe_int (nomark _)) (pe_and (pe_cmpR op_eq (pe_callB call_len (by rfl) B.len (by decide +kernel) (pa_cons (pv 2) pa_nil)) pe_int (nomark _)) (pe_one (pe_call GW (hr.mono (by decide)) (by rfl) gW FW.kp bW .nil pass0 (pa_cons (pv 0) (pa_cons (pe_ix ix_tup (pv 2) pe_int (fun _ _ => rfl)) pa_nil)))))))) pss_nil)
      (pss_cons (ps_if (PW.pt (pw_or (pt_cmpR op_ne (pe_ix ix_tup (pv 2) pe_int (fun _ _ => rfl)) pe_str (nomark _)) (pw_or (pt_cmpR op_ne (pe_callB call_len (by rfl) B.len (by decide +kernel) (pa_cons (pv 2) pa_nil)) (pe_op op_add pe_int (pe_callB call_len (by rfl) B.len (by decide +kernel) (pa_cons (pv 0) pa_nil))) (nomark _)) (pw_or1 (PW.pt (pw_and (pt_cmpR op_notN (pe_ix ix_tup (pv 2) pe_int (fun _ _ => rfl)) pe_non (nomark _)) (pw_and1 (pt_not (pt_val (pe_call GW (hr.mono (by decide)) (by rfl) gW FW.kp bW .nil pass0 (pa_cons (pv 0) (pa_cons (pe_ix ix_tup (pv 2) pe_int (fun _ _ => rfl)) pa_nil)))))))))))) (pss_one (ps_ret pe_bl)) pss_nil)
      (pss_one (ps_ret (PE_imp (t' := tComp K) (pe_cmpR (op_eqNil hu0) (pe_lc (own := [("_law_t", 3)]) (g := gName 3) rfl sc__law_is_node.nd (pi_tup (pe_slice sl_tup (pv 2) (po_some pe_int) po_none)) (blkOk_by (own := [("_law_t", 3)]) (N := ["_law_signs", "_law_size", "_law_it", "_law_t"]) (sc := defScope s__law_is_node) (by decide +kernel)) (fun _ _ _ _ _ => pg_name (i := 3) sc__law_is_node.nd rfl (Or.inl rfl))
        (fun _ _ _ _ _ => pts_one (PT_imp (t' := tBadT K) (PW.pt (pw_or (pt_not (pt_val (pe_callB call_isi (by rfl) B.isi (by decide +kernel) (pa_cons (pv 3) (pa_cons (pe_bltn (v := .ty "int") (by rfl) B.int (by decide +kernel) rfl) pa_nil))))) (pw_or (pt_val (pe_callB call_isi (by rfl) B.isi (by decide +kernel) (pa_cons (pv 3) (pa_cons (pe_bltn (v := .ty "bool") (by rfl) B.bool (by decide +kernel) rfl) pa_nil)))) (pw_or1 (pt_not (pt_chain op_le op_lt pe_int (pv 3) (pv 1))))))) (fun σ H Q h => by
          obtain ⟨v, d, m, h3, h1, hd, q⟩ := h
          rcases dg_int hd with ⟨i, rfl, rfl⟩ | ⟨b, rfl, rfl⟩ | ⟨⟨a, t, k⟩, nx⟩
          · refine ⟨_, h3, _, .ty "int", _, _, true, rfl, .ty _, .base (.int _), kit_ty (by decide +kernel), true, rfl, ifF rfl ⟨_, h3, _, .ty "bool", _, _, false, rfl, .ty _, .base (.int _), kit_ty (by decide +kernel), false, rfl, ifF rfl ?_⟩⟩
            have q : Q (!(decide (0 ≤ i) && decide (i < ((m : Nat) : Int)))) H := q
            refine ⟨_, h3, 0, i, rfl, rfl, _, rfl, ?_⟩
            cases e0 : decide ((0 : Int) ≤ i) with
            | false =>
              rw [e0] at q
              exact ifF rfl ⟨_, rfl, q⟩
            | true =>
              rw [e0] at q
              exact ifT rfl ⟨_, h1, i, _, rfl, rfl, _, rfl, q⟩
          · exact ⟨_, h3, _, .ty "int", _, _, true, rfl, .ty _, .base (.bl _), kit_ty (by decide +kernel), true, rfl, ifF rfl ⟨_, h3, _, .ty "bool", _, _, true, rfl, .ty _, .base (.bl _), kit_ty (by decide +kernel), true, rfl, ifT rfl q⟩⟩
          · rw [nx] at q
            exact ⟨_, h3, _, .ty "int", _, _, false, rfl, .ty _, t, k, false, rfl, ifT rfl q⟩))) (fun _ _ _ _ _ => (pv 3))) (Mq.pe_ls pa_nil) (nomark _)) (fun σ H Q h => by
          obtain ⟨v0, m, p, o3, xs, ds, rfl, hp, ha, h2, hxl, q⟩ := h
          have hl := ha.len
          refine ⟨_, rfl, 2, rfl, p, _, rfl, hp, ?_, fun p1 hp1 => ?_⟩
          · rintro ⟨z, _⟩
            rw [show HT.sIx xs.length 0 (some 2) = 2 by show HT.sIx _ 0 (some ((2 : Nat) : Int)) = 2; rw [HT.sIx_nat]; omega] at z
            cases z
          · rw [show cutV xs (some 2) none = xs.drop 2 from cut_back xs 2]
            have s1 := same_new (o := HO.tup (xs.drop 2)) hp1
            have z1 : SqT K (upd H p1 (.tup (xs.drop 2))) p1 (xs.drop 2) := Or.inl (Or.inl upd_same)
            generalize upd H p1 (.tup (xs.drop 2)) = H1 at s1 z1 ⊢
            refine ⟨_, rfl, ⟨_, z1⟩, fun L hL => ?_⟩
            have hlen : (xs.drop 2).length = ds.length - 2 := by rw [List.length_drop, hl]
            refine lc_it (walk_tup (K := K) (a := p1) (xs := xs.drop 2)) (fun i H' => Same H1 H' ∧ ∃ vs, H' L = some (.lst vs) ∧ vs.length ≤ i ∧ vs.isEmpty = ((List.range i).filter fun k => !belowD m (ds.getD (k + 2) .none)).isEmpty) ⟨same_new hL, _, upd_same, Nat.le_refl 0, rfl⟩ (fun i H' _ p => Same.tup p.1 z1) ?_ ?_
            · rintro i x H2 H2' hi ⟨s2, vs, zL, hvl, hvs⟩ ⟨rfl, hx⟩
              have hi2 : i + 2 < xs.length := by
                rw [List.length_drop] at hi
                omega
              have hx' : x = xs[i + 2] := by
                have h1 : (xs.drop 2)[i]? = some x := hx
                rw [List.getElem?_drop, Nat.add_comm, List.getElem?_eq_getElem hi2] at h1
                exact (Option.some.inj h1).symm
              have hg : Dg K H2' x (ds.getD (i + 2) .none) := by
                rw [hx']
                exact (dgall_at ha hi2).same (s1.trans s2)
              refine ⟨rfl, x, _, m, rfl, rfl, hg, ?_⟩
              have er := filt_range (fun k => !belowD m (ds.getD (k + 2) .none)) i
              by_cases hb : (!belowD m (ds.getD (i + 2) .none)) = true
              · rw [if_pos hb] at er
                refine ifT hb ⟨_, rfl, _, zL, sz_lt (by omega), push_same hL s2, _, upd_same, by rw [List.length_append]; exact Nat.succ_le_succ hvl, ?_⟩
                rw [er, app1_empty, app1_empty]
              · rw [if_neg hb, List.append_nil] at er
                refine ifF (Bool.eq_false_iff.mpr hb) ⟨s2, vs, zL, by omega, ?_⟩
                rw [er]
                exact hvs
            · rintro H2 ⟨s2, vs, zL, hvl, hvs⟩
              refine ⟨sz_le (n := 0) (by decide), fun p2 hp2 _ => ?_⟩
              have s3 := same_new (o := HO.lst []) hp2
              refine ⟨L, p2, _, rfl, rfl, SqL.of (s3 _ _ zL), SqL.of upd_same, ?_⟩
              have e : vs.isEmpty = belowAllB m ds := by
                rw [hvs, hlen]
                exact (all_filter (ds.length - 2) fun k => belowD m (ds.getD (k + 2) .none)).symm
              rw [e]
              exact q _ ((s1.trans s2).trans s3)))))))), ?_⟩
    rcases dg_tup hd with ⟨p, xs, ds, rfl, rfl, hp, ha⟩ | ⟨⟨a, t, m, n⟩, nx⟩
    rotate_left
    · rw [nodeD_no nx] at q
      exact ⟨_, rfl, _, .ty "tuple", _, _, false, rfl, .ty _, t, kit_noT m n, false, rfl, iteT (ifT rfl (q H (Same.refl H)))⟩
    have q : ∀ H', Same H H' → Q (.bl (nodeB sg m ds)) H' := q
    have hwd : PyData.weightAll ds ≤ 80000 := hw
    have hl := ha.len
    refine ⟨_, rfl, _, .ty "tuple", _, _, true, rfl, .ty _, ty_tup hp, kit_ty (by decide +kernel), true, rfl, ifF rfl ⟨_, rfl, sz_le (n := 0) (by decide), fun p0 hp0 => ?_⟩⟩
    have s1 := same_new (o := HO.tup []) hp0
    refine ⟨p, p0, xs, rfl, rfl, Same.tup s1 hp, Or.inl (Or.inl upd_same), _, rfl, ?_⟩
    generalize upd H p0 (.tup []) = H1 at s1 ⊢
    clear hp0
    have hp1 := Same.tup s1 hp
    unfold nodeB at q
    cases ha with
    | nil => exact ifT rfl (ifT rfl (q H1 s1))
    | @cons v0 xs d0 ds g0 ha =>
      refine ifF rfl ⟨_, rfl, p, _, 0, _, rfl, rfl, hp1, atI_nat (j := 0) rfl, v0, .ty "str", ?_⟩
      rcases dg_str g0 with ⟨x, rfl, rfl⟩ | ⟨⟨a, t, mm, n⟩, nx⟩
      rotate_left
      · have e : headD (d0 :: ds) = none := by
          cases d0 with
          | str x => exact (nx x rfl).elim
          | _ => rfl
        rw [e] at q
        refine ⟨_, _, false, rfl, .ty _, (g0.same s1).ty, kit_no (kind_in d0) ?_, false, rfl, ifT rfl (q H1 s1)⟩
        cases d0 with
        | str x => exact (nx x rfl).elim
        | _ => simp [Mq.kindOf]
      refine ⟨_, _, true, rfl, .ty _, .base (.str _), kit_self, true, rfl, ifF rfl ?_⟩
      dsimp only [headD] at q
      have hxl : (V.str (S x) :: xs).length ≤ 80000 := by
        rw [hl]
        exact Nat.le_trans (weight_len _) hwd
      have a0 : atI (V.str (S x) :: xs) 0 = some (.str (S x)) := atI_nat (j := 0) rfl
      have eS : ∀ z : Str, decide (V.str (S x) = V.str z) = decide (S x = z) := fun z => decide_eq_decide.mpr ⟨V.str.inj, fun e => by rw [e]⟩
      have eL : ∀ k : Nat, decide (V.int ((V.str (S x) :: xs).length : Nat) = V.int (k : Nat)) = decide ((PyData.str (S x) :: ds).length = k) := fun k => by
        rw [dec_int, hl]
        exact decide_eq_decide.mpr ⟨fun h => by omega, fun h => by omega⟩
      have hall : DgAll K H (V.str (S x) :: xs) (PyData.str (S x) :: ds) := .cons g0 ha
      refine ⟨_, rfl, p, _, 0, _, rfl, rfl, hp1, a0, rfl, _, rfl, ?_⟩
      rw [eS]
      cases e1 : decide (S x = "none") with
      | true =>
        have ex : S x = "none" := of_decide_eq_true e1
        have e2 : decide (S x = "stops") = false := by rw [ex]; decide +kernel
        rw [e2, e1, if_neg (by decide), if_pos rfl] at q
        refine ifT rfl (ifT rfl ⟨_, rfl, p, _, 0, _, rfl, rfl, hp1, a0, rfl, _, rfl, ?_⟩)
        rw [eS, e1]
        refine ifT rfl ⟨_, rfl, _, _, rfl, len_tup hp1, rfl, ?_⟩
        rw [show decide (V.int ((V.str (S x) :: xs).length : Nat) = V.int 1) = _ from eL 1]
        exact q H1 s1
      | false =>
        refine ifF rfl ⟨_, rfl, p, _, 0, _, rfl, rfl, hp1, a0, rfl, _, rfl, ?_⟩
        rw [eS]
        cases e2 : decide (S x = "stops") with
        | true =>
          rw [e2, if_pos rfl] at q
          refine ifT rfl ⟨_, rfl, p, _, 0, _, rfl, rfl, hp1, a0, rfl, _, rfl, ?_⟩
          rw [eS, e1]
          refine ifF rfl ⟨_, rfl, _, _, rfl, len_tup hp1, rfl, _, rfl, ?_⟩
          rw [show decide (V.int ((V.str (S x) :: xs).length : Nat) = V.int 2) = _ from eL 2]
          cases e3 : decide ((PyData.str (S x) :: ds).length = 2) with
          | false =>
            rw [e3] at q
            exact ifF rfl (q H1 s1)
          | true =>
            rw [e3] at q
            have h2 : 1 < (V.str (S x) :: xs).length := by
              have := of_decide_eq_true e3
              omega
            refine ifT rfl ⟨_, rfl, _, rfl, p, _, 1, _, rfl, rfl, hp1, atI_nat (j := 1) (List.getElem?_eq_getElem h2), sg, _, _, rfl, (dgall_at hall h2).same s1, ?_, fun H2 s2 => q H2 (s1.trans s2)⟩
            have := weight_at (ds := PyData.str (S x) :: ds) (i := 1)
            omega
        | false =>
          rw [e2, e1, if_neg (by decide), if_neg (by decide)] at q
          refine ifF rfl ⟨_, rfl, p, _, 0, _, rfl, rfl, hp1, a0, rfl, _, rfl, ?_⟩
          rw [eS]
          unfold readB at q
          have eR : decide (headD (PyData.str (S x) :: ds) = some ("reads" : Str)) = decide (S x = "reads") := decide_eq_decide.mpr ⟨fun h => Option.some.inj h, fun h => congrArg some h⟩
          rw [eR] at q
          cases e3 : decide (S x = "reads") with
          | false =>
            rw [e3] at q
            have q : ∀ H', Same H H' → Q (.bl false) H' := fun H' s' => by
              have z := q H' s'
              rw [Bool.false_and, Bool.and_false, Bool.false_and] at z
              exact z
            exact ifT rfl (ifT rfl (q H1 s1))
          | true =>
            rw [e3] at q
            refine ifF rfl ⟨_, rfl, _, _, rfl, len_tup hp1, _, rfl, _, _, rfl, len_S (by omega), _, _, rfl, rfl, rfl, _, rfl, ?_⟩
            have e4 : decide (V.int ((V.str (S x) :: xs).length : Nat) = V.int (2 + (sg.length : Nat))) = decide ((PyData.str (S x) :: ds).length = sg.length + 2) := by
              rw [dec_int, hl]
              exact decide_eq_decide.mpr ⟨fun h => by omega, fun h => by omega⟩
            rw [e4]
            cases e5 : decide ((PyData.str (S x) :: ds).length = sg.length + 2) with
            | false =>
              rw [e5] at q
              exact ifT rfl (ifT rfl (q H1 s1))
            | true =>
              rw [e5] at q
              have el : (PyData.str (S x) :: ds).length = sg.length + 2 := of_decide_eq_true e5
              have h2 : 1 < (V.str (S x) :: xs).length := by omega
              have a1 : atI (V.str (S x) :: xs) 1 = some (V.str (S x) :: xs)[1] := atI_nat (j := 1) (List.getElem?_eq_getElem h2)
              have g1 := dgall_at hall h2
              have rest : ∀ H2, Same H H2 → (noneD ((PyData.str (S x) :: ds).getD 1 .none) || webD sg ((PyData.str (S x) :: ds).getD 1 .none)) = true → ∀ H3, Same H H3 → Q (.bl (belowAllB m (PyData.str (S x) :: ds))) H3 := by
                intro H2 s2 e H3 s3
                have z := q H3 s3
                rw [e, Bool.and_true, Bool.true_and, Bool.true_and] at z
                exact z
              refine ifF rfl ⟨_, rfl, p, _, 1, _, rfl, rfl, hp1, a1, rfl, _, rfl, ?_⟩
              have en : (!decide ((V.str (S x) :: xs)[1] = V.non)) = !noneD ((PyData.str (S x) :: ds).getD 1 .none) := by rw [dg_none g1]
              rw [en]
              cases e6 : noneD ((PyData.str (S x) :: ds).getD 1 .none) with
              | true =>
                refine ifF rfl (ifF rfl ⟨_, _, _, _, _, _, rfl, hp1, (hall.same s1), by omega, by omega, fun H3 s3 => rest H1 s1 ?_ H3 (s1.trans s3)⟩)
                rw [e6]
                rfl
              | false =>
                refine ifT rfl ⟨_, rfl, _, rfl, p, _, 1, _, rfl, rfl, hp1, a1, sg, _, _, rfl, g1.same s1, ?_, fun H2 s2 => ⟨_, rfl, ?_⟩⟩
                · have := weight_at (ds := PyData.str (S x) :: ds) (i := 1)
                  omega
                · have t2 := s1.trans s2
                  cases e7 : webD sg ((PyData.str (S x) :: ds).getD 1 .none) with
                  | false =>
                    refine ifT rfl ?_
                    have z := q H2 t2
                    rw [e6, e7, Bool.or_false, Bool.and_false] at z
                    exact z
                  | true =>
                    refine ifF rfl ⟨_, _, _, _, _, _, rfl, Same.tup t2 hp, hall.same t2, by omega, by omega, fun H3 s3 => rest H2 t2 ?_ H3 (t2.trans s3)⟩
                    rw [e6, e7]
                    rfl
end
end Lw

namespace Lw
open PySem PySem.Spec PyProof.Rows L2 Mq
open SX (S)
/-! ### what is due, by the law -/
theorem call_lenK {X : Cx} {K : PySem.W.Frag} (h : X.K = K) : CallR X (.builtin "len") (fun xs H Q => ∃ x n, xs = [x] ∧ LenV K x H n ∧ Q (V.int (n : Nat)) H) := by
  subst h
  exact call_len
/-- the first number noted is the first that is wrong -/
def Noted (p : PyData → Bool) (ds : List PyData) (i : Nat) : List Nat → Prop
  | [] => firstBad p (ds.drop i) i = firstBad p ds 0
  | k :: _ => firstBad p ds 0 = some k
theorem Noted.bad {p : PyData → Bool} {ds : List PyData} {i : Nat} {d : PyData} {acc : List Nat} (h : Noted p ds i acc) (hd : ds[i]? = some d) (hb : p d = false) : Noted p ds (i + 1) (acc ++ [i]) := by
  cases acc with
  | nil =>
    have h : firstBad p (ds.drop i) i = firstBad p ds 0 := h
    rw [first_step hd, hb, if_neg (by decide)] at h
    exact h.symm
  | cons k ks => exact h
theorem Noted.good {p : PyData → Bool} {ds : List PyData} {i : Nat} {d : PyData} {acc : List Nat} (h : Noted p ds i acc) (hd : ds[i]? = some d) (hb : p d = true) : Noted p ds (i + 1) acc := by
  cases acc with
  | nil =>
    have h : firstBad p (ds.drop i) i = firstBad p ds 0 := h
    rw [first_step hd, hb, if_pos rfl] at h
    exact h
  | cons k ks => exact h
def spDue (K : PySem.W.Frag) : Sp := fun vs H Q _ => ∃ (v1 v2 : V) (d1 d2 : PyData) (w n : Nat), vs = [v1, v2] ∧ Dg K H v1 d1 ∧ Dg K H v2 d2 ∧ OkD w n d1 ∧ OkD w n d2 ∧ w ≤ 4000 ∧ ∀ H', Same H H' → Q (optW (dueM d1 d2)) H'
section
variable {P : Program} {w : World} {K : PySem.W.Frag} {mg : Str → Option Value} {base : Heap}
theorem ok_due {f fA fO : Addr} {fd fdA fdO : FuncData} (F : Fun K "_law_due" "_law_due" s__law_due f fd) (B : Blt mg)
    (FA : Fun K "_law_are_letters" "_law_are_letters" s__law_are_letters fA fdA) (gA : mg "_law_are_letters" = some (.ref fA)) (bA : Binds K fdA ["_law_it"] []) (GA : FnOk P w K mg base CX0 1 fA fdA ["_law_it"] (spAre K))
    (FO : Fun K "_law_is_node" "_law_is_node" s__law_is_node fO fdO) (gO : mg "_law_is_node" = some (.ref fO)) (bO : Binds K fdO ["_law_signs", "_law_size", "_law_it"] []) (GO : FnOk P w K mg base CX0 2 fO fdO ["_law_signs", "_law_size", "_law_it"] (spIsNode K)) :
    FnOk P w K mg base CX0 3 f fd ["_law_signs", "_law_nodes_here"] (spDue K) := by
  refine F.ok sc__law_due (fun vs H Q E h => ?_) (fun cdv A outer s H vs Q E hr h => ?_)
  · obtain ⟨_, _, _, _, _, _, rfl, _⟩ := h
    rfl
  · obtain ⟨v1, v2, d1, d2, wd, nd, rfl, g1, g2, ok1, ok2, hwd, q⟩ := h
    have hu0 : (A.deeper (envOfC "_law_due" (defScope s__law_due) s.heap.objs.size f cdv)).units < cLine := by
      have := hr.units
      omega
    refine ⟨_, (pss_cons (ps_if (pt_not (pt_val (pe_call GA (hr.mono (by decide)) (by rfl) gA FA.kp bA .nil pass0 (pa_cons (pv 0) pa_nil)))) (pss_one (ps_ret pe_str)) pss_nil)
      (pss_cons (ps_if (PW.pt (pw_or (pt_not (pt_val (pe_callB call_isi (by rfl) B.isi (by decide +kernel) (pa_cons (pv 1) (pa_cons (pe_bltn (v := .ty "tuple") (by rfl) B.tuple (by decide +kernel) rfl) pa_nil))))) (pw_or1 (pt_cmpR (op_eqTup0 hu0) (pv 1) (pe_tup pa_nil) (nomark _))))) (pss_one (ps_ret pe_str)) pss_nil)
      (pss_cons (ps_setLc (i := 2) (own := [("_law_k", 3), ("_law_it", 4)]) (g := gTup K 2 (gCons (gName 3) (gCons (gName 4) gNil))) rfl sc__law_due.nd rfl rfl (sw_true rfl rfl rfl (by decide +kernel)) (pi_enumT (by rfl) B.enumerate (pa_cons (pv 1) pa_nil)) (blkOk_by (own := [("_law_k", 3), ("_law_it", 4)]) (N := ["_law_signs", "_law_nodes_here", "_law_wrong", "_law_k", "_law_it"]) (sc := defScope s__law_due) (by decide +kernel)) (fun _ _ _ _ _ => pg_tup rfl (pgs_cons (pg_name (i := 3) sc__law_due.nd rfl (Or.inl rfl)) (pgs_cons (pg_name (i := 4) sc__law_due.nd rfl (Or.inl rfl)) pgs_nil))) (fun _ _ _ _ _ => pts_one (pt_not (pt_val (pe_call GO (hr.mono (by decide)) (by rfl) gO FO.kp bO .nil pass0 (pa_cons (pv 0) (pa_cons (pe_callB (call_lenK (K := K) rfl) (by rfl) B.len (by decide +kernel) (pa_cons (pv 1) pa_nil)) (pa_cons (pv 4) pa_nil))))))) (fun _ _ _ _ _ => (pv 3)))
      (pss_one (ps_ret (pe_ifExp (pt_cmpR (op_neNil hu0) (pv 2) (Mq.pe_ls pa_nil) (nomark _)) (pe_ix ix_list (pv 2) pe_int (fun _ _ => rfl)) pe_non)))))), ?_⟩
    refine ⟨_, rfl, v1, d1, wd, nd, rfl, g1, ok1, hwd, fun H1 s1 => ⟨_, rfl, ?_⟩⟩
    rcases dg_str g1 with ⟨sg, rfl, rfl⟩ | ⟨_, nx⟩
    rotate_left
    · rw [due_no nx] at q
      rw [lettersD_no nx]
      exact ifT rfl (q H1 s1)
    rw [due_str] at q
    have hsg : sg.length ≤ 4000 := Nat.le_trans ok1.text.1 hwd
    show (if (!lettersB sg) = true then _ else _)
    cases hlet : lettersB sg with
    | false =>
      rw [hlet, if_neg (by decide)] at q
      exact ifT rfl (q H1 s1)
    | true =>
      rw [hlet, if_pos rfl] at q
      refine ifF rfl ?_
      rcases dg_tup g2 with ⟨fa, xs, ds, rfl, rfl, hfa, ha⟩ | ⟨_, nx⟩
      rotate_left
      · rw [bodyN_no nx] at q
        have t1 : TyX K H1 v2 (.type (Mq.kindOf d2)) := (g2.same s1).ty
        have n1 : Mq.kindOf d2 ≠ "tuple" := by
          cases d2 with
          | tuple x => exact (nx x rfl).elim
          | _ => simp [Mq.kindOf]
        exact ⟨_, rfl, _, .ty "tuple", _, _, false, rfl, .ty _, t1, kit_noT (kind_in d2) n1, false, rfl, ifT rfl (ifT rfl (q H1 s1))⟩
      have hfa1 := Same.tup s1 hfa
      have hl := ha.len
      have hwd2 : PyData.weightAll ds ≤ 4000 := Nat.le_trans ok2.gs.we hwd
      have hlx : xs.length ≤ 4000 := by
        rw [hl]
        exact Nat.le_trans (weight_len ds) hwd2
      refine ⟨_, rfl, _, .ty "tuple", _, _, true, rfl, .ty _, ty_tup hfa1, kit_ty (by decide +kernel), true, rfl, ifF rfl ⟨_, rfl, sz_le (n := 0) (by decide), fun p hp => ?_⟩⟩
      have s2 : Same H (upd H1 p (.tup [])) := s1.trans (same_new hp)
      refine ⟨fa, p, xs, rfl, rfl, Same.tup s2 hfa, Or.inl (Or.inl upd_same), _, rfl, ?_⟩
      generalize upd H1 p (.tup []) = H2 at s2 ⊢
      rw [empty_len hl]
      unfold bodyN at q
      dsimp only at q
      cases e0 : ds.isEmpty with
      | true =>
        rw [e0, if_pos rfl] at q
        exact ifT rfl (q H2 s2)
      | false =>
        rw [e0, if_neg (by decide)] at q
        refine ifF rfl ⟨_, rfl, fa, xs, rfl, Same.tup s2 hfa, fun L hL => ?_⟩
        refine lc_it (walk_enumT (K := K) (a := fa) (xs := xs)) (fun i H' => Same H2 H' ∧ ∃ acc : List Nat, H' L = some (.lst (acc.map fun k => V.int (k : Nat))) ∧ acc.length ≤ i ∧ Noted (nodeD sg ds.length) ds i acc) ⟨same_new hL, [], upd_same, Nat.le_refl 0, rfl⟩ (fun i H' _ p => Same.tup (s2.trans p.1) hfa) ?_ ?_
        · rintro i x H4 H5 hi ⟨s4, acc, zL, hal, hno⟩ ⟨T1, y1, y2, rfl, hT, rfl, hy1, hy2⟩
          cases hy1
          obtain ⟨d, hd, hdg⟩ := ha.at hy2
          have s5 := same_new (o := HO.tup [V.int (i : Nat), y2]) hT
          have t5 := (s2.trans s4).trans s5
          have s45 := s4.trans s5
          have zL := s5 _ _ zL
          refine ⟨T1, _, rfl, Or.inl (Or.inl upd_same), rfl, _, _, rfl, _, _, rfl, rfl, rfl, ?_⟩
          generalize upd H4 T1 (.tup [V.int (i : Nat), y2]) = H5 at t5 s45 zL ⊢
          have hwm := weight_mem (List.mem_of_getElem? hd)
          refine ⟨_, rfl, _, rfl, _, _, rfl, len_tup (Same.tup t5 hfa), _, rfl, sg, ds.length, y2, d, by rw [hl]; rfl, by omega, hdg.same t5, by omega, fun H6 s6 => ⟨_, rfl, ?_⟩⟩
          have zL := s6 _ _ zL
          cases hb : nodeD sg ds.length d with
          | false =>
            refine ifT rfl ⟨_, rfl, _, zL, sz_lt (by rw [List.length_map]; omega), push_same hL (s45.trans s6), acc ++ [i], ?_, by rw [List.length_append]; exact Nat.succ_le_succ hal, hno.bad hd hb⟩
            rw [upd_same, List.map_append]
            rfl
          | true => exact ifF rfl ⟨s45.trans s6, acc, zL, by omega, hno.good hd hb⟩
        · rintro H4 ⟨s4, acc, zL, hal, hno⟩
          refine ⟨_, rfl, sz_le (n := 0) (by decide), fun p2 hp2 _ => ?_⟩
          have s5 := same_new (o := HO.lst []) hp2
          have t5 := (s2.trans s4).trans s5
          refine ⟨L, p2, _, rfl, rfl, SqL.of (s5 _ _ zL), SqL.of upd_same, _, rfl, ?_⟩
          cases acc with
          | nil =>
            have hno : firstBad (nodeD sg ds.length) (ds.drop xs.length) xs.length = firstBad (nodeD sg ds.length) ds 0 := hno
            rw [hl, List.drop_of_length_le (Nat.le_refl _)] at hno
            rw [← hno] at q
            exact ifF rfl (q _ t5)
          | cons k ks =>
            have hno : firstBad (nodeD sg ds.length) ds 0 = some k := hno
            rw [hno] at q
            exact ifT rfl ⟨_, rfl, L, _, 0, _, rfl, rfl, SqL.of (s5 _ _ zL), atI_nat (j := 0) rfl, q _ t5⟩
end
end Lw

namespace Mq
open PySem PySem.Spec PyProof.Rows L2
/-! ### error classes over a class of one's own, told by their objects -/
def ClsAt (K : PySem.W.Frag) (CM C : Addr) : Prop := ∃ nm q N bs sn sub ab col dd m0 m1 m2 m3 m5, K.lookup C = some (excClassObj nm q C N bs [.ref CM, .type "Exception", .type "BaseException", .type "object"] true sn sub ab col dd m0 m1 m2 m3 m5 "Exception.__new__")
section
variable {K : PySem.W.Frag} {CM C : Addr}
theorem ClsAt.isC (h : ClsAt K CM C) : (PySem.W.clsIn K C).isSome = true := by
  obtain ⟨_, _, _, _, _, _, _, _, _, _, _, _, _, _, h⟩ := h
  simp [PySem.W.clsIn, h, excClassObj]
theorem ClsAt.ty (h : ClsAt K CM C) : PySem.W.typeIn K (.ref C) = some (.type "type") := by
  obtain ⟨_, _, _, _, _, _, _, _, _, _, _, _, _, _, h⟩ := h
  simp [PySem.W.typeIn, h, excClassObj]
theorem ClsAt.has (h : ClsAt K CM C) : PySem.W.hasDictIn K C = true := by
  obtain ⟨_, _, _, _, _, _, _, _, _, _, _, _, _, _, h⟩ := h
  simp [PySem.W.hasDictIn, PySem.W.clsIn, h, excClassObj]
theorem ClsAt.mro (h : ClsAt K CM C) (b : Value) : PySem.W.mroIn K C b = some ((Value.ref C :: Value.ref CM :: exTail).contains b) := by
  obtain ⟨_, _, _, _, _, _, _, _, _, _, _, _, _, _, h⟩ := h
  simp [PySem.W.mroIn, PySem.W.clsIn, h, excClassObj, exTail]
theorem ClsAt.init (h : ClsAt K CM C) : PySem.W.excInitIn K C exTail "Exception.__new__" = true := by
  obtain ⟨_, _, _, _, _, _, _, _, _, _, _, _, _, _, h⟩ := h
  unfold PySem.W.excInitIn
  rw [h]
  simp [excClassObj, PySem.W.excTail, exTail]
theorem ClsAt.over (h : ClsAt K CM C) : PySem.W.excOver K C exTail = true := by
  obtain ⟨_, _, _, _, _, _, _, _, _, _, _, _, _, _, h⟩ := h
  unfold PySem.W.excOver PySem.W.clsIn
  rw [h]
  simp [excClassObj, PySem.W.excTail, exTail]
theorem ClsAt.keep (h : ClsAt K CM C) : PySem.W.keepIn K (.ref C) = true := by
  have ht := h.ty
  obtain ⟨_, _, _, _, _, _, _, _, _, _, _, _, _, _, h⟩ := h
  unfold PySem.W.keepIn
  dsimp only
  rw [h]
  dsimp only
  unfold PySem.W.specialIn
  rw [ht]
  show (fastLookup "type" "__call__" == some (some (Value.builtin "type.__call__"))) = true
  decide +kernel
theorem ClsAt.sub (h : ClsAt K CM C) (b : Value) : PySem.W.subIn K (.ref C) b = some ((Value.ref C :: Value.ref CM :: exTail).contains b) := h.mro b
theorem ref_eq (a b : Addr) : (Value.ref a == Value.ref b) = decide (a = b) := by
  by_cases h : a = b
  · subst h; simp
  · simp [h]
theorem ClsAt.kit {D : Addr} (h : ClsAt K CM C) (hD : ClsAt K CM D) (ne : D ≠ CM) : PySem.W.kitOne K (.ref C) (.ref D) = some (decide (C = D)) := by
  unfold PySem.W.kitOne
  by_cases e : C = D
  · subst e; simp
  · simp [e, PySem.W.kitCls, hD.isC, hD.ty, h.sub, exTail, Ne.symm e, ne]
theorem ClsAt.mill (h : ClsAt K CM C) (h1 : PySem.W.isClsIn K CM = true) (h2 : PySem.W.typeIn K (.ref CM) = some (.type "type")) : PySem.W.kitOne K (.ref C) (.ref CM) = some true := by
  have h1 : (PySem.W.clsIn K CM).isSome = true := h1
  unfold PySem.W.kitOne
  by_cases e : C = CM
  · subst e; simp
  · simp [e, PySem.W.kitCls, h1, h2, h.sub, exTail]
theorem ClsAt.typ (h : ClsAt K CM C) {n : String} (hm : PySem.W.kitMeta n = true) : PySem.W.kitOne K (.ref C) (.type n) = some (exTail.contains (.type n)) := by
  unfold PySem.W.kitOne
  simp [PySem.W.kitCls, hm, h.sub]
/-- what the written part says of such a class -/
structure ClsF (K : PySem.W.Frag) (CM C : Addr) : Prop where
  at_ : ClsAt K CM C
  ga : PySem.W.findIn K (.ref C) "__getattribute__" = some (some (.builtin "BaseException.__getattribute__"))
  gg : PySem.W.findIn K (.ref C) "__getattr__" = some none
  ca : PySem.W.findIn K (.ref C) "__class__" = some (some (.builtin "object.__class__"))
theorem ClsF.base (h : ClsF K CM C) : PySem.W.subIn K (.ref C) (.type "BaseException") = some true := by
  rw [h.at_.sub]
  simp [exTail]
theorem ClsF.xf (h : ClsF K CM C) : XfC K C := ⟨h.ga, h.gg, h.base, h.at_.has⟩
theorem ClsF.held (h : ClsF K CM C) (sp : PySem.W.specialIn K (.builtin "object.__class__") "__get__" = some (some (.builtin "getset_descriptor.__get__"))) (tk : PySem.W.takesIn K (.builtin "object.__class__") = some true) : HeldC K C :=
  ⟨h.at_.isC, h.ga, h.gg, h.base, h.ca, sp, tk, by rw [h.at_.mro]; simp [exTail]⟩
theorem exm_own (h : ClsF K CM C) : PySem.W.exmOne K (.ref C) (.ref C) = some true := by
  simp [PySem.W.exmOne, PySem.W.kitCls, h.at_.isC, h.at_.ty, h.at_.sub, exTail]
end
/-! ### the head's facts by a Hook of our own -/
def exB (fs : List (PySem.W.Frag → Bool)) (K : PySem.W.Frag) : Bool := fs.all fun f => f K
def obsM (n : Nat) (fn : List He.FnD) (fs : List (PySem.W.Frag → Bool)) (g : Addr → Option Obj) : He.Al × Bool :=
  (He.obsG n [] fn g, exB fs (He.frG g (He.asG g n)))
def hookM (n : Nat) (fn : List He.FnD) (fs : List (PySem.W.Frag → Bool)) : PySem.W.Hook where
  α := He.Al × Bool
  obs := fun s => obsM n fn fs s.heap.get?
  val := fun _ => (He.valE fn, true)
  says := fun _ h => ∃ K : PySem.W.Frag, K.In h ∧ He.SaysE [] fn K ∧ exB fs K = true
  of := fun w s e => ⟨He.frG s.heap.get? (He.asG s.heap.get? n), He.frG_in, congrArg Prod.fst e, congrArg Prod.snd e⟩
  keeps := fun w h h' ⟨K, a, b, c⟩ k => ⟨K, a.keeps k, b, c⟩
abbrev AlT := He.Al × Bool
theorem obsM_eq {n : Nat} {fn : List He.FnD} {fs : List (PySem.W.Frag → Bool)} {g : Addr → Option Obj} {s : Shared} (h : ∀ a, g a = s.heap.get? a) : obsM n fn fs g = (hookM n fn fs).obs s := by
  have e : g = s.heap.get? := funext h
  rw [e]
  rfl
theorem exAt {fs : List (PySem.W.Frag → Bool)} {K : PySem.W.Frag} (h : exB fs K = true) (i : Nat) {f : PySem.W.Frag → Bool} (e : fs[i]? = some f) : f K = true := List.all_eq_true.mp h f (List.mem_of_getElem? e)
def fFind (x n : Str) (v : Option Value) : PySem.W.Frag → Bool := fun K => He.eqO (PySem.W.findIn K (.ref (He.ga K x)) n) (some v)
def fInit (x : Str) : PySem.W.Frag → Bool := fun K => He.eqO (PySem.W.findIn K (.ref (He.ga K x)) "__init__") (some (some (.ref (He.ma K (He.ga K x) "__init__"))))
def fGlo (x : Str) : PySem.W.Frag → Bool := fun K => He.eqO (PySem.W.nsIn K mainGlobals x) (some (some (.ref (He.ga K x))))
def fFree (x : Str) : PySem.W.Frag → Bool := fun K => He.eqO (PySem.W.nsIn K mainGlobals x) (some none)
def fExc (x : Str) : PySem.W.Frag → Bool := fun K => PySem.W.excIn K (He.ga K x) exTail "Exception.__new__"
def clsB (K : PySem.W.Frag) (CM C : Addr) : Bool :=
  match K.lookup C with
  | some ⟨.type T, _, .cls cd, sl⟩ => decide (T = "type") && cd.hasDict && !cd.hasDel &&
      (match cd.mro with
       | [.ref a, .ref b, .type t1, .type t2, .type t3] => decide (a = C) && decide (b = CM) && decide (t1 = "Exception") && decide (t2 = "BaseException") && decide (t3 = "object")
       | _ => false) &&
      (match sl.toList with
       | [_, _, _, _, some (.builtin n), _] => decide (n = "Exception.__new__")
       | _ => false)
  | _ => false
def fCls (x : Str) : PySem.W.Frag → Bool := fun K => clsB K (He.ga K "MillError") (He.ga K x)
def fnB (K : PySem.W.Frag) (f : Addr) : Bool :=
  match K.lookup f with
  | some ⟨.type T, _, .func fd, _⟩ => decide (T = "function") && (match fd.kwdefaults with | .none => true | _ => false)
  | _ => false
def fFn (x : Str) : PySem.W.Frag → Bool := fun K => fnB K (He.ma K (He.ga K x) "__init__")
theorem clsB_ok {K : PySem.W.Frag} {CM C : Addr} (h : clsB K CM C = true) : ClsAt K CM C := by
  unfold clsB at h
  split at h
  · rename_i T dd cd sl hl
    obtain ⟨nm, bs, mro, N, qn, hd, sn, sub, ab, col, hdel⟩ := cd
    simp only [Bool.and_eq_true] at h
    obtain ⟨⟨⟨⟨h1, h2⟩, h3⟩, h4⟩, h5⟩ := h
    split at h4
    · simp only [Bool.and_eq_true, decide_eq_true_eq] at h4
      obtain ⟨⟨⟨⟨a1, a2⟩, a3⟩, a4⟩, a5⟩ := h4
      split at h5
      · rename_i m0 m1 m2 m3 n m5 hs
        have hs' := congrArg List.toArray hs
        rw [Array.toArray_toList] at hs'
        have e1 := of_decide_eq_true h1
        have e5 := of_decide_eq_true h5
        simp only [Bool.not_eq_true'] at h3
        subst e1 a1 a2 a3 a4 a5 e5 hs' h3
        have h2' : hd = true := h2
        subst h2'
        exact ⟨_, _, _, _, _, _, _, _, _, _, _, _, _, _, hl⟩
      · cases h5
    · cases h4
  · cases h
theorem fnB_ok {K : PySem.W.Frag} {f : Addr} {oc kV dV doc pm cd ct : Value} {od an : Option Addr} {osl : Array (Option Value)} {nm q : Str} {a : Arguments} {b : List Stmt} {s : Scope}
    (h : fnB K f = true) (l : K.lookup f = some ⟨oc, od, .func (PySem.W.fnOf nm q a b s dV kV doc pm an cd ct), osl⟩) : oc = .type "function" ∧ kV = .none := by
  unfold fnB at h
  rw [l] at h
  split at h
  · rename_i hh
    cases hh
    simp only [Bool.and_eq_true] at h
    obtain ⟨h1, h2⟩ := h
    refine ⟨by rw [of_decide_eq_true h1], ?_⟩
    split at h2
    · rfl
    · cases h2
  · cases h
theorem keep_fn {K : PySem.W.Frag} {f : Addr} {oc : Value} {od : Option Addr} {g : FuncData} {osl : Array (Option Value)} (l : K.lookup f = some ⟨oc, od, .func g, osl⟩) : PySem.W.keepIn K (.ref f) = true := by
  unfold PySem.W.keepIn
  dsimp only
  rw [l]
theorem walk_ofGE {l : PySem.W.OpenLaw} {n k : Nat} {q : Program} {loose : List Str}
    {XP : (Str → Option Value) → Heap → Prop} {YP : World → Heap → Prop} {d : DefRec} {CX : CXT} {x : Str}
    (hn : l.most = some n) (hn2 : n ≤ sizeLine) (hdf : d.params.defaults = []) (hr : Room k callerA)
    (F : ∀ (w : World) (mg : Str → Option Value) (fa : Addr) (h : Heap), YP w h → h.Ns mainGlobals mg → mg d.name = some (.ref fa) →
      ∃ (K : PySem.W.Frag) (fd : FuncData) (sp : Sp), K.In h ∧ (∀ (s : Shared) (u : Value), BindsTo s fd ⟨[u], []⟩ [(x, u)]) ∧
        (∀ (H : Hp) (a : Addr) (ns : List Int), ns.length ≤ n → Only H → SqL K H a (ns.map V.int) → sp [.ref a] H (fun v _ => v = .bl true) fun _ _ _ => False) ∧
        ∀ base : Heap, K.In base → base.Ns mainGlobals mg → FnG l.prog w K mg base CX k fa fd [x] sp)
    (hCX : ∀ (H : Hp) (s : Shared) (e : Value) (s' : Shared), CX [] H s (fun _ _ _ => False) e s' → False) :
    PySem.W.WalkO q loose XP YP l.row.toRowW d [] (fun f vs => PySem.call f vs) := by
  refine Att.attach_call hn hdf ?_
  intro w s₀ s₁ mg mb fa o pm cd doc a vs ns G Y ho hd hcd hmg hobj hints hlen hg
  obtain ⟨K, fd, sp, KX, hb, hsp, hF⟩ := F w mg fa _ Y G.T.g hmg
  exact law_callG KX G.T.g G.T.b G.T.builtins G.T.nolimit hg hobj hints (Nat.le_trans hlen hn2) hr hF hb
    (fun H hO hS => hsp H a ns hlen hO hS) (fun H e s' => hCX H s₁ e s')
theorem glo_of {K : PySem.W.Frag} {x : Str} (h : fGlo x K = true) : PySem.W.nsIn K mainGlobals x = some (some (.ref (He.ga K x))) := He.eqO_ok h
theorem free_of {K : PySem.W.Frag} {x : Str} (h : fFree x K = true) : PySem.W.nsIn K mainGlobals x = some none := He.eqO_ok h
theorem find_of {K : PySem.W.Frag} {x n : Str} {v : Option Value} (h : fFind x n v K = true) : PySem.W.findIn K (.ref (He.ga K x)) n = some v := He.eqO_ok h
theorem init_of {K : PySem.W.Frag} {x : Str} (h : fInit x K = true) : PySem.W.findIn K (.ref (He.ga K x)) "__init__" = some (some (.ref (He.ma K (He.ga K x) "__init__"))) := He.eqO_ok h
theorem cls_of {K : PySem.W.Frag} {x : Str} (h : fCls x K = true) : ClsAt K (He.ga K "MillError") (He.ga K x) := clsB_ok h
theorem exc_of {K : PySem.W.Frag} {x : Str} (h : fExc x K = true) : PySem.W.excIn K (He.ga K x) exTail "Exception.__new__" = true := h
/-! ### further facts -/
def fMeth (x n : Str) : PySem.W.Frag → Bool := fun K => He.eqO (PySem.W.findIn K (.ref (He.ga K x)) n) (some (some (.ref (He.ma K (He.ga K x) n)))) && PySem.W.isFn K (.ref (He.ma K (He.ga K x) n))
theorem meth_of {K : PySem.W.Frag} {x n : Str} (h : fMeth x n K = true) : PySem.W.findIn K (.ref (He.ga K x)) n = some (some (.ref (He.ma K (He.ga K x) n))) ∧ PySem.W.isFn K (.ref (He.ma K (He.ga K x) n)) = true := by
  obtain ⟨a, b⟩ := Bool.and_eq_true_iff.mp h
  exact ⟨He.eqO_ok a, b⟩
/-- a class of one's own, its objects made and read plainly -/
def fOwn (x : Str) : PySem.W.Frag → Bool := fun K => PySem.W.plainGet K (He.ga K x) Str.empty && (PySem.W.hasDictIn K (He.ga K x) && (PySem.W.plainOver K (He.ga K x) && (PySem.W.makesIn K (He.ga K x) && PySem.W.keepIn K (.ref (He.ga K x)))))
theorem own_of {K : PySem.W.Frag} {x : Str} (h : fOwn x K = true) : PySem.W.plainGet K (He.ga K x) Str.empty = true ∧ PySem.W.hasDictIn K (He.ga K x) = true ∧ PySem.W.plainOver K (He.ga K x) = true ∧ PySem.W.makesIn K (He.ga K x) = true ∧ PySem.W.keepIn K (.ref (He.ga K x)) = true := by
  obtain ⟨a, h⟩ := Bool.and_eq_true_iff.mp h
  obtain ⟨b, h⟩ := Bool.and_eq_true_iff.mp h
  obtain ⟨c, h⟩ := Bool.and_eq_true_iff.mp h
  obtain ⟨d, e⟩ := Bool.and_eq_true_iff.mp h
  exact ⟨a, b, c, d, e⟩
def fTxt (x v : Str) : PySem.W.Frag → Bool := fun K => match PySem.W.nsIn K mainGlobals x with
  | some (some (.str y _)) => decide (y = v)
  | _ => false
theorem txt_of {K : PySem.W.Frag} {x v : Str} (h : fTxt x v K = true) : ∃ t, PySem.W.nsIn K mainGlobals x = some (some (.str v t)) := by
  unfold fTxt at h
  split at h
  · rename_i y t e
    have := of_decide_eq_true h
    subst this
    exact ⟨t, e⟩
  · cases h
def fExm (x y : Str) (b : Bool) : PySem.W.Frag → Bool := fun K => decide (PySem.W.exmOne K (.ref (He.ga K x)) (.ref (He.ga K y)) = some b)
theorem exm_of {K : PySem.W.Frag} {x y : Str} {b : Bool} (h : fExm x y b K = true) : PySem.W.exmOne K (.ref (He.ga K x)) (.ref (He.ga K y)) = some b := of_decide_eq_true h
def fKit (x y : Str) (b : Bool) : PySem.W.Frag → Bool := fun K => decide (PySem.W.kitOne K (.ref (He.ga K x)) (.ref (He.ga K y)) = some b)
theorem kit_of {K : PySem.W.Frag} {x y : Str} {b : Bool} (h : fKit x y b K = true) : PySem.W.kitOne K (.ref (He.ga K x)) (.ref (He.ga K y)) = some b := of_decide_eq_true h
def fMro (x : Str) : PySem.W.Frag → Bool := fun K => decide (PySem.W.mroIn K (He.ga K x) (.type "object") = some true)
theorem mro_of {K : PySem.W.Frag} {x : Str} (h : fMro x K = true) : PySem.W.mroIn K (He.ga K x) (.type "object") = some true := of_decide_eq_true h
def fSp : PySem.W.Frag → Bool := fun K => He.eqO (PySem.W.specialIn K (.builtin "object.__class__") "__get__") (some (some (.builtin "getset_descriptor.__get__")))
theorem sp_of {K : PySem.W.Frag} (h : fSp K = true) : PySem.W.specialIn K (.builtin "object.__class__") "__get__" = some (some (.builtin "getset_descriptor.__get__")) := He.eqO_ok h
def fTk : PySem.W.Frag → Bool := fun K => decide (PySem.W.takesIn K (.builtin "object.__class__") = some true)
theorem tk_of {K : PySem.W.Frag} (h : fTk K = true) : PySem.W.takesIn K (.builtin "object.__class__") = some true := of_decide_eq_true h
def fMill : PySem.W.Frag → Bool := fun K => PySem.W.isClsIn K (He.ga K "MillError") && decide (PySem.W.typeIn K (.ref (He.ga K "MillError")) = some (.type "type"))
theorem mill_of {K : PySem.W.Frag} (h : fMill K = true) : PySem.W.isClsIn K (He.ga K "MillError") = true ∧ PySem.W.typeIn K (.ref (He.ga K "MillError")) = some (.type "type") := by
  obtain ⟨a, b⟩ := Bool.and_eq_true_iff.mp h
  exact ⟨a, of_decide_eq_true b⟩
end Mq

namespace Mq
open PySem PySem.Spec PyProof.Rows L2
/-! ### facts of the head for own classes with `==`: kinds that they are not, kinds that are not they -/
def fOwnEq (x : Str) : PySem.W.Frag → Bool := fun K => kinds6.all (fun T => decide (PySem.W.subIn K (.ref (He.ga K x)) (.type T) = some false)) &&
  (He.eqO (PySem.W.findIn K (.ref (He.ga K x)) "__ne__") (some (some (.builtin "object.__ne__"))) && (decide (PySem.W.mroIn K (He.ga K x) (.type "object") = some true) &&
  ((PySem.W.clsIn K (He.ga K x)).isSome && decide (PySem.W.typeIn K (.ref (He.ga K x)) = some (.type "type")))))
structure OwnEqK (K : PySem.W.Frag) (C : Addr) : Prop where
  own : OwnEq K C
  kits : ∀ T ∈ kinds6, PySem.W.kitOne K (.type T) (.ref C) = some false
theorem ownEq_of {K : PySem.W.Frag} {x : Str} (h : fOwnEq x K = true) : OwnEqK K (He.ga K x) := by
  obtain ⟨a, h⟩ := Bool.and_eq_true_iff.mp h
  obtain ⟨b, h⟩ := Bool.and_eq_true_iff.mp h
  obtain ⟨c, h⟩ := Bool.and_eq_true_iff.mp h
  obtain ⟨d, e⟩ := Bool.and_eq_true_iff.mp h
  have e := of_decide_eq_true e
  refine ⟨⟨fun T hT => of_decide_eq_true (List.all_eq_true.mp a T hT), He.eqO_ok b, of_decide_eq_true c⟩, fun T hT => ?_⟩
  have s := sub_kind (K := K) (C := He.ga K x) T hT
  unfold PySem.W.kitOne
  rw [if_neg (by simp)]
  show (if ((PySem.W.clsIn K (He.ga K x)).isSome && PySem.W.typeIn K (.ref (He.ga K x)) == some (.type "type")) = true then PySem.W.subIn K (.type T) (.ref (He.ga K x)) else none) = some false
  rw [d, e, s]
  simp
/-! ### calls by keywords turned round, behind self -/
def app2r {α : Type} (a b : List α) : List α := a ++ b.reverse
theorem kbn_1r2 {K : PySem.W.Frag} {x qual : Str} {st : Stmt} {f : Addr} {fd : FuncData} {p1 p2 p3 : Str} (F : Fun K x qual st f fd)
    (h : ∀ (kV doc pm : Value) (an : Option Addr) (cdv ct : Value) (a b c : Value), bindArgs (PySem.W.fnOf x qual (defArgs st) (defBody st) (defScope st) .none kV doc pm an cdv ct) ⟨[a], [(p3, b), (p2, c)]⟩ = pure [(p1, a), (p2, c), (p3, b)]) :
    KBn K fd [p1, p2, p3] 1 [p3, p2] app2r app2r := by
  obtain ⟨oc, od, kV, doc, pm, an, cdv, ct, osl, rfl, lk, hcd⟩ := F.ex
  refine ⟨fun s us ws _ h1 h2 => ?_, fun a b => a.append (vals_rev b)⟩
  match us, ws, h1, h2 with
  | [a], [b, c], _, _ => exact .of_eq (h kV doc pm an cdv ct a b c)
theorem KindV.same {K : PySem.W.Frag} {H H' : Hp} {y : V} {T : String} (h : KindV K H y T) (e : Same H H') : KindV K H' y T := by
  cases h with
  | non => exact .non
  | int i => exact .int i
  | str z => exact .str z
  | lst h => exact .lst (e.seq h)
  | tup h => exact .tup (Same.tup e h)
  | dct h => exact .dct (e _ _ h)
end Mq

namespace Lw
open PySem PySem.Spec PyProof.Rows L2 Mq
open SX (S)
/-! ### what is heard of two values -/
def lenD : PyData → Nat
  | .tuple ds => ds.length
  | _ => 0
def spLen (K : PySem.W.Frag) (C : Addr) : Sp := fun vs H Q _ => ∃ (r na : Addr) (sg : List Nat) (xs : List V), vs = [.ref r] ∧ RdAt H C r sg na ∧ SqT K H na xs ∧ Q (.int (xs.length : Nat)) H
theorem pe_fldK {X : Cx} {K0 : PySem.W.Frag} {e : Expr} {f : Str} {pos : Pos} {ta : TE} (hK : X.K = K0) (he : PE X e ta) (hb : attributeBase e f X.env (eval e X.env) = eval e X.env) : PE X (.Attribute e f pos) (tFld K0 ta f) := hK ▸ pe_fld he hb
structure ErrP (K : PySem.W.Frag) (mg : Str → Option Value) (CT CM fB : Addr) : Prop where
  txt : MqE_part.Txt K mg "BadReader" "BadReader.__init__" CT fB
  xf : XfC K CT
  nt : PySem.W.findIn K (.ref CT) "part" = some none
  held : HeldC K CT
  gM : mg "MillError" = some (.ref CM)
  kit : PySem.W.kitOne K (.ref CT) (.ref CM) = some true
  exm : PySem.W.exmOne K (.ref CT) (.ref CT) = some true
def spHeard (K : PySem.W.Frag) : Sp := fun vs H Q _ => ∃ (v1 v2 : V) (d1 d2 : PyData) (b : Bool), vs = [v1, v2, .bl b] ∧ Dg K H v1 d1 ∧ Dg K H v2 d2 ∧ d1.weight ≤ 80000 ∧ d2.weight ≤ 80000 ∧
  match dueM d1 d2 with
  | some p => ∀ H' q, Same H H' → q ≠ sysModules → H' q = some (.lst [.str "bad", p.v, .bl true]) → Q (.ref q) H'
  | none => ∀ H' q, Same H H' → q ≠ sysModules → H' q = some (.lst [.str "reader", v1, v2, .int (lenD d2 : Nat)]) → Q (.ref q) H'
section
variable {P : Program} {w : World} {K : PySem.W.Frag} {mg : Str → Option Value} {base : Heap} {C CT CM : Addr}
theorem ok_len {f : Addr} {fd : FuncData} (F : Fun K "__len__" "Reader.__len__" s_Reader___len__ f fd) (B : Blt mg) (R : RdC K C) : FnOk P w K mg base CX0 1 f fd ["self"] (spLen K C) := by
  refine F.ok sc_Reader___len__ (fun vs H Q E h => ?_) (fun cdv A outer s H vs Q E hr h => ?_)
  · obtain ⟨_, _, _, _, rfl, _⟩ := h
    rfl
  · obtain ⟨r, na, sg, xs, rfl, ⟨dx, h1⟩, hz, q⟩ := h
    exact ⟨_, pss_one (ps_ret (pe_callB call_len (by rfl) B.len (by decide +kernel) (pa_cons (pe_fld (pv 0) rfl) pa_nil))), _, rfl, r, C, dx, _, _, rfl, h1, R.cls, R.nN, rfl, _, _, rfl, len_tup hz, q⟩
theorem ok_heard {f fI fB fN : Addr} {fd fdI fdN : FuncData} (F : Fun K "_law_heard" "_law_heard" s__law_heard f fd) (B : Blt mg) (T : ErrP K mg CT CM fB) (R : RdC K C) (gC : mg "Reader" = some (.ref C))
    (MK : Mk K C fI) (bI : Binds K fdI ["self", "letters", "nodes"] []) (kI : KBn K fdI ["self", "letters", "nodes"] 1 ["nodes", "letters"] app2r app2r) (GI : FnOk P w K mg base (L2.CX P w) 6 fI fdI ["self", "letters", "nodes"] (spInitA K C CT))
    (mN : Meth K C "__len__" fN) (bN : Binds K fdN ["self"] []) (GN : FnOk P w K mg base CX0 1 fN fdN ["self"] (spLen K C)) :
    FnG P w K mg base CX0 9 f fd ["_law_signs", "_law_nodes_here", "_law_is_named"] (spHeard K) := by
  refine Mq.Fun.okG F sc__law_heard (fun vs H Q E h => ?_) (fun cdv A outer s H vs Q E gA hr h => ?_)
  · obtain ⟨_, _, _, _, _, rfl, _⟩ := h
    rfl
  · obtain ⟨v1, v2, d1, d2, b, rfl, g1, g2, hw1, hw2, q⟩ := h
    have hr7 : Room 7 (A.deeper (envOfC "_law_heard" (defScope s__law_heard) s.heap.objs.size f cdv)) := hr.mono (by decide)
    have hr2 : Room 2 (A.deeper (envOfC "_law_heard" (defScope s__law_heard) s.heap.objs.size f cdv)) := hr.mono (by decide)
    refine ⟨_, (pss_cons (ps_set (i := 3) sc__law_heard.nd rfl (Or.inl rfl) pe_non)
      (pss_cons (ps_try_as (i := 5) (Wout := fun _ _ _ _ => False) (c := .ref CT) rfl rfl sc__law_heard.nd rfl rfl ⟨rfl, by decide, Or.inl T.txt.gC⟩ takes0
        (fun W pn xe tk _ => pss_cons (ps_set (i := 4) sc__law_heard.nd rfl (Or.inl rfl) (pe_ifExp (pt_val (pv 2))
            (pe_makeKS (ES := WE W) MK GI hr7 (by rfl) gC kI (fun σ => passAt tk σ) (pk_cons (pv 1) (pk_cons (pv 0) pk_nil)))
            (pe_makeS (m := 2) (ES := WE W) MK GI hr7 (by rfl) gC bI rfl (fun σ => passAt tk σ) (pa_cons (pv 0) (pa_cons (pv 1) pa_nil)))))
          (pss_one (ps_set (i := 3) sc__law_heard.nd rfl (Or.inl rfl) (Mq.pe_ls (pa_cons pe_str (pa_cons (pe_fldK (K0 := K) rfl (pv 4) rfl) (pa_cons (pe_fldK (K0 := K) rfl (pv 4) rfl) (pa_cons (pe_callB (call_lenO (E := fun _ _ _ => False) mN GN hr2 bN pass0) (by rfl) B.len (by decide +kernel) (pa_cons (pv 4) pa_nil)) pa_nil))))))))
        (fun a oe cls d pn hz hf => pss_one (ps_set (i := 3) sc__law_heard.nd rfl (Or.inl rfl) (Mq.pe_ls (pa_cons pe_str (pa_cons (pe_xf T.xf T.nt hz hf (pv 5)) (pa_cons (pe_callB (call_heldX T.held hz hf) (by rfl) B.isi (by decide +kernel) (pa_cons (pv 5) (pa_cons (pe_glob (v := .ref CM) (by rfl) T.gM rfl) pa_nil))) pa_nil)))))))
      (pss_one (ps_ret (pv 3))))), ?_⟩
    have fresh : ∀ x dx, H x = none → H dx = none → dx ≠ x → Same H (upd (upd H dx (.own x)) x (.ins C dx [])) := by
      intro x dx hx hdx hne
      have hx5 : upd H dx (.own x) x = none := (upd_ne (Ne.symm hne)).trans hx
      exact (same_new (o := HO.own x) hdx).trans (same_new (o := HO.ins C dx []) hx5)
    have good : ∀ x dx, H x = none → H dx = none → dx ≠ x → ∀ (H1 : Hp), (∀ b o, upd (upd H dx (.own x)) x (.ins C dx []) b = some o → b ≠ x → H1 b = some o) → Same H H1 := by
      intro x dx hx hdx hne H1 kp b o e
      refine kp b o (fresh x dx hx hdx hne b o e) ?_
      rintro rfl
      rw [hx] at e
      cases e
    have finB : ∀ p : Wr, (∀ H' q, Same H H' → q ≠ sysModules → H' q = some (.lst [.str "bad", p.v, .bl true]) → Q (.ref q) H') → ∀ H1 dd, Same H H1 → H1 dd = none → ∀ q, upd H1 dd (.xd [("part", p.v)]) q = none → q ≠ sysModules → Q (.ref q) (upd (upd H1 dd (.xd [("part", p.v)])) q (.lst [.str "bad", p.v, .bl true])) := by
      intro p q H1 dd s1 hdd r hr hne
      exact q _ r ((s1.trans (same_new hdd)).trans (same_new hr)) hne upd_same
    cases b with
    | true =>
      refine ⟨_, rfl, _, rfl, ifT rfl ?_⟩
      refine ⟨_, rfl, _, rfl, rfl, fun x dx hx hdx hne => ?_⟩
      have s6 := fresh x dx hx hdx hne
      refine ⟨x, dx, v1, v2, d1, d2, rfl, upd_same, g1.same s6, g2.same s6, hw1, hw2, ?_⟩
      cases e : dueM d1 d2 with
      | some p =>
        rw [e] at q
        intro H1 dd s1 hdd
        refine ⟨true, T.exm, fun _ a0 ha0 => ?_, fun z => nomatch z⟩
        exact ⟨_, rfl, rfl, rfl, dd, _, _, rfl, upd_same, rfl, _, rfl, rfl, dd, CM, _, true, rfl, rfl, upd_same, T.kit, sz_le (n := 3) (by decide), fun r hr hne => ⟨_, rfl, finB p q H1 dd (s6.trans s1) hdd r hr hne⟩⟩
      | none =>
        rw [e] at q
        intro H1 sg na e1 e2 e3 hb kp
        have s1 := good x dx hx hdx hne H1 kp
        subst e1
        subst e3
        rcases dg_tup g2 with ⟨na', xs, ds, e4, rfl, hp, ha⟩ | ⟨_, nx⟩
        rotate_left
        · obtain ⟨_, ds, _, e5, _⟩ := due_none e
          exact (nx ds e5).elim
        cases e4
        have hb' := hb
        obtain ⟨dx', h1⟩ := hb'
        refine ⟨rfl, _, rfl, x, C, dx', _, _, rfl, h1, R.cls, R.nL, rfl, _, rfl, x, C, dx', _, _, rfl, h1, R.cls, R.nN, rfl, _, rfl, x, dx', _, rfl, h1, ⟨x, na, sg, xs, rfl, hb, Same.tup s1 hp, _, rfl, (by rw [ha.len]; exact Nat.le_trans (Nat.le_trans (weight_len ds) hw2) (by decide)), ?_⟩⟩
        refine ⟨sz_le (n := 4) (by decide), fun r hr hne => ⟨_, rfl, ?_⟩⟩
        refine q _ r (s1.trans (same_new hr)) hne ?_
        rw [upd_same, ha.len]
        rfl
    | false =>
      refine ⟨_, rfl, _, rfl, ifF rfl ?_⟩
      refine ⟨_, rfl, _, rfl, rfl, fun x dx hx hdx hne => ?_⟩
      have s6 := fresh x dx hx hdx hne
      refine ⟨x, dx, v1, v2, d1, d2, rfl, upd_same, g1.same s6, g2.same s6, hw1, hw2, ?_⟩
      cases e : dueM d1 d2 with
      | some p =>
        rw [e] at q
        intro H1 dd s1 hdd
        refine ⟨true, T.exm, fun _ a0 ha0 => ?_, fun z => nomatch z⟩
        exact ⟨_, rfl, rfl, rfl, dd, _, _, rfl, upd_same, rfl, _, rfl, rfl, dd, CM, _, true, rfl, rfl, upd_same, T.kit, sz_le (n := 3) (by decide), fun r hr hne => ⟨_, rfl, finB p q H1 dd (s6.trans s1) hdd r hr hne⟩⟩
      | none =>
        rw [e] at q
        intro H1 sg na e1 e2 e3 hb kp
        have s1 := good x dx hx hdx hne H1 kp
        subst e1
        subst e3
        rcases dg_tup g2 with ⟨na', xs, ds, e4, rfl, hp, ha⟩ | ⟨_, nx⟩
        rotate_left
        · obtain ⟨_, ds, _, e5, _⟩ := due_none e
          exact (nx ds e5).elim
        cases e4
        have hb' := hb
        obtain ⟨dx', h1⟩ := hb'
        refine ⟨rfl, _, rfl, x, C, dx', _, _, rfl, h1, R.cls, R.nL, rfl, _, rfl, x, C, dx', _, _, rfl, h1, R.cls, R.nN, rfl, _, rfl, x, dx', _, rfl, h1, ⟨x, na, sg, xs, rfl, hb, Same.tup s1 hp, _, rfl, (by rw [ha.len]; exact Nat.le_trans (Nat.le_trans (weight_len ds) hw2) (by decide)), ?_⟩⟩
        refine ⟨sz_le (n := 4) (by decide), fun r hr hne => ⟨_, rfl, ?_⟩⟩
        refine q _ r (s1.trans (same_new hr)) hne ?_
        rw [upd_same, ha.len]
        rfl
end
end Lw

namespace Mq
open PySem PySem.Spec PyProof.Rows L2
open SX (S)
/-! ### small whole numbers in bounds -/
theorem okD_int {k : Nat} (h : k ≤ 4100) : OkD 20 0 (.int (k : Nat)) := by
  have h0 : ((List.range 4101).all fun n => decide ((PyData.int (n : Nat)).shown.length ≤ 13) && ((PyData.int (n : Nat)).showable && decide ((PyData.int (n : Nat)).weight ≤ 20))) = true := by decide +kernel
  have h1 := List.all_eq_true.mp h0 k (List.mem_range.mpr (by omega))
  obtain ⟨a, b⟩ := Bool.and_eq_true_iff.mp h1
  obtain ⟨b, c⟩ := Bool.and_eq_true_iff.mp b
  refine ⟨⟨b, Nat.le_refl 0, of_decide_eq_true c, ?_⟩, rfl⟩
  show decide ((PyData.int (k : Nat)).shown.length ≤ 60) = true
  have := of_decide_eq_true a
  exact decide_eq_true (by omega)
end Mq

namespace Lw
open PySem PySem.Spec PyProof.Rows L2 Mq
open SX (S)
/-! ### a book is made of two values just if they are its parts -/
theorem first_num {p : PyData → Bool} : ∀ {ds : List PyData} {i k : Nat}, firstBad p ds i = some k → k < i + ds.length
  | [], _, _, h => by cases h
  | d :: ds, i, k, h => by
    unfold firstBad at h
    split at h
    · have := first_num h
      rw [List.length_cons]
      omega
    · cases h
      rw [List.length_cons]
      omega
theorem due_ok {d1 d2 : PyData} {w n : Nat} {p : Wr} (h : dueM d1 d2 = some p) (h2 : OkD w n d2) (hw : w ≤ 4000) : OkD 20 0 p.d := by
  cases p with
  | letters => exact okD_of (by decide +kernel)
  | nodes => exact okD_of (by decide +kernel)
  | num k =>
    refine okD_int ?_
    cases d1 with
    | str x =>
      rw [← S_of x, due_str] at h
      cases hl : lettersB x.cps.toList with
      | false =>
        rw [hl] at h
        cases h
      | true =>
        rw [hl, if_pos rfl] at h
        cases d2 with
        | tuple ds =>
          unfold bodyN at h
          dsimp only at h
          cases h0 : ds.isEmpty with
          | true =>
            rw [h0] at h
            cases h
          | false =>
            rw [h0, if_neg (by decide)] at h
            cases h1 : firstBad (nodeD x.cps.toList ds.length) ds 0 with
            | none =>
              rw [h1] at h
              cases h
            | some k' =>
              rw [h1] at h
              cases h
              have := first_num h1
              obtain ⟨m, _, lo⟩ := h2.tup
              have := lo.len
              omega
        | _ => cases h
    | _ => cases h
def dueL (d1 d2 : PyData) : PyData :=
  match dueM d1 d2 with
  | none => .list [.str "reader", d1, d2, .int (lenD d2 : Nat)]
  | some p => .list [.str "bad", p.d, .bool true]
theorem dueL_ok {d1 d2 : PyData} {w n : Nat} (h1 : OkD w n d1) (h2 : OkD w n d2) (hw : w ≤ 4000) (hn : n ≤ 20) : OkD 9000 (n + 1) (dueL d1 d2) := by
  unfold dueL
  have sW : ∀ z : Str, okB 10 0 (.str z) = true → OkD 10 n (.str z) := fun z e => (okD_of e).mono (Nat.le_refl _) (Nat.zero_le _)
  cases e : dueM d1 d2 with
  | none =>
    have hl : lenD d2 ≤ 4100 := by
      cases d2 with
      | tuple ds =>
        obtain ⟨m, _, lo⟩ := h2.tup
        have := lo.len
        show ds.length ≤ 4100
        omega
      | _ => exact Nat.zero_le _
    exact ((LsOk.cons (sW "reader" (by decide +kernel)) (LsOk.cons h1 (LsOk.cons h2 (LsOk.cons ((okD_int hl).mono (Nat.le_refl _) (Nat.zero_le n)) (LsOk.nil (w := 0)))))).mono (by omega) (Nat.le_refl _)).lst
  | some p =>
    exact ((LsOk.cons (sW "bad" (by decide +kernel)) (LsOk.cons ((due_ok e h2 hw).mono (Nat.le_refl _) (Nat.zero_le n)) (LsOk.cons (w := 0) ⟨gs_bool true, rfl⟩ (LsOk.nil (w := 0))))).mono (by omega) (Nat.le_refl _)).lst
theorem two_ok {d e : PyData} {w n : Nat} (h : OkD w n d) (k : OkD w n e) (hw : w ≤ 90000) (hn : n ≤ 30) : ShowOk (.list [d, e]) :=
  ((LsOk.cons h (LsOk.cons k (LsOk.nil (w := 0)))).lst).ok (by omega) (by omega)
def tDueL (K : PySem.W.Frag) : TE := fun σ H Q => ∃ v1 v2 d1 d2 w n, σ[0]? = some (some v1) ∧ σ[1]? = some (some v2) ∧ σ[2]? = some (some (optW (dueM d1 d2))) ∧ Dg K H v1 d1 ∧ Dg K H v2 d2 ∧ OkD w n d1 ∧ OkD w n d2 ∧ w ≤ 4000 ∧
  ∀ H' a, Same H H' → Dg K H' (.ref a) (dueL d1 d2) → Q (.ref a) H'
theorem wr_dg {K : PySem.W.Frag} {H : Hp} (p : Wr) : Dg K H p.v p.d := by
  cases p with
  | letters => exact .str _
  | nodes => exact .str _
  | num k => exact .int _
def spMade (K : PySem.W.Frag) : Sp := fun vs H Q _ => ∃ (v1 v2 : V) (d1 d2 : PyData) (w n : Nat), vs = [v1, v2] ∧ Dg K H v1 d1 ∧ Dg K H v2 d2 ∧ OkD w n d1 ∧ OkD w n d2 ∧ w ≤ 4000 ∧ n ≤ 20 ∧ ∀ H', Same H H' → Q (.bl true) H'
section
variable {P : Program} {w : World} {K : PySem.W.Frag} {mg : Str → Option Value} {base : Heap}
theorem ok_made {f fD fH : Addr} {fd fdD fdH : FuncData} (F : Fun K "_law_made_right" "_law_made_right" s__law_made_right f fd) (B : Blt mg)
    (FD : Fun K "_law_due" "_law_due" s__law_due fD fdD) (gD : mg "_law_due" = some (.ref fD)) (bD : Binds K fdD ["_law_signs", "_law_nodes_here"] []) (GD : FnOk P w K mg base CX0 3 fD fdD ["_law_signs", "_law_nodes_here"] (spDue K))
    (FH : Fun K "_law_heard" "_law_heard" s__law_heard fH fdH) (gH : mg "_law_heard" = some (.ref fH)) (bH : Binds K fdH ["_law_signs", "_law_nodes_here", "_law_is_named"] []) (GH : FnG P w K mg base CX0 9 fH fdH ["_law_signs", "_law_nodes_here", "_law_is_named"] (spHeard K)) :
    FnG P w K mg base CX0 10 f fd ["_law_signs", "_law_nodes_here"] (spMade K) := by
  refine Mq.Fun.okG F sc__law_made_right (fun vs H Q E h => ?_) (fun cdv A outer s H vs Q E gA hr h => ?_)
  · obtain ⟨_, _, _, _, _, _, rfl, _⟩ := h
    rfl
  · obtain ⟨v1, v2, d1, d2, wd, nd, rfl, g1, g2, ok1, ok2, hw, hn, q⟩ := h
    refine ⟨_, (pss_cons (ps_par (i := 2) (j := 3) rfl sc__law_made_right.nd rfl rfl (by decide) rfl rfl (pa_cons (pe_call GD (hr.mono (by decide)) (by rfl) gD FD.kp bD .nil pass0 (pa_cons (pv 0) (pa_cons (pv 1) pa_nil))) (pa_cons (pe_callB (call_rep hr gA) (by rfl) B.repr (by decide +kernel) (pa_cons (Mq.pe_ls (pa_cons (pv 0) (pa_cons (pv 1) pa_nil))) pa_nil)) pa_nil)) (by rfl))
      (pss_cons (ps_set (i := 4) sc__law_made_right.nd rfl (Or.inl rfl) (PE_imp (t' := tDueL K) (pe_ifExp (pt_cmpR op_isN (pv 2) pe_non (nomark _)) (Mq.pe_ls (pa_cons pe_str (pa_cons (pv 0) (pa_cons (pv 1) (pa_cons (pe_callB call_len (by rfl) B.len (by decide +kernel) (pa_cons (pv 1) pa_nil)) pa_nil))))) (Mq.pe_ls (pa_cons pe_str (pa_cons (pv 2) (pa_cons pe_bl pa_nil))))) (fun σ H Q h => by
          obtain ⟨v1, v2, d1, d2, w, n, h0, h1, h2, g1, g2, ok1, ok2, hw, q⟩ := h
          refine ⟨_, h2, rfl, _, rfl, ?_⟩
          unfold dueL at q
          cases e : dueM d1 d2 with
          | none =>
            rw [e] at q h2
            rcases dg_tup g2 with ⟨na, xs, ds, rfl, rfl, hp, ha⟩ | ⟨_, nx⟩
            rotate_left
            · obtain ⟨_, ds, _, e5, _⟩ := due_none e
              exact (nx ds e5).elim
            have hlx : xs.length = ds.length := ha.len
            refine ifT rfl ⟨_, h0, _, h1, _, h1, _, _, rfl, len_tup hp, sz_le (n := 4) (by decide), fun p hp1 hne => ?_⟩
            have s1 := same_new (o := HO.lst [V.str "reader", v1, V.ref na, .int (xs.length : Nat)]) hp1
            refine q _ p s1 (.lst hne (SqL.of upd_same) (.cons (.str _) (.cons (g1.same s1) (.cons (g2.same s1) (.cons ?_ .nil)))))
            rw [hlx]
            exact .int _
          | some p =>
            rw [e] at q h2
            refine ifF (by cases p <;> rfl) ⟨_, h2, sz_le (n := 3) (by decide), fun r hr hne => ?_⟩
            have s1 := same_new (o := HO.lst [V.str "bad", p.v, .bl true]) hr
            exact q _ r s1 (.lst hne (SqL.of upd_same) (.cons (.str _) (.cons (wr_dg p) (.cons (.bl _) .nil)))))))
      (pss_cons (ps_set (i := 5) sc__law_made_right.nd rfl (Or.inl rfl) (Mq.pe_ls (pa_cons (pe_callG GH gA (hr.mono (by decide)) (by rfl) gH FH.kp bH pass0 (pa_cons (pv 0) (pa_cons (pv 1) (pa_cons pe_bl pa_nil)))) (pa_cons (pe_callG GH gA (hr.mono (by decide)) (by rfl) gH FH.kp bH pass0 (pa_cons (pv 0) (pa_cons (pv 1) (pa_cons pe_bl pa_nil)))) pa_nil))))
      (pss_one (ps_ret (pe_and (pe_cmpR op_eq (pe_callB (call_rep hr gA) (by rfl) B.repr (by decide +kernel) (pa_cons (pv 5) pa_nil)) (pe_callB (call_rep hr gA) (by rfl) B.repr (by decide +kernel) (pa_cons (Mq.pe_ls (pa_cons (pv 4) (pa_cons (pv 4) pa_nil))) pa_nil)) (nomark _)) (pe_one (pe_cmpR op_eq (pe_callB (call_rep hr gA) (by rfl) B.repr (by decide +kernel) (pa_cons (Mq.pe_ls (pa_cons (pv 0) (pa_cons (pv 1) pa_nil))) pa_nil)) (pv 3) (nomark _))))))))), ?_⟩
    have okP := two_ok ok1 ok2 (by omega) (by omega)
    have okL := dueL_ok ok1 ok2 hw hn
    have okT := two_ok okL okL (by decide) (by omega)
    have hw1 : d1.weight ≤ 80000 := Nat.le_trans ok1.gs.we (by omega)
    have hw2 : d2.weight ≤ 80000 := Nat.le_trans ok2.gs.we (by omega)
    have hear : ∀ (b : Bool) (H' : Hp) (Q' : VK) (E' : XK), Same H H' → (∀ H'' y, Same H' H'' → Dg K H'' y (dueL d1 d2) → Q' y H'') → spHeard K [v1, v2, .bl b] H' Q' E' := by
      intro b H' Q' E' s' k
      refine ⟨v1, v2, d1, d2, b, rfl, g1.same s', g2.same s', hw1, hw2, ?_⟩
      unfold dueL at k
      cases e : dueM d1 d2 with
      | some p =>
        rw [e] at k
        exact fun H'' r s'' hne z => k H'' _ s'' (.lst hne (SqL.of z) (.cons (.str _) (.cons (wr_dg p) (.cons (.bl _) .nil))))
      | none =>
        rw [e] at k
        intro H'' r s'' hne z
        have t := s'.trans s''
        exact k H'' _ s'' (.lst hne (SqL.of z) (.cons (.str _) (.cons (g1.same t) (.cons (g2.same t) (.cons (.int _) .nil)))))
    refine ⟨_, rfl, _, rfl, v1, v2, d1, d2, wd, nd, rfl, g1, g2, ok1, ok2, hw, fun H1 s1 => ?_⟩
    refine ⟨_, rfl, _, rfl, sz_le (n := 2) (by decide), fun pa hpa hna => ?_⟩
    have t2 := same_new (o := HO.lst [v1, v2]) hpa
    have s2 := s1.trans t2
    refine ⟨_, .list [d1, d2], rfl, .lst hna (SqL.of upd_same) (.cons (g1.same s2) (.cons (g2.same s2) .nil)), okP.sh, okP.de, okP.le, ?_⟩
    generalize upd H1 pa (.lst [v1, v2]) = H2 at s2 ⊢
    refine ⟨_, _, rfl, ?_⟩
    refine ⟨v1, v2, d1, d2, wd, nd, rfl, rfl, rfl, g1.same s2, g2.same s2, ok1, ok2, hw, fun H3 a t3 gd => ?_⟩
    have s3 := s2.trans t3
    refine ⟨_, rfl, _, rfl, ?_⟩
    dsimp only [tNil, tCons, tC]
    show spHeard K [v1, v2, .bl false] _ _ _
    refine hear false H3 _ _ s3 fun H4 y0 t4 e0 => ?_
    have s4 := s3.trans t4
    refine ⟨_, rfl, _, rfl, ?_⟩
    dsimp only [tNil, tCons, tC]
    show spHeard K [v1, v2, .bl true] _ _ _
    refine hear true H4 _ _ s4 fun H5 y1 t5 e1 => ?_
    have s5 := s4.trans t5
    refine ⟨sz_le (n := 2) (by decide), fun pt hpt hnt => ?_⟩
    have t6 := same_new (o := HO.lst [y0, y1]) hpt
    have zt : upd H5 pt (.lst [y0, y1]) pt = some (.lst [y0, y1]) := upd_same
    have e0 := (e0.same t5).same t6
    have e1 := e1.same t6
    have gd6 := ((gd.same t4).same t5).same t6
    have s6 := s5.trans t6
    generalize upd H5 pt (.lst [y0, y1]) = H6 at zt e0 e1 gd6 s6 ⊢
    refine ⟨_, rfl, _, .list [dueL d1 d2, dueL d1 d2], rfl, .lst hnt (SqL.of zt) (.cons e0 (.cons e1 .nil)), okT.sh, okT.de, okT.le, ?_⟩
    refine ⟨_, rfl, _, rfl, sz_le (n := 2) (by decide), fun pb hpb hnb => ?_⟩
    have t7 := same_new (o := HO.lst [V.ref a, .ref a]) hpb
    have s7 := s6.trans t7
    refine ⟨_, .list [dueL d1 d2, dueL d1 d2], rfl, .lst hnb (SqL.of upd_same) (.cons (gd6.same t7) (.cons (gd6.same t7) .nil)), okT.sh, okT.de, okT.le, ?_⟩
    generalize upd H6 pb (.lst [V.ref a, .ref a]) = H7 at s7 ⊢
    refine ⟨rfl, _, rfl, ifT (decide_eq_true rfl) ?_⟩
    refine ⟨_, rfl, _, rfl, sz_le (n := 2) (by decide), fun pc hpc hnc => ?_⟩
    have t8 := same_new (o := HO.lst [v1, v2]) hpc
    have s8 := s7.trans t8
    refine ⟨_, .list [d1, d2], rfl, .lst hnc (SqL.of upd_same) (.cons (g1.same s8) (.cons (g2.same s8) .nil)), okP.sh, okP.de, okP.le, ?_⟩
    refine ⟨_, rfl, rfl, ?_⟩
    rw [decide_eq_true rfl]
    exact q _ s8
end
end Lw

namespace Mq
open PySem PySem.Spec PyProof.Rows L2
/-! ### a value that is only read from here on -/
def tFrz (te : TE) : TE := fun σ H Q => te σ H fun x H1 => ∃ d u, x = .ref d ∧ H1 d = some u ∧ Mut (some u) ∧ ∀ od, Q (.ref d) (upd H1 d (.frz od u))
theorem pe_frz {X : Cx} {e : Expr} {te : TE} (h : PE X e te) : PE X e (tFrz te) := by
  refine ⟨fun pins s σ H Q I hw => ?_⟩
  refine thn (h.run pins s σ H _ I hw) fun v s1 ⟨x, H1, I1, r, d, u, ex, hd, mu, q⟩ => ?_
  subst ex
  obtain ⟨od, I2⟩ := I1.lock hd mu
  exact ⟨.ref d, _, I2, r, q od⟩
end Mq

namespace Lw
open PySem PySem.Spec PyProof.Rows L2 Mq
open SX (S)
/-! ### other values in the place of one -/
theorem odd_off {K : PySem.W.Frag} {N : Addr → Prop} {w n : Nat} {H H' : Hp} {D C : Addr} {T : Nat} {v : V} (h : OdD K N w n H v) (hN : ∀ a, N a → a ≠ D ∧ a ≠ C) (e : Off D C H H') (k : DeckAt D C T H) : OdD K N w n H' v :=
  let ⟨d, a, b⟩ := h; ⟨d, a.kp (fun x o hx z => e x o (hN x hx).1 (hN x hx).2 z) (fun _ _ z => e.tup k z), b⟩
theorem none_of {H H' : Hp} {p : Addr} (e : Same H H') (h : H' p = none) : H p = none := by
  cases x : H p with
  | none => rfl
  | some o =>
    rw [e _ _ x] at h
    cases h
theorem mem_twice {α : Type} {xs : List α} {x : α} (h : x ∈ (List.replicate (2 : Int).toNat xs).flatten) : x ∈ xs := by
  obtain ⟨l, h1, h2⟩ := List.mem_flatten.mp h
  rw [(List.mem_replicate.mp h1).2] at h2
  exact h2
theorem log_small {k : Nat} (h : k ≤ 1000) : ((k : Nat) : Int).natAbs.log2 < 1920 := by
  have e : ((k : Nat) : Int).natAbs = k := Int.natAbs_natCast k
  rw [e]
  have := Nat.log2_le_self k
  omega
theorem okD_pred {k : Nat} (h : k ≤ 1000) : OkD 20 0 (.int ((k : Nat) - 1)) := by
  cases k with
  | zero => exact okD_of (by decide +kernel)
  | succ k =>
    rw [show (((k + 1 : Nat)) : Int) - 1 = ((k : Nat) : Int) by omega]
    exact okD_int (by omega)
theorem num_low (k : Nat) : ∀ c ∈ TL.numL k, c < 128 := fun c hc => by
  by_cases h : c < 48 ∨ 57 < c
  · exact (TL.numL_free h hc).elim
  · omega
def spOdd (K : PySem.W.Frag) : Sp := fun vs H Q _ => ∃ (D C : Addr) (T : Nat) (v : V) (d : PyData) (n : Nat), vs = [.ref D, v] ∧ DeckAt D C T H ∧ T ≤ 950000 ∧ Tn K H v d ∧ OkD d.weight n d ∧ d.weight ≤ 900 ∧
  ∀ H' u, DeckAt D C (T + 1) H' → Off D C H H' → OdD K (fun a => H a = none) (2 * d.weight + 200) (n + 3) H' u → Q u H'
section
variable {P : Program} {w : World} {K : PySem.W.Frag} {mg : Str → Option Value} {base : Heap}
theorem ok_odd {f fP : Addr} {fd fdP : FuncData} (F : Fun K "_law_odd" "_law_odd" s__law_odd f fd) (B : Blt mg)
    (FP : Fun K "_law_pick" "_law_pick" s__law_pick fP fdP) (gP : mg "_law_pick" = some (.ref fP)) (bP : Binds K fdP ["_law_deck_here", "_law_some"] []) (GP : FnOk P w K mg base CX0 2 fP fdP ["_law_deck_here", "_law_some"] spPick) :
    FnOk P w K mg base CX0 3 f fd ["_law_deck_here", "_law_it"] (spOdd K) := by
  refine F.ok sc__law_odd (fun vs H Q E h => ?_) (fun cdv A outer s H vs Q E hr h => ?_)
  · obtain ⟨_, _, _, _, _, _, rfl, _⟩ := h
    rfl
  · obtain ⟨D, C, T, v, dv, nv, rfl, hdk, hT, hv, hok, hwv, q⟩ := h
    refine ⟨_, (pss_cons (ps_set (i := 2) sc__law_odd.nd rfl (Or.inl rfl) (Mq.pe_ls (pa_cons pe_non (pa_cons pe_bl (pa_cons pe_bl (pa_cons pe_int (pa_cons pe_int (pa_cons (pe_un un_neg pe_int) (pa_cons (pe_op op_pow pe_int pe_int) (pa_cons pe_str (pa_cons pe_str (pa_cons pe_str (pa_cons pe_str (pa_cons pe_str (pa_cons pe_str (pa_cons (pe_tup pa_nil) (pa_cons (pe_tup (pa_cons (pe_tup pa_nil) pa_nil)) (pa_cons (Mq.pe_ls pa_nil) (pa_cons pe_dnewK (pa_cons (pe_tup (pa_cons pe_str (pa_cons pe_str (pa_cons pe_str pa_nil)))) pa_nil))))))))))))))))))))
      (pss_cons (ps_if (pt_val (pe_callB call_isi (by rfl) B.isi (by decide +kernel) (pa_cons (pv 1) (pa_cons (pe_bltn (v := .ty "tuple") (by rfl) B.tuple (by decide +kernel) rfl) pa_nil)))) (pss_one (ps_set (i := 2) sc__law_odd.nd rfl (Or.inl rfl) (pe_op op_cat (pv 2) (pe_op op_rep (Mq.pe_ls (pa_cons (pe_callTy call_lsN (by rfl) B.list (by decide +kernel) (pa_cons (pv 1) pa_nil)) (pa_cons (pe_slice sl_tupN (pv 1) (po_some pe_int) po_none) (pa_cons (pe_slice sl_tupN (pv 1) po_none (po_some (pe_un un_neg pe_int))) (pa_cons (pe_op op_catN (pv 1) (pe_slice sl_tupN (pv 1) po_none (po_some pe_int))) (pa_cons (pe_revT (pv 1)) pa_nil)))))) pe_int)))) pss_nil)
      (pss_cons (ps_if (pt_val (pe_callB call_isi (by rfl) B.isi (by decide +kernel) (pa_cons (pv 1) (pa_cons (pe_bltn (v := .ty "str") (by rfl) B.str (by decide +kernel) rfl) pa_nil)))) (pss_one (ps_set (i := 2) sc__law_odd.nd rfl (Or.inl rfl) (pe_op op_cat (pv 2) (pe_op op_rep (Mq.pe_ls (pa_cons (pe_op op_add_str (pv 1) pe_str) (pa_cons (pe_revS (pv 1)) (pa_cons (pe_bm0 PySem.F.plainAttrs_str PySem.F.slot_str_upper PySem.F.type_str_upper mt_upper (pv 1)) (pa_cons (pe_tup (pa_cons (pv 1) pa_nil)) (pa_cons (pe_op op_add_str (pv 1) pe_str) pa_nil)))))) pe_int)))) pss_nil)
      (pss_cons (ps_if (pt_val (pe_callB call_isi (by rfl) B.isi (by decide +kernel) (pa_cons (pv 1) (pa_cons (pe_bltn (v := .ty "int") (by rfl) B.int (by decide +kernel) rfl) pa_nil)))) (pss_one (ps_set (i := 2) sc__law_odd.nd rfl (Or.inl rfl) (pe_op op_cat (pv 2) (pe_op op_rep (Mq.pe_ls (pa_cons (pe_op op_add (pv 1) pe_int) (pa_cons (pe_op op_sub (pv 1) pe_int) (pa_cons (pe_cmpR op_eq (pv 1) pe_int (nomark _)) (pa_cons (pe_callTy call_str_int (by rfl) B.str (by decide +kernel) (pa_cons (pv 1) pa_nil)) pa_nil))))) pe_int)))) pss_nil)
      (pss_one (ps_ret (pe_call GP (hr.mono (by decide)) (by rfl) gP FP.kp bP .nil pass0 (pa_cons (pv 0) (pa_cons (pv 2) pa_nil))))))))), ?_⟩
    have hND : ∀ a, (fun a => H a = none) a → a ≠ D ∧ a ≠ C := fun a ha => new_ne hdk ha
    have fin : ∀ (H2 : Hp) (ps : Addr) (xs : List V), Same H H2 → H2 ps = some (.lst xs) → H ps = none → 0 < xs.length → xs.length ≤ 40 → (∀ v ∈ xs, OdD K (fun a => H a = none) (2 * dv.weight + 200) (nv + 3) H2 v) → spPick [.ref D, .ref ps] H2 Q E := by
      intro H2 ps xs s2 zs hn h0 h1 hv
      refine ⟨D, C, T, .ref ps, rfl, hdk.same s2, by omega, Or.inr ⟨ps, xs, rfl, zs, (new_ne hdk hn).2, h0, by omega, fun H3 u hu dk3 off3 => ?_⟩⟩
      exact q H3 u dk3 ((Off.same s2).trans off3) (odd_off (hv u hu) hND off3 (hdk.same s2))
    refine ⟨_, rfl, ⟨_, _, rfl, rfl, ⟨by decide, by decide, by decide⟩, sz_le (n := 0) (by decide), fun p1 hp1 => ?_⟩⟩
    have z1 : SqT K (upd H p1 (.tup [])) p1 [] := Or.inl (Or.inl upd_same)
    have s1 := same_new (o := HO.tup []) hp1
    generalize upd H p1 (.tup []) = G1 at z1 s1 ⊢
    refine ⟨sz_le (n := 0) (by decide), fun p2 hp2 => ?_⟩
    have z2 : SqT K (upd G1 p2 (.tup [])) p2 [] := Or.inl (Or.inl upd_same)
    have t2 := same_new (o := HO.tup []) hp2
    have z1 := Same.tup t2 z1
    have s2 := s1.trans t2
    generalize upd G1 p2 (.tup []) = G2 at z1 z2 s2 ⊢
    clear s1 t2
    refine ⟨sz_le (n := 1) (by decide), fun p3 hp3 => ?_⟩
    have z3 : SqT K (upd G2 p3 (.tup [.ref p2])) p3 [.ref p2] := Or.inl (Or.inl upd_same)
    have t3 := same_new (o := HO.tup [.ref p2]) hp3
    have z1 := Same.tup t3 z1
    have z2 := Same.tup t3 z2
    have s3 := s2.trans t3
    generalize upd G2 p3 (.tup [.ref p2]) = G3 at z1 z2 z3 s3 ⊢
    clear s2 t3
    refine ⟨sz_le (n := 0) (by decide), fun p4 hp4 hn4 => ?_⟩
    have n4 : H p4 = none := none_of s3 hp4
    have z4 : upd G3 p4 (.lst []) p4 = some (.lst []) := upd_same
    have t4 := same_new (o := HO.lst []) hp4
    have z1 := Same.tup t4 z1
    have z2 := Same.tup t4 z2
    have z3 := Same.tup t4 z3
    have s4 := s3.trans t4
    generalize upd G3 p4 (.lst []) = G4 at z1 z2 z3 z4 s4 ⊢
    clear s3 t4
    refine fun p5 hp5 => ?_
    have n5 : H p5 = none := none_of s4 hp5
    have z5 : upd G4 p5 (.dK []) p5 = some (.dK []) := upd_same
    have t5 := same_new (o := HO.dK []) hp5
    have z1 := Same.tup t5 z1
    have z2 := Same.tup t5 z2
    have z3 := Same.tup t5 z3
    have z4 := t5 _ _ z4
    have s5 := s4.trans t5
    generalize upd G4 p5 (.dK []) = G5 at z1 z2 z3 z4 z5 s5 ⊢
    clear s4 t5
    refine ⟨sz_le (n := 3) (by decide), fun p6 hp6 => ?_⟩
    have z6 : SqT K (upd G5 p6 (.tup [.str "a", .str "b", .str ""])) p6 [.str "a", .str "b", .str ""] := Or.inl (Or.inl upd_same)
    have t6 := same_new (o := HO.tup [.str "a", .str "b", .str ""]) hp6
    have z1 := Same.tup t6 z1
    have z2 := Same.tup t6 z2
    have z3 := Same.tup t6 z3
    have z4 := t6 _ _ z4
    have z5 := t6 _ _ z5
    have s6 := s5.trans t6
    generalize upd G5 p6 (.tup [.str "a", .str "b", .str ""]) = G6 at z1 z2 z3 z4 z5 z6 s6 ⊢
    clear s5 t6
    refine ⟨sz_le (n := 18) (by decide), fun ps hps _ => ?_⟩
    have t7 := same_new (o := HO.lst [.non, .bl true, .bl false, .int 0, .int 1, .int (-1), .int ((10 : Int) ^ Int.toNat 39), .str "", .str "a", .str "b", .str "ab", .str "A", .str "-", .ref p1, .ref p3, .ref p4, .ref p5, .ref p6]) hps
    have nps : H ps = none := none_of s6 hps
    have s7 := s6.trans t7
    have all : ∀ v ∈ [V.non, .bl true, .bl false, .int 0, .int 1, .int (-1), .int ((10 : Int) ^ Int.toNat 39), .str "", .str "a", .str "b", .str "ab", .str "A", .str "-", .ref p1, .ref p3, .ref p4, .ref p5, .ref p6], OdD K (fun a => H a = none) (2 * dv.weight + 200) (nv + 3) G6 v := by
      intro v hv
      simp only [List.mem_cons, List.not_mem_nil, or_false] at hv
      rcases hv with rfl | rfl | rfl | rfl | rfl | rfl | rfl | rfl | rfl | rfl | rfl | rfl | rfl | rfl | rfl | rfl | rfl | rfl
      · exact ⟨_, .non, (okD_of (by decide +kernel) : OkD 200 2 _).mono (by omega) (by omega)⟩
      · exact ⟨_, .bl _, (okD_of (by decide +kernel) : OkD 200 2 _).mono (by omega) (by omega)⟩
      · exact ⟨_, .bl _, (okD_of (by decide +kernel) : OkD 200 2 _).mono (by omega) (by omega)⟩
      · exact ⟨_, .int _, (okD_of (by decide +kernel) : OkD 200 2 _).mono (by omega) (by omega)⟩
      · exact ⟨_, .int _, (okD_of (by decide +kernel) : OkD 200 2 _).mono (by omega) (by omega)⟩
      · exact ⟨_, .int _, (okD_of (by decide +kernel) : OkD 200 2 _).mono (by omega) (by omega)⟩
      · exact ⟨_, .int _, (okD_of (by decide +kernel) : OkD 200 2 _).mono (by omega) (by omega)⟩
      · exact ⟨_, .str _, (okD_of (by decide +kernel) : OkD 200 2 _).mono (by omega) (by omega)⟩
      · exact ⟨_, .str _, (okD_of (by decide +kernel) : OkD 200 2 _).mono (by omega) (by omega)⟩
      · exact ⟨_, .str _, (okD_of (by decide +kernel) : OkD 200 2 _).mono (by omega) (by omega)⟩
      · exact ⟨_, .str _, (okD_of (by decide +kernel) : OkD 200 2 _).mono (by omega) (by omega)⟩
      · exact ⟨_, .str _, (okD_of (by decide +kernel) : OkD 200 2 _).mono (by omega) (by omega)⟩
      · exact ⟨_, .str _, (okD_of (by decide +kernel) : OkD 200 2 _).mono (by omega) (by omega)⟩
      · exact ⟨_, .tup z1 .nil, (okD_of (by decide +kernel) : OkD 200 2 _).mono (by omega) (by omega)⟩
      · exact ⟨_, .tup z3 (.cons (.tup z2 .nil) .nil), (okD_of (by decide +kernel) : OkD 200 2 _).mono (by omega) (by omega)⟩
      · exact ⟨_, .lst n4 hn4 z4 .nil, (okD_of (by decide +kernel) : OkD 200 2 _).mono (by omega) (by omega)⟩
      · exact ⟨_, .dct n5 z5, (okD_of (by decide +kernel) : OkD 200 2 _).mono (by omega) (by omega)⟩
      · exact ⟨_, .tup z6 (.cons (.str _) (.cons (.str _) (.cons (.str _) .nil))), (okD_of (by decide +kernel) : OkD 200 2 _).mono (by omega) (by omega)⟩
    have all7 := fun v hv => (all v hv).same t7
    have zps : upd G6 ps (.lst [.non, .bl true, .bl false, .int 0, .int 1, .int (-1), .int ((10 : Int) ^ Int.toNat 39), .str "", .str "a", .str "b", .str "ab", .str "A", .str "-", .ref p1, .ref p3, .ref p4, .ref p5, .ref p6]) ps = some (.lst [.non, .bl true, .bl false, .int 0, .int 1, .int (-1), .int ((10 : Int) ^ Int.toNat 39), .str "", .str "a", .str "b", .str "ab", .str "A", .str "-", .ref p1, .ref p3, .ref p4, .ref p5, .ref p6]) := upd_same
    have hl0 : ([V.non, .bl true, .bl false, .int 0, .int 1, .int (-1), .int ((10 : Int) ^ Int.toNat 39), .str "", .str "a", .str "b", .str "ab", .str "A", .str "-", .ref p1, .ref p3, .ref p4, .ref p5, .ref p6] : List V).length = 18 := rfl
    clear all z1 z2 z3 z4 z5 z6 t7 s6 hps hn4 n4 n5 hp1 hp2 hp3 hp4 hp5 hp6
    dsimp only
    generalize e7 : upd G6 ps (.lst [.non, .bl true, .bl false, .int 0, .int 1, .int (-1), .int ((10 : Int) ^ Int.toNat 39), .str "", .str "a", .str "b", .str "ab", .str "A", .str "-", .ref p1, .ref p3, .ref p4, .ref p5, .ref p6]) = G7 at zps s7 all7 ⊢
    generalize [V.non, .bl true, .bl false, .int 0, .int 1, .int (-1), .int ((10 : Int) ^ Int.toNat 39), .str "", .str "a", .str "b", .str "ab", .str "A", .str "-", .ref p1, .ref p3, .ref p4, .ref p5, .ref p6] = zs at zps all7 hl0
    clear e7
    have to : ∀ {u : V} {d : PyData} {w m : Nat} {H' : Hp}, Dv K (fun a => H a = none) H' u d → OkD w m d → w ≤ 2 * dv.weight + 200 → m ≤ nv + 3 → OdD K (fun a => H a = none) (2 * dv.weight + 200) (nv + 3) H' u := fun h k hw hm => ⟨_, h, k.mono hw hm⟩
    have pick : ∀ (G : Hp) (p : Addr) (ys : List V), Same H G → G p = some (.lst ys) → H p = none → 0 < ys.length → ys.length ≤ 40 → (∀ v ∈ ys, OdD K (fun a => H a = none) (2 * dv.weight + 200) (nv + 3) G v) → spPick [.ref D, .ref p] G Q E := fin
    cases hv with
    | non =>
      refine ⟨_, rfl, _, .ty "tuple", _, _, false, rfl, .ty _, .base .non, kit_ty (by decide +kernel), false, rfl, ifF rfl ?_⟩
      refine ⟨_, rfl, _, .ty "str", _, _, false, rfl, .ty _, .base .non, kit_ty (by decide +kernel), false, rfl, ifF rfl ?_⟩
      refine ⟨_, rfl, _, .ty "int", _, _, false, rfl, .ty _, .base .non, kit_ty (by decide +kernel), false, rfl, ifF rfl ?_⟩
      exact ⟨_, rfl, _, rfl, fin _ ps _ s7 zps nps (by omega) (by omega) all7⟩
    | int k hk =>
      refine ⟨_, rfl, _, .ty "tuple", _, _, false, rfl, .ty _, .base (.int _), kit_ty (by decide +kernel), false, rfl, ifF rfl ?_⟩
      refine ⟨_, rfl, _, .ty "str", _, _, false, rfl, .ty _, .base (.int _), kit_ty (by decide +kernel), false, rfl, ifF rfl ?_⟩
      refine ⟨_, rfl, _, .ty "int", _, _, true, rfl, .ty _, .base (.int _), kit_ty (by decide +kernel), true, rfl, ifT rfl ?_⟩
      refine ⟨_, rfl, _, rfl, _, _, rfl, rfl, _, rfl, _, _, rfl, rfl, _, rfl, rfl, _, rfl, _, rfl, log_small hk, ?_⟩
      refine ⟨sz_le (n := 4) (by decide), fun p2 hp2 _ => ?_⟩
      have eT : Str.ofString (toString ((k : Nat) : Int)) = S (TL.numL k) := SX.num_S k
      rw [eT]
      generalize hb : decide (V.int ((k : Nat) : Int) = V.int 1) = b at hp2 ⊢
      have four : ∀ v ∈ [V.int ((k : Nat) + 1), .int ((k : Nat) - 1), .bl b, .str (S (TL.numL k))], OdD K (fun a => H a = none) (2 * (PyData.int (k : Nat)).weight + 200) (nv + 3) G7 v := by
        intro v hv
        simp only [List.mem_cons, List.not_mem_nil, or_false] at hv
        rcases hv with rfl | rfl | rfl | rfl
        · exact to (d := .int ((k + 1 : Nat) : Int)) (.int _) (okD_int (k := k + 1) (by omega)) (by omega) (by omega)
        · exact to (.int _) (okD_pred hk) (by omega) (by omega)
        · exact to (.bl _) (w := 20) (m := 0) ⟨gs_bool b, rfl⟩ (by omega) (by omega)
        · exact to (.str _) (okD_str (w := 20) (num_low k) (Nat.le_trans (TL.numL_len (k := 20) (by decide) (by omega)) (by decide))) (by omega) (by omega)
      have t2 := same_new (o := HO.lst [V.int ((k : Nat) + 1), .int ((k : Nat) - 1), .bl b, .str (S (TL.numL k))]) hp2
      have z2 : upd G7 p2 (.lst [V.int ((k : Nat) + 1), .int ((k : Nat) - 1), .bl b, .str (S (TL.numL k))]) p2 = some (.lst [V.int ((k : Nat) + 1), .int ((k : Nat) - 1), .bl b, .str (S (TL.numL k))]) := upd_same
      have four := fun v hv => (four v hv).same t2
      have zps := t2 _ _ zps
      have all7 := fun v hv => (all7 v hv).same t2
      have s9 := s7.trans t2
      have hf0 : [V.int ((k : Nat) + 1), .int ((k : Nat) - 1), .bl b, .str (S (TL.numL k))].length = 4 := rfl
      generalize upd G7 p2 (.lst [V.int ((k : Nat) + 1), .int ((k : Nat) - 1), .bl b, .str (S (TL.numL k))]) = G9 at z2 zps all7 four s9 ⊢
      generalize [V.int ((k : Nat) + 1), .int ((k : Nat) - 1), .bl b, .str (S (TL.numL k))] = fs at z2 four hf0
      refine ⟨p2, 2, fs, rfl, rfl, z2, by decide, by decide, sz_le (by show fs.length * 2 ≤ 1000000; omega), fun p3 hp3 => ?_⟩
      have t3 := same_new (o := HO.lst (List.replicate (2 : Int).toNat fs).flatten) hp3
      have z3 : upd G9 p3 (.lst (List.replicate (2 : Int).toNat fs).flatten) p3 = some (.lst (List.replicate (2 : Int).toNat fs).flatten) := upd_same
      have zps := t3 _ _ zps
      have hfl : (List.replicate (2 : Int).toNat fs).flatten.length = 8 := by
        show (fs ++ (fs ++ [])).length = 8
        rw [List.length_append, List.length_append, hf0]
        rfl
      refine ⟨ps, p3, zs, _, rfl, rfl, zps, z3, sz_le (by rw [hl0, hfl]; decide), fun p4 hp4 => ?_⟩
      have s10 := s9.trans t3
      have n4 := none_of s10 hp4
      have t4 := same_new (o := HO.lst (zs ++ (List.replicate (2 : Int).toNat fs).flatten)) hp4
      refine ⟨_, rfl, _, rfl, pick _ p4 _ (s10.trans t4) upd_same n4 (by rw [List.length_append]; omega) (by rw [List.length_append]; omega) (fun v hv => ?_)⟩
      rcases List.mem_append.mp hv with hv | hv
      · exact ((all7 v hv).same t3).same t4
      · exact ((four v (mem_twice hv)).same t3).same t4
    | str x =>
      obtain ⟨l, rfl⟩ : ∃ l, x = S l := ⟨x.cps.toList, (Mq.S_of x).symm⟩
      have hlow : ∀ c ∈ l, c < 128 := hok.text.2
      have hlw : (PyData.str (S l)).weight = l.length := rfl
      rw [hlw] at hwv to
      have hl0' : (S l).length ≤ 900 := by
        rw [SX.S_len]
        exact hwv
      have low1 : ∀ c : Nat, c < 128 → OkD (l.length + 1) 0 (.str (S (l ++ [c]))) := fun c h3 => okD_str (fun x hx => by
        rcases List.mem_append.mp hx with hx | hx
        · exact hlow x hx
        · rw [List.mem_singleton.mp hx]
          exact h3) (by rw [List.length_append]; exact Nat.le_refl _)
      refine ⟨_, rfl, _, .ty "tuple", _, _, false, rfl, .ty _, .base (.str _), kit_ty (by decide +kernel), false, rfl, ifF rfl ?_⟩
      refine ⟨_, rfl, _, .ty "str", _, _, true, rfl, .ty _, .base (.str _), kit_ty (by decide +kernel), true, rfl, ifT rfl ?_⟩
      have e1 : (S l ++ "a" : Str) = S (l ++ [97]) := by
        rw [show ("a" : Str) = S [97] by decide +kernel, SX.S_cat]
      have e2 : (S l ++ " " : Str) = S (l ++ [32]) := by
        rw [show (" " : Str) = S [32] by decide +kernel, SX.S_cat]
      obtain ⟨u, eu, ul, uh⟩ := upper_low l hlow
      refine ⟨_, rfl, _, rfl, S l, "a", rfl, rfl, sz_le (by rw [show ("a" : Str).length = 1 by decide +kernel]; omega), ?_⟩
      rw [e1]
      refine ⟨_, rfl, S l, rfl, sz_le (by omega), ?_⟩
      refine ⟨_, rfl, rfl, S l, rfl, rfl, by omega, ?_⟩
      rw [eu]
      refine ⟨_, rfl, sz_le (n := 1) (by decide), fun p1 hp1 => ?_⟩
      have z1 : SqT K (upd G7 p1 (.tup [.str (S l)])) p1 [.str (S l)] := Or.inl (Or.inl upd_same)
      have t1 := same_new (o := HO.tup [.str (S l)]) hp1
      have s8 := s7.trans t1
      have zps := t1 _ _ zps
      have all7 := fun v hv => (all7 v hv).same t1
      generalize upd G7 p1 (.tup [.str (S l)]) = G8 at z1 zps all7 s8 ⊢
      clear t1 s7
      refine ⟨_, rfl, S l, " ", rfl, rfl, sz_le (by rw [show (" " : Str).length = 1 by decide +kernel]; omega), ?_⟩
      rw [e2]
      refine ⟨sz_le (n := 5) (by decide), fun p2 hp2 _ => ?_⟩
      have t2 := same_new (o := HO.lst [.str (S (l ++ [97])), .str (revS (S l)), .str (S u), .ref p1, .str (S (l ++ [32]))]) hp2
      have z2 : upd G8 p2 (.lst [.str (S (l ++ [97])), .str (revS (S l)), .str (S u), .ref p1, .str (S (l ++ [32]))]) p2 = some (.lst [.str (S (l ++ [97])), .str (revS (S l)), .str (S u), .ref p1, .str (S (l ++ [32]))]) := upd_same
      have five : ∀ v ∈ [V.str (S (l ++ [97])), .str (revS (S l)), .str (S u), .ref p1, .str (S (l ++ [32]))], OdD K (fun a => H a = none) (2 * l.length + 200) (nv + 3) G8 v := by
        intro v hv
        simp only [List.mem_cons, List.not_mem_nil, or_false] at hv
        rcases hv with rfl | rfl | rfl | rfl | rfl
        · exact to (.str _) (low1 97 (by decide)) (by omega) (by omega)
        · exact to (d := .str (S l.reverse)) (.str _) (okD_str (w := l.length) (fun c hc => hlow c (List.mem_reverse.mp hc)) (by rw [List.length_reverse]; exact Nat.le_refl _)) (by omega) (by omega)
        · exact to (.str _) (okD_str (w := l.length) uh (by omega)) (by omega) (by omega)
        · exact to (.tup z1 (.cons (.str _) .nil)) (LsOk.cons (okD_str (w := l.length) hlow (Nat.le_refl _)) (LsOk.nil (w := 0))).tup (by omega) (by omega)
        · exact to (.str _) (low1 32 (by decide)) (by omega) (by omega)
      have five := fun v hv => (five v hv).same t2
      have zps := t2 _ _ zps
      have all7 := fun v hv => (all7 v hv).same t2
      have s9 := s8.trans t2
      have hf0 : [V.str (S (l ++ [97])), .str (revS (S l)), .str (S u), .ref p1, .str (S (l ++ [32]))].length = 5 := rfl
      generalize upd G8 p2 (.lst [.str (S (l ++ [97])), .str (revS (S l)), .str (S u), .ref p1, .str (S (l ++ [32]))]) = G9 at z2 zps all7 five s9 ⊢
      generalize [V.str (S (l ++ [97])), .str (revS (S l)), .str (S u), .ref p1, .str (S (l ++ [32]))] = fs at z2 five hf0
      refine ⟨p2, 2, fs, rfl, rfl, z2, by decide, by decide, sz_le (by show fs.length * 2 ≤ 1000000; omega), fun p3 hp3 => ?_⟩
      have t3 := same_new (o := HO.lst (List.replicate (2 : Int).toNat fs).flatten) hp3
      have z3 : upd G9 p3 (.lst (List.replicate (2 : Int).toNat fs).flatten) p3 = some (.lst (List.replicate (2 : Int).toNat fs).flatten) := upd_same
      have zps := t3 _ _ zps
      have hfl : (List.replicate (2 : Int).toNat fs).flatten.length = 10 := by
        show (fs ++ (fs ++ [])).length = 10
        rw [List.length_append, List.length_append, hf0]
        rfl
      refine ⟨ps, p3, zs, _, rfl, rfl, zps, z3, sz_le (by rw [hl0, hfl]; decide), fun p4 hp4 => ?_⟩
      have s10 := s9.trans t3
      have n4 := none_of s10 hp4
      have t4 := same_new (o := HO.lst (zs ++ (List.replicate (2 : Int).toNat fs).flatten)) hp4
      refine ⟨_, rfl, _, .ty "int", _, _, false, rfl, .ty _, .base (.str _), kit_ty (by decide +kernel), false, rfl, ifF rfl ?_⟩
      refine ⟨_, rfl, _, rfl, pick _ p4 _ (s10.trans t4) upd_same n4 (by rw [List.length_append]; omega) (by rw [List.length_append]; omega) (fun v hv => ?_)⟩
      rcases List.mem_append.mp hv with hv | hv
      · exact ((all7 v hv).same t3).same t4
      · exact ((five v (mem_twice hv)).same t3).same t4
    | @tup p xs ds hz htd =>
      obtain ⟨m, rfl, lo⟩ := hok.tup
      have hW : (PyData.tuple ds).weight = PyData.weightAll ds := rfl
      rw [hW] at hwv to lo
      have hlen : xs.length ≤ 900 := by
        rw [htd.len]
        exact Nat.le_trans lo.len hwv
      have hz7 := Same.tup s7 hz
      have dvs : ∀ {H' : Hp}, Same H H' → DvAll K (fun a => H a = none) H' xs ds := fun e => (htd.same e).dv
      refine ⟨_, rfl, _, .ty "tuple", _, _, true, rfl, .ty _, ty_tup hz7, kit_ty (by decide +kernel), true, rfl, ifT rfl ?_⟩
      refine ⟨_, rfl, _, rfl, p, _, rfl, hz7, fun p1 hp1 hn1 => ?_⟩
      have z1 : upd G7 p1 (.lst xs) p1 = some (.lst xs) := upd_same
      have n1 : H p1 = none := none_of s7 hp1
      have t1 := same_new (o := HO.lst xs) hp1
      have s8 := s7.trans t1
      have zps := t1 _ _ zps
      have hz8 := Same.tup t1 hz7
      have all7 := fun v hv => (all7 v hv).same t1
      generalize upd G7 p1 (.lst xs) = G8 at z1 zps all7 s8 hz8 ⊢
      clear t1 s7 hz7
      refine ⟨_, rfl, _, rfl, p, _, rfl, hz8, fun p2 H9 t2 z2 => ?_⟩
      have s9 := s8.trans t2
      have zps := t2 _ _ zps
      have z1 := t2 _ _ z1
      have hz9 := Same.tup t2 hz8
      have all7 := fun v hv => (all7 v hv).same t2
      refine ⟨_, rfl, _, rfl, _, rfl, p, _, rfl, hz9, fun p3 H10 t3 z3 => ?_⟩
      have s10 := s9.trans t3
      have zps := t3 _ _ zps
      have z1 := t3 _ _ z1
      have z2 := Same.tup t3 z2
      have hz10 := Same.tup t3 hz9
      have all7 := fun v hv => (all7 v hv).same t3
      refine ⟨_, rfl, _, rfl, _, rfl, p, _, rfl, hz10, fun p4 H11 t4 z4 => ?_⟩
      have s11 := s10.trans t4
      have zps := t4 _ _ zps
      have z1 := t4 _ _ z1
      have z2 := Same.tup t4 z2
      have z3 := Same.tup t4 z3
      have hz11 := Same.tup t4 hz10
      have all7 := fun v hv => (all7 v hv).same t4
      refine ⟨p, p4, _, _, rfl, rfl, hz11, z4, sz_le (Nat.le_trans (Nat.add_le_add_left (cutV_length _ _ _) _) (by omega)), fun p5 H12 t5 z5 => ?_⟩
      have s12 := s11.trans t5
      have zps := t5 _ _ zps
      have z1 := t5 _ _ z1
      have z2 := Same.tup t5 z2
      have z3 := Same.tup t5 z3
      have hz12 := Same.tup t5 hz11
      have all7 := fun v hv => (all7 v hv).same t5
      refine ⟨_, rfl, p, _, rfl, hz12, fun p6 hp6 => ?_⟩
      have t6 := same_new (o := HO.tup xs.reverse) hp6
      have z6 : SqT K (upd H12 p6 (.tup xs.reverse)) p6 xs.reverse := Or.inl (Or.inl upd_same)
      have s13 := s12.trans t6
      have zps := t6 _ _ zps
      have z1 := t6 _ _ z1
      have z2 := Same.tup t6 z2
      have z3 := Same.tup t6 z3
      have z5 := Same.tup t6 z5
      have all7 := fun v hv => (all7 v hv).same t6
      have dv0 := dvs s13
      have five : ∀ v ∈ [V.ref p1, .ref p2, .ref p3, .ref p5, .ref p6], OdD K (fun a => H a = none) (2 * PyData.weightAll ds + 200) (m + 1 + 3) (upd H12 p6 (.tup xs.reverse)) v := by
        intro v hv
        simp only [List.mem_cons, List.not_mem_nil, or_false] at hv
        rcases hv with rfl | rfl | rfl | rfl | rfl
        · exact to (.lst n1 hn1 z1 dv0) lo.lst (by omega) (by omega)
        · obtain ⟨es, sb, dve⟩ := dv0.cut (some 1) none
          exact to (.tup z2 dve) (lo.sub sb).tup (by omega) (by omega)
        · obtain ⟨es, sb, dve⟩ := dv0.cut none (some (-1))
          exact to (.tup z3 dve) (lo.sub sb).tup (by omega) (by omega)
        · obtain ⟨es, sb, dve⟩ := dv0.cut none (some 1)
          exact to (.tup z5 (dv0.app dve)) (lo.app (lo.sub sb)).tup (by omega) (by omega)
        · exact to (.tup z6 dv0.rev) lo.rev.tup (by omega) (by omega)
      refine ⟨sz_le (n := 5) (by decide), fun p7 hp7 _ => ?_⟩
      generalize upd H12 p6 (.tup xs.reverse) = G9 at five zps all7 s13 hp7 ⊢
      have hf0 : [V.ref p1, .ref p2, .ref p3, .ref p5, .ref p6].length = 5 := rfl
      generalize [V.ref p1, .ref p2, .ref p3, .ref p5, .ref p6] = fs at five hf0 ⊢
      have t7 := same_new (o := HO.lst fs) hp7
      refine ⟨p7, 2, fs, rfl, rfl, upd_same, by decide, by decide, sz_le (by show fs.length * 2 ≤ 1000000; omega), fun p8 hp8 => ?_⟩
      have t8 := same_new (o := HO.lst (List.replicate (2 : Int).toNat fs).flatten) hp8
      have t78 := t7.trans t8
      have hfl : (List.replicate (2 : Int).toNat fs).flatten.length = 10 := by
        show (fs ++ (fs ++ [])).length = 10
        rw [List.length_append, List.length_append, hf0]
        rfl
      refine ⟨ps, p8, zs, _, rfl, rfl, t78 _ _ zps, upd_same, sz_le (by rw [hl0, hfl]; decide), fun p9 hp9 => ?_⟩
      have n9 := none_of (s13.trans t78) hp9
      have t9 := same_new (o := HO.lst (zs ++ (List.replicate (2 : Int).toNat fs).flatten)) hp9
      have t79 := t78.trans t9
      refine ⟨_, rfl, _, .ty "str", _, _, false, rfl, .ty _, ty_tup (Same.tup ((s13.trans t79)) hz), kit_ty (by decide +kernel), false, rfl, ifF rfl ?_⟩
      refine ⟨_, rfl, _, .ty "int", _, _, false, rfl, .ty _, ty_tup (Same.tup ((s13.trans t79)) hz), kit_ty (by decide +kernel), false, rfl, ifF rfl ?_⟩
      refine ⟨_, rfl, _, rfl, pick _ p9 _ (s13.trans t79) upd_same n9 (by rw [List.length_append]; omega) (by rw [List.length_append]; omega) (fun v hv => ?_)⟩
      rcases List.mem_append.mp hv with hv | hv
      · exact (all7 v hv).same t79
      · exact (five v (mem_twice hv)).same t79
end
end Lw

namespace Lw
open PySem PySem.Spec PyProof.Rows L2 Mq
open SX (S)
/-! ### a value with something otherwise, at any depth -/
theorem none_off {D C : Addr} {T : Nat} {H H' : Hp} {p : Addr} (e : Off D C H H') (k : DeckAt D C T H') (h : H' p = none) : H p = none := by
  obtain ⟨a, b⟩ := new_ne k h
  cases x : H p with
  | none => rfl
  | some o =>
    rw [e _ _ a b x] at h
    cases h
theorem pt_dead {X : Cx} {e : Expr} : PT X e (fun _ _ _ => False) := ⟨fun _ _ _ _ _ _ h => h.elim⟩
def spBent (K : PySem.W.Frag) (n : Nat) : Sp := fun vs H Q _ => ∃ (D C : Addr) (T : Nat) (v : V) (d : PyData), vs = [.ref D, v] ∧ DeckAt D C T H ∧ T + 4 * (n + 1) ≤ 900000 ∧ Tn K H v d ∧ OkD d.weight n d ∧ d.weight ≤ 900 ∧ n ≤ 20 ∧
  ∀ H' u T', T' ≤ T + 4 * (n + 1) → DeckAt D C T' H' → Off D C H H' → OdD K (fun a => H a = none) (3 * d.weight + 200) (n + 3) H' u → Q u H'
section
variable {P : Program} {w : World} {K : PySem.W.Frag} {mg : Str → Option Value} {base : Heap}
theorem ok_bent0 {f fO : Addr} {fd fdO : FuncData} (F : Fun K "_law_bent" "_law_bent" s__law_bent f fd) (B : Blt mg)
    (FO : Fun K "_law_odd" "_law_odd" s__law_odd fO fdO) (gO : mg "_law_odd" = some (.ref fO)) (bO : Binds K fdO ["_law_deck_here", "_law_it"] []) (GO : FnOk P w K mg base CX0 3 fO fdO ["_law_deck_here", "_law_it"] (spOdd K)) :
    FnOk P w K mg base CX0 4 f fd ["_law_deck_here", "_law_it"] (spBent K 0) := by
  refine F.ok sc__law_bent (fun vs H Q E h => ?_) (fun cdv A outer s H vs Q E hr h => ?_)
  · obtain ⟨_, _, _, _, _, rfl, _⟩ := h
    rfl
  · obtain ⟨D, C, T, v, d, rfl, hdk, hT, htd, hok, hw, hn, q⟩ := h
    refine ⟨_, (pss_cons (ps_if (PW.pt (pw_or (pt_not (pt_val (pe_callB call_isi (by rfl) B.isi (by decide +kernel) (pa_cons (pv 1) (pa_cons (pe_bltn (v := .ty "tuple") (by rfl) B.tuple (by decide +kernel) rfl) pa_nil))))) (pw_or pt_dead (pw_or1 pt_dead)))) (pss_one (ps_ret (pe_call GO (hr.mono (by decide)) (by rfl) gO FO.kp bO .nil pass0 (pa_cons (pv 0) (pa_cons (pv 1) pa_nil))))) pss_nil)
      (pss_cons ps_dead (pss_cons ps_dead (pss_cons ps_dead (pss_cons ps_dead (pss_one ps_dead)))))), ?_⟩
    have nt : ∃ a, TyX K H v (.type a) ∧ a ∈ sevenT ∧ a ≠ "tuple" := by
      cases htd with
      | non => exact ⟨_, .base .non, by decide, by decide⟩
      | int i _ => exact ⟨_, .base (.int _), by decide, by decide⟩
      | str x => exact ⟨_, .base (.str x), by decide, by decide⟩
      | tup _ _ =>
        obtain ⟨m, e, _⟩ := hok.tup
        omega
    obtain ⟨a, t, m, n⟩ := nt
    refine ⟨_, rfl, _, .ty "tuple", _, _, false, rfl, .ty _, t, kit_noT m n, false, rfl, ifT rfl (ifT rfl ?_)⟩
    refine ⟨_, rfl, _, rfl, D, C, T, _, d, 0, rfl, hdk, by omega, htd, hok, hw, fun H' u dk off od => ?_⟩
    exact q H' u _ (by omega) dk off (od.mono (fun _ z => z) (by omega) (by omega))
theorem ok_bentS {f fO fD : Addr} {fd fdO fdD : FuncData} {k : Nat} (F : Fun K "_law_bent" "_law_bent" s__law_bent f fd) (B : Blt mg)
    (FD : Fun K "_law_draw" "_law_draw" s__law_draw fD fdD) (gD : mg "_law_draw" = some (.ref fD)) (bD : Binds K fdD ["_law_deck_here", "_law_below"] []) (GD : FnOk P w K mg base CX0 1 fD fdD ["_law_deck_here", "_law_below"] spDraw)
    (FO : Fun K "_law_odd" "_law_odd" s__law_odd fO fdO) (gO : mg "_law_odd" = some (.ref fO)) (bO : Binds K fdO ["_law_deck_here", "_law_it"] []) (GO : FnOk P w K mg base CX0 3 fO fdO ["_law_deck_here", "_law_it"] (spOdd K))
    (gB : mg "_law_bent" = some (.ref f)) (bB : Binds K fd ["_law_deck_here", "_law_it"] []) (GB : FnOk P w K mg base CX0 (4 + k) f fd ["_law_deck_here", "_law_it"] (spBent K k)) :
    FnOk P w K mg base CX0 (4 + k + 1) f fd ["_law_deck_here", "_law_it"] (spBent K (k + 1)) := by
  refine F.ok sc__law_bent (fun vs H Q E h => ?_) (fun cdv A outer s H vs Q E hr h => ?_)
  · obtain ⟨_, _, _, _, _, rfl, _⟩ := h
    rfl
  · obtain ⟨D, C, T, v, d, rfl, hdk, hT, htd, hok, hw, hk, q⟩ := h
    have hu : (A.deeper (envOfC "_law_bent" (defScope s__law_bent) s.heap.objs.size f cdv)).units + 64 < cLine := by
      have := hr.units
      omega
    have hr3 : Room 3 (A.deeper (envOfC "_law_bent" (defScope s__law_bent) s.heap.objs.size f cdv)) := hr.mono (by omega)
    have hr1 : Room 1 (A.deeper (envOfC "_law_bent" (defScope s__law_bent) s.heap.objs.size f cdv)) := hr.mono (by omega)
    refine ⟨_, (pss_cons (ps_if (PW.pt (pw_or (pt_not (pt_val (pe_callB call_isi (by rfl) B.isi (by decide +kernel) (pa_cons (pv 1) (pa_cons (pe_bltn (v := .ty "tuple") (by rfl) B.tuple (by decide +kernel) rfl) pa_nil))))) (pw_or (pt_cmpR (op_eqD hu) (pv 1) (pe_tup pa_nil) (nomark _)) (pw_or1 (pt_cmpR op_eq (pe_call GD hr1 (by rfl) gD FD.kp bD .nil pass0 (pa_cons (pv 0) (pa_cons pe_int pa_nil))) pe_int (nomark _)))))) (pss_one (ps_ret (pe_call GO hr3 (by rfl) gO FO.kp bO .nil pass0 (pa_cons (pv 0) (pa_cons (pv 1) pa_nil))))) pss_nil)
      (pss_cons (ps_par (i := 2) (j := 3) rfl sc__law_bent.nd rfl rfl (by decide) rfl rfl (pa_cons (pe_call GD hr1 (by rfl) gD FD.kp bD .nil pass0 (pa_cons (pv 0) (pa_cons (pe_callB call_len (by rfl) B.len (by decide +kernel) (pa_cons (pv 1) pa_nil)) pa_nil))) (pa_cons (pe_call GD hr1 (by rfl) gD FD.kp bD .nil pass0 (pa_cons (pv 0) (pa_cons pe_int pa_nil))) pa_nil)) (by rfl))
      (pss_cons (ps_if (pt_cmpR op_eq (pv 3) pe_int (nomark _)) (pss_one (ps_ret (pe_op op_catN (pe_slice sl_tupN (pv 1) po_none (po_some (pv 2))) (pe_slice sl_tupN (pv 1) (po_some (pe_op op_add (pv 2) pe_int)) po_none)))) pss_nil)
      (pss_cons (ps_if (pt_cmpR op_eq (pv 3) pe_int (nomark _)) (pss_one (ps_ret (pe_op op_catN (pe_slice sl_tupN (pv 1) po_none (po_some (pe_op op_add (pv 2) pe_int))) (pe_slice sl_tupN (pv 1) (po_some (pv 2)) po_none)))) pss_nil)
      (pss_cons (ps_if (pt_cmpR op_eq (pv 3) pe_int (nomark _)) (pss_one (ps_ret (pe_op op_catN (pe_op op_catN (pe_slice sl_tupN (pv 1) po_none (po_some (pv 2))) (pe_revT (pe_slice sl_tupN (pv 1) (po_some (pv 2)) (po_some (pe_op op_add (pv 2) pe_int))))) (pe_slice sl_tupN (pv 1) (po_some (pe_op op_add (pv 2) pe_int)) po_none)))) pss_nil)
      (pss_one (ps_ret (pe_op op_catN (pe_op op_catN (pe_slice sl_tupN (pv 1) po_none (po_some (pv 2))) (pe_tup (pa_cons (pe_call GB hr (by rfl) gB F.kp bB .nil pass0 (pa_cons (pv 0) (pa_cons (pe_ix ix_tup (pv 1) (pv 2) (fun _ _ => rfl)) pa_nil))) pa_nil))) (pe_slice sl_tupN (pv 1) (po_some (pe_op op_add (pv 2) pe_int)) po_none))))))))), ?_⟩
    have odd : ∀ (H1 : Hp) (T1 : Nat), T1 ≤ T + 1 → DeckAt D C T1 H1 → Off D C H H1 → spOdd K [.ref D, v] H1 Q E := by
      intro H1 T1 hT1 dk1 off1
      refine ⟨D, C, T1, v, d, k + 1, rfl, dk1, by omega, htd.kp (KpT.off off1 hdk), hok, hw, fun H2 u dk2 off2 od => ?_⟩
      exact q H2 u _ (by omega) dk2 (off1.trans off2) (od.mono (fun x hx => none_off off1 dk1 hx) (by omega) (by omega))
    cases htd with
    | non =>
      refine ⟨_, rfl, _, .ty "tuple", _, _, false, rfl, .ty _, .base .non, kit_ty (by decide +kernel), false, rfl, ifT rfl (ifT rfl ⟨_, rfl, _, rfl, ?_⟩)⟩
      exact odd H T (by omega) hdk (Off.refl _ _ _)
    | int i hi =>
      refine ⟨_, rfl, _, .ty "tuple", _, _, false, rfl, .ty _, .base (.int _), kit_ty (by decide +kernel), false, rfl, ifT rfl (ifT rfl ⟨_, rfl, _, rfl, ?_⟩)⟩
      exact odd H T (by omega) hdk (Off.refl _ _ _)
    | str x =>
      refine ⟨_, rfl, _, .ty "tuple", _, _, false, rfl, .ty _, .base (.str x), kit_ty (by decide +kernel), false, rfl, ifT rfl (ifT rfl ⟨_, rfl, _, rfl, ?_⟩)⟩
      exact odd H T (by omega) hdk (Off.refl _ _ _)
    | @tup p xs ds hz htd =>
      have hsh := tn_shaped (K := K) (H := H) (.tup hz htd) hok (by omega)
      obtain ⟨m, hm, lo⟩ := hok.tup
      obtain rfl : k = m := by omega
      have hW : (PyData.tuple ds).weight = PyData.weightAll ds := rfl
      rw [hW] at hw q lo
      have hl : xs.length = ds.length := htd.len
      have hlen : xs.length ≤ 900 := by
        rw [hl]
        exact Nat.le_trans lo.len hw
      refine ⟨_, rfl, _, .ty "tuple", _, _, true, rfl, .ty _, ty_tup hz, kit_ty (by decide +kernel), true, rfl, ifF rfl ?_⟩
      refine ⟨_, rfl, sz_le (n := 0) (by decide), fun p0 hp0 => ?_⟩
      have t0 := same_new (o := HO.tup []) hp0
      have k0 : SqT K (upd H p0 (.tup [])) p0 [] := Or.inl (Or.inl upd_same)
      have dk0 := hdk.same t0
      refine ⟨_, _, (Tn.tup (Same.tup t0 hz) (htd.same t0)).dp, .tup k0 .nil, hsh, rfl, _, rfl, ?_⟩
      generalize upd H p0 (.tup []) = G0 at t0 k0 dk0 ⊢
      cases hds : ds with
      | nil =>
        refine ifT rfl (ifT rfl ⟨_, rfl, _, rfl, ?_⟩)
        exact odd G0 T (by omega) dk0 (Off.same t0)
      | cons e0 er =>
      have h0 : 0 < xs.length := by
        rw [hl, hds]
        exact Nat.zero_lt_succ _
      rw [← hds]
      refine ifF (by rw [hds]; rfl) ?_
      clear hds e0 er
      refine ⟨_, rfl, D, C, T, 6, rfl, dk0, by omega, by decide, by decide, fun H1 r hr6 dk1 off1 => ?_⟩
      have off01 := (Off.same (D := D) (C := C) t0).trans off1
      refine ⟨rfl, _, rfl, ite2 (fun hc => ?_) (fun hc => ?_)⟩
      · refine ⟨_, rfl, _, rfl, ?_⟩
        exact odd H1 (T + 1) (by omega) dk1 off01
      have hz1 := off01.tup hdk hz
      refine ⟨_, rfl, _, rfl, _, _, rfl, len_tup hz1, D, C, T + 1, xs.length, rfl, dk1, by omega, h0, by omega, fun H2 t ht dk2 off2 => ?_⟩
      have off02 := off01.trans off2
      refine ⟨_, rfl, D, C, T + 1 + 1, 8, rfl, dk2, by omega, by decide, by decide, fun H3 y hy dk3 off3 => ?_⟩
      have off03 := off02.trans off3
      have hz3 := off03.tup hdk hz
      have nn : ∀ x, H3 x = none → H x = none := fun x hx => none_off off03 dk3 hx
      have td3 := htd.kp (KpT.off off03 hdk)
      have dv : ∀ {H' : Hp}, Same H3 H' → DvAll K (fun a => H a = none) H' xs ds := fun e => (td3.same e).dv
      clear hz1 off02 off01 off1 off2 off3 dk0 dk1 dk2 hc hr6 k0 t0 odd
      have fin : ∀ (Hf : Hp) (pf : Addr) (ys : List V) (es : List PyData), Same H3 Hf → SqT K Hf pf ys → DvAll K (fun a => H a = none) Hf ys es → LsOk (3 * PyData.weightAll ds + 200) k es → Q (.ref pf) Hf := by
        intro Hf pf ys es sf hzf hm hn
        exact q Hf _ _ (by omega : T + 1 + 1 + 1 ≤ T + 4 * (k + 1 + 1)) (dk3.same sf) (off03.trans (Off.same sf)) ⟨_, .tup hzf hm, hn.tup.mono (Nat.le_refl _) (by omega)⟩
      have sz4 : ∀ (lo hi lo' hi' : Option Int), (cutV xs lo hi).length + (cutV xs lo' hi').length ≤ sizeLine := fun lo hi lo' hi' => sz_le (Nat.le_trans (Nat.add_le_add (cutV_length _ _ _) (cutV_length _ _ _)) (by omega))
      refine ⟨_, _, rfl, ?_⟩
      refine ⟨_, rfl, rfl, _, rfl, ite2 (fun hc => ?_) (fun _ => ?_)⟩
      · refine ⟨_, rfl, _, rfl, _, rfl, p, _, rfl, hz3, fun p1 J1 t1 z1 => ?_⟩
        refine ⟨_, rfl, _, rfl, _, _, rfl, rfl, _, rfl, p, _, rfl, Same.tup t1 hz3, fun p2 J2 t2 z2 => ?_⟩
        refine ⟨p1, p2, _, _, rfl, rfl, Same.tup t2 z1, z2, sz4 _ _ _ _, fun p3 J3 t3 z3 => ?_⟩
        have tt := (Same.trans t1 t2).trans t3
        obtain ⟨e1, b1, d1⟩ := (dv tt).cut none (some ((t : Nat) : Int))
        obtain ⟨e2, b2, d2⟩ := (dv tt).cut (some (((t : Nat) : Int) + 1)) none
        exact fin _ _ _ _ tt z3 (d1.app d2) (((lo.sub b1).app (lo.sub b2)).mono (by omega) (Nat.le_refl _))
      refine ⟨_, rfl, rfl, _, rfl, ite2 (fun hc => ?_) (fun _ => ?_)⟩
      · refine ⟨_, rfl, _, rfl, _, _, rfl, rfl, _, rfl, p, _, rfl, hz3, fun p1 J1 t1 z1 => ?_⟩
        refine ⟨_, rfl, _, rfl, _, rfl, p, _, rfl, Same.tup t1 hz3, fun p2 J2 t2 z2 => ?_⟩
        refine ⟨p1, p2, _, _, rfl, rfl, Same.tup t2 z1, z2, sz4 _ _ _ _, fun p3 J3 t3 z3 => ?_⟩
        have tt := (Same.trans t1 t2).trans t3
        obtain ⟨e1, b1, d1⟩ := (dv tt).cut none (some (((t : Nat) : Int) + 1))
        obtain ⟨e2, b2, d2⟩ := (dv tt).cut (some ((t : Nat) : Int)) none
        exact fin _ _ _ _ tt z3 (d1.app d2) (((lo.sub b1).app (lo.sub b2)).mono (by omega) (Nat.le_refl _))
      refine ⟨_, rfl, rfl, _, rfl, ite2 (fun hc => ?_) (fun _ => ?_)⟩
      · refine ⟨_, rfl, _, rfl, _, rfl, p, _, rfl, hz3, fun p1 J1 t1 z1 => ?_⟩
        refine ⟨_, rfl, _, rfl, _, rfl, _, rfl, _, _, rfl, rfl, _, rfl, p, _, rfl, Same.tup t1 hz3, fun p2 J2 t2 z2 => ?_⟩
        refine ⟨p2, _, rfl, z2, fun p3 hp3 => ?_⟩
        have t3 := same_new (o := HO.tup (cutV xs (some ((t : Nat) : Int)) (some (((t : Nat) : Int) + 2))).reverse) hp3
        have z3 : SqT K (upd J2 p3 (.tup (cutV xs (some ((t : Nat) : Int)) (some (((t : Nat) : Int) + 2))).reverse)) p3 (cutV xs (some ((t : Nat) : Int)) (some (((t : Nat) : Int) + 2))).reverse := Or.inl (Or.inl upd_same)
        refine ⟨p1, p3, _, _, rfl, rfl, Same.tup (t2.trans t3) z1, z3, by rw [List.length_reverse]; exact sz4 _ _ _ _, fun p4 J4 t4 z4 => ?_⟩
        have t14 := ((Same.trans t1 t2).trans t3).trans t4
        refine ⟨_, rfl, _, rfl, _, _, rfl, rfl, _, rfl, p, _, rfl, Same.tup t14 hz3, fun p5 J5 t5 z5 => ?_⟩
        refine ⟨p4, p5, _, _, rfl, rfl, Same.tup t5 z4, z5, ?_, fun p6 J6 t6 z6 => ?_⟩
        · rw [List.length_append, List.length_reverse]
          exact sz_le (Nat.le_trans (Nat.add_le_add (Nat.add_le_add (cutV_length _ _ _) (cutV_length _ _ _)) (cutV_length _ _ _)) (by omega))
        have tt := (t14.trans t5).trans t6
        obtain ⟨e1, b1, d1⟩ := (dv tt).cut none (some ((t : Nat) : Int))
        obtain ⟨e2, b2, d2⟩ := (dv tt).cut (some ((t : Nat) : Int)) (some (((t : Nat) : Int) + 2))
        obtain ⟨e3, b3, d3⟩ := (dv tt).cut (some (((t : Nat) : Int) + 2)) none
        exact fin _ _ _ _ tt z6 ((d1.app d2.rev).app d3) ((((lo.sub b1).app (lo.sub b2).rev).app (lo.sub b3)).mono (by omega) (Nat.le_refl _))
      · have htl : t < xs.length := ht
        obtain ⟨dt, hdt, tdt⟩ := td3.at (List.getElem?_eq_getElem htl)
        have htd' : t < ds.length := by omega
        have edt : ds[t] = dt := by
          rw [List.getElem?_eq_getElem htd'] at hdt
          exact Option.some.inj hdt
        have okt := (lo.mem (List.mem_of_getElem? hdt)).exact
        have esplit : ds = ds.take t ++ dt :: ds.drop (t + 1) := by
          rw [← edt, ← List.drop_eq_getElem_cons htd', List.take_append_drop]
        have hwt : PyData.weightAll ds = PyData.weightAll (ds.take t) + (dt.weight + 1 + PyData.weightAll (ds.drop (t + 1))) := by
          conv => lhs; rw [esplit, weight_app]
          rfl
        refine ⟨_, rfl, _, rfl, _, rfl, p, _, rfl, hz3, fun p1 J1 t1 z1 => ?_⟩
        refine ⟨_, rfl, _, rfl, _, rfl, p, _, _, _, rfl, rfl, Same.tup t1 hz3, atI_nat (j := t) (List.getElem?_eq_getElem htl), D, C, T + 1 + 1 + 1, xs[t], dt, rfl, dk3.same t1, by omega, tdt.same t1, okt, by omega, by omega, fun H5 u T5 hT5 dk5 off5 od5 => ?_⟩
        have kp5 : KpT K J1 H5 := KpT.off off5 (dk3.same t1)
        have hz5 := kp5 _ _ (Same.tup t1 hz3)
        have z15 := kp5 _ _ z1
        have td5 := (td3.same t1).kp kp5
        have off05 := (off03.trans (Off.same t1)).trans off5
        have od5 := od5.mono (N' := fun a => H a = none) (fun y hy => nn y (none_of t1 hy)) (Nat.le_refl _) (Nat.le_refl _)
        refine ⟨sz_le (n := 1) (by decide), fun p2 hp2 => ?_⟩
        have t2 := same_new (o := HO.tup [u]) hp2
        refine ⟨p1, p2, _, [u], rfl, rfl, Same.tup t2 z15, Or.inl (Or.inl upd_same), sz_le (Nat.le_trans (Nat.add_le_add_right (cutV_length _ _ _) _) (by show xs.length + 1 ≤ 1000000; omega)), fun p3 J3 t3 z3 => ?_⟩
        refine ⟨_, rfl, _, rfl, _, _, rfl, rfl, _, rfl, p, _, rfl, Same.tup (t2.trans t3) hz5, fun p4 J4 t4 z4 => ?_⟩
        refine ⟨p3, p4, _, _, rfl, rfl, Same.tup t4 z3, z4, ?_, fun p5 J5 t5 z6 => ?_⟩
        · rw [List.length_append]
          exact sz_le (Nat.le_trans (Nat.add_le_add (Nat.add_le_add_right (cutV_length _ _ _) _) (cutV_length _ _ _)) (by show xs.length + 1 + xs.length ≤ 1000000; omega))
        have t25 := ((t2.trans t3).trans t4).trans t5
        obtain ⟨d', dvu, oku⟩ := od5
        have dv5 : DvAll K (fun a => H a = none) J5 xs ds := (td5.same t25).dv
        rw [cut_front, show cutV xs (some (((t : Nat) : Int) + 1)) none = xs.drop (t + 1) from cut_back xs (t + 1)] at z6
        have l1 := (lo.sub (List.take_sublist t ds)).exact
        have l2 := (lo.sub (List.drop_sublist (t + 1) ds)).exact
        have l3 : LsOk _ (k + 3) (ds.take t ++ [d'] ++ ds.drop (t + 1)) := ((l1.mono (Nat.le_refl _) (by omega)).app (LsOk.cons oku (LsOk.nil (w := 0)))).app (l2.mono (Nat.le_refl _) (by omega))
        exact q J5 _ T5 (by omega) (dk5.same t25) (off05.trans (Off.same t25)) ⟨_, .tup z6 (((dv5.take t).app (.cons (dvu.same t25) .nil)).app (dv5.drop (t + 1))), l3.tup.mono (by omega) (by omega)⟩
theorem ok_bent {f fO fD : Addr} {fd fdO fdD : FuncData} (F : Fun K "_law_bent" "_law_bent" s__law_bent f fd) (B : Blt mg)
    (FD : Fun K "_law_draw" "_law_draw" s__law_draw fD fdD) (gD : mg "_law_draw" = some (.ref fD)) (bD : Binds K fdD ["_law_deck_here", "_law_below"] []) (GD : FnOk P w K mg base CX0 1 fD fdD ["_law_deck_here", "_law_below"] spDraw)
    (FO : Fun K "_law_odd" "_law_odd" s__law_odd fO fdO) (gO : mg "_law_odd" = some (.ref fO)) (bO : Binds K fdO ["_law_deck_here", "_law_it"] []) (GO : FnOk P w K mg base CX0 3 fO fdO ["_law_deck_here", "_law_it"] (spOdd K))
    (gB : mg "_law_bent" = some (.ref f)) (bB : Binds K fd ["_law_deck_here", "_law_it"] []) : ∀ k : Nat, FnOk P w K mg base CX0 (4 + k) f fd ["_law_deck_here", "_law_it"] (spBent K k)
  | 0 => ok_bent0 F B FO gO bO GO
  | k + 1 => ok_bentS F B FD gD bD GD FO gO bO GO gB bB (ok_bent F B FD gD bD GD FO gO bO GO gB bB k)
end
end Lw

namespace Lw
open PySem PySem.Spec PyProof.Rows L2 Mq
open SX (S)
inductive Nd where
  | none
  | stops (w : List Nat)
  | reads (b : Option (List Nat)) (ts : List Nat)
def optV : Option (List Nat) → V
  | .none => .non
  | .some w => .str (S w)
def intsV (ts : List Nat) : List V := ts.map fun t => V.int (t : Nat)
def ndV : Nd → List V
  | .none => [.str "none"]
  | .stops w => [.str "stops", .str (S w)]
  | .reads b ts => .str "reads" :: optV b :: intsV ts
def NdAt (K : PySem.W.Frag) (H : Hp) (v : V) (n : Nd) : Prop := ∃ a, v = .ref a ∧ SqT K H a (ndV n)
def ndOk (sg : List Nat) (m : Nat) : Nd → Prop
  | .none => True
  | .stops w => wordOk sg w
  | .reads b ts => ts.length = sg.length ∧ (∀ t ∈ ts, t < m) ∧ ∀ w, b = .some w → wordOk sg w
theorem NdAt.same {K : PySem.W.Frag} {H H' : Hp} {v : V} {n : Nd} (h : NdAt K H v n) (e : Same H H') : NdAt K H' v n := let ⟨a, x, y⟩ := h; ⟨a, x, Same.tup e y⟩
theorem intsV_len (ts : List Nat) : (intsV ts).length = ts.length := by simp [intsV]
theorem intsV_get {ts : List Nat} {i : Nat} (h : i < ts.length) : (intsV ts)[i]? = some (.int (ts.getD i 0 : Nat)) := by
  unfold intsV
  rw [List.getElem?_map, List.getElem?_eq_getElem h, List.getD_eq_getElem?_getD, List.getElem?_eq_getElem h]
  rfl
inductive NdAll (K : PySem.W.Frag) (H : Hp) : List V → List Nd → Prop
  | nil : NdAll K H [] []
  | cons {v : V} {n : Nd} {vs : List V} {ns : List Nd} : NdAt K H v n → NdAll K H vs ns → NdAll K H (v :: vs) (n :: ns)
theorem NdAll.same {K : PySem.W.Frag} {H H' : Hp} (e : Same H H') : ∀ {vs : List V} {ns : List Nd}, NdAll K H vs ns → NdAll K H' vs ns
  | _, _, .nil => .nil
  | _, _, .cons a b => .cons (a.same e) (NdAll.same e b)
theorem NdAll.len {K : PySem.W.Frag} {H : Hp} : ∀ {vs : List V} {ns : List Nd}, NdAll K H vs ns → vs.length = ns.length
  | _, _, .nil => rfl
  | _, _, .cons a b => congrArg (· + 1) b.len
theorem NdAll.snoc {K : PySem.W.Frag} {H : Hp} {v : V} {n : Nd} (h : NdAt K H v n) : ∀ {vs : List V} {ns : List Nd}, NdAll K H vs ns → NdAll K H (vs ++ [v]) (ns ++ [n])
  | _, _, .nil => .cons h .nil
  | _, _, .cons a b => .cons a (NdAll.snoc h b)
theorem NdAll.get {K : PySem.W.Frag} {H : Hp} : ∀ {vs : List V} {ns : List Nd} {i : Nat} {n : Nd}, NdAll K H vs ns → ns[i]? = some n → ∃ v, vs[i]? = some v ∧ NdAt K H v n
  | _, _, 0, _, .cons a b, h => ⟨_, rfl, by cases h; exact a⟩
  | _, _, i + 1, _, .cons a b, h => NdAll.get (i := i) b h
theorem NdAll.at {K : PySem.W.Frag} {H : Hp} : ∀ {vs : List V} {ns : List Nd} {i : Nat} {v : V}, NdAll K H vs ns → vs[i]? = some v → ∃ n, ns[i]? = some n ∧ NdAt K H v n
  | _, _, 0, _, .cons a b, h => ⟨_, rfl, by cases h; exact a⟩
  | _, _, i + 1, _, .cons a b, h => NdAll.at (i := i) b h
def NodesAt (K : PySem.W.Frag) (H : Hp) (a : Addr) (ns : List Nd) : Prop := ∃ vs, SqT K H a vs ∧ NdAll K H vs ns
theorem NodesAt.same {K : PySem.W.Frag} {H H' : Hp} {a : Addr} {ns : List Nd} (h : NodesAt K H a ns) (e : Same H H') : NodesAt K H' a ns := let ⟨vs, x, y⟩ := h; ⟨vs, Same.tup e x, y.same e⟩
/-- letters, as they have to be -/
structure SgOk (sg : List Nat) : Prop where
  pos : 0 < sg.length
  few : sg.length ≤ 10
  low : ∀ c ∈ sg, c < 128
  ok : lettersB sg = true
def NodesOk (sg : List Nat) (ns : List Nd) : Prop := ns ≠ [] ∧ ns.length ≤ 100 ∧ ∀ n ∈ ns, ndOk sg ns.length n
/-! ### as data -/
def optD : Option (List Nat) → PyData
  | .none => .none
  | .some w => .str (S w)
def ndD : Nd → PyData
  | .none => .tuple [.str "none"]
  | .stops w => .tuple [.str "stops", .str (S w)]
  | .reads b ts => .tuple (.str "reads" :: optD b :: ts.map fun t => .int (t : Nat))
theorem dp_optV {K : PySem.W.Frag} {H : Hp} (b : Option (List Nat)) : Dp K H (optV b) (optD b) := by
  cases b with
  | none => exact .non
  | some w => exact .str _
theorem dp_ints {K : PySem.W.Frag} {H : Hp} : ∀ ts : List Nat, DpAll K H (intsV ts) (ts.map fun t => .int (t : Nat))
  | [] => .nil
  | t :: ts => .cons (.int _) (dp_ints ts)
theorem NdAt.dp {K : PySem.W.Frag} {H : Hp} {v : V} {n : Nd} (h : NdAt K H v n) : Dp K H v (ndD n) := by
  obtain ⟨a, rfl, ha⟩ := h
  cases n with
  | none => exact .tup ha (.cons (.str _) .nil)
  | stops w => exact .tup ha (.cons (.str _) (.cons (.str _) .nil))
  | reads b ts => exact .tup ha (.cons (.str _) (.cons (dp_optV b) (dp_ints ts)))
theorem NdAll.dp {K : PySem.W.Frag} {H : Hp} : ∀ {vs : List V} {ns : List Nd}, NdAll K H vs ns → DpAll K H vs (ns.map ndD)
  | _, _, .nil => .nil
  | _, _, .cons a b => .cons a.dp (NdAll.dp b)
theorem NdAt.kp {K : PySem.W.Frag} {H H' : Hp} {v : V} {n : Nd} (h : NdAt K H v n) (e : KpT K H H') : NdAt K H' v n := let ⟨a, x, y⟩ := h; ⟨a, x, e _ _ y⟩
theorem NdAll.kp {K : PySem.W.Frag} {H H' : Hp} (e : KpT K H H') : ∀ {vs : List V} {ns : List Nd}, NdAll K H vs ns → NdAll K H' vs ns
  | _, _, .nil => .nil
  | _, _, .cons a b => .cons (a.kp e) (NdAll.kp e b)
theorem NodesAt.kp {K : PySem.W.Frag} {H H' : Hp} {a : Addr} {ns : List Nd} (h : NodesAt K H a ns) (e : KpT K H H') : NodesAt K H' a ns := let ⟨vs, x, y⟩ := h; ⟨vs, e _ _ x, y.kp e⟩
end Lw

namespace Lw
open PySem PySem.Spec PyProof.Rows L2 Mq
open SX (S)
def spText : Sp := fun vs H Q _ => ∃ (D C : Addr) (T most : Nat) (sg : List Nat), vs = [.ref D, .str (S sg), .int (most : Nat)] ∧ DeckAt D C T H ∧ T ≤ 900000 ∧
  0 < sg.length ∧ sg.length ≤ 1000 ∧ most ≤ 100 ∧ ∀ H' l, (∀ c ∈ l, c ∈ sg) → l.length ≤ most → DeckAt D C (T + 1 + most) H' → Off D C H H' → Q (.str (S l)) H'
theorem joinL_one : ∀ l : List Nat, TL.joinL [] (l.map fun c => [c]) = l
  | [] => rfl
  | [c] => rfl
  | c :: d :: l => by
    show [c] ++ ([] ++ TL.joinL [] ((d :: l).map fun c => [c])) = _
    rw [joinL_one (d :: l)]
    rfl
section
variable {P : Program} {w : World} {K : PySem.W.Frag} {mg : Str → Option Value} {base : Heap}
theorem ok_text {f fD fP : Addr} {fd fdD fdP : FuncData} (F : Fun K "_law_word" "_law_word" s__law_word f fd) (B : Blt mg)
    (FD : Fun K "_law_draw" "_law_draw" s__law_draw fD fdD) (gD : mg "_law_draw" = some (.ref fD)) (bD : Binds K fdD ["_law_deck_here", "_law_below"] [])
    (FP : Fun K "_law_pick" "_law_pick" s__law_pick fP fdP) (gP : mg "_law_pick" = some (.ref fP)) (bP : Binds K fdP ["_law_deck_here", "_law_some"] []) :
    FnOk P w K mg base CX0 3 f fd ["_law_deck_here", "_law_signs", "_law_most"] spText := by
  have GD : FnOk P w K mg base CX0 1 fD fdD ["_law_deck_here", "_law_below"] spDraw := ok_draw FD B
  have GP : FnOk P w K mg base CX0 2 fP fdP ["_law_deck_here", "_law_some"] spPick := ok_pick FP B FD gD bD
  refine F.ok sc__law_word (fun vs H Q E h => ?_) (fun cdv A outer s H vs Q E hr h => ?_)
  · obtain ⟨_, _, _, _, _, rfl, _⟩ := h
    rfl
  · obtain ⟨D, C, T, most, sg, rfl, hdk, hT, h0, h1, hm, q⟩ := h
    refine ⟨_, (pss_one (ps_ret (pe_join pe_str (pe_lc (own := [("_law_k", 3)]) (g := gName 3) (tt := tYes) rfl sc__law_word.nd (pi_range1 (by rfl) B.range (pa_cons (pe_call GD (hr.mono (by decide)) (by rfl) gD FD.kp bD .nil pass0 (pa_cons (pv 0) (pa_cons (pe_op op_add (pv 2) pe_int) pa_nil))) pa_nil)) (blkOk_by (own := [("_law_k", 3)]) (N := ["_law_deck_here", "_law_signs", "_law_most", "_law_k"]) (sc := defScope s__law_word) (by decide +kernel)) (fun _ _ _ _ _ => pg_name (i := 3) sc__law_word.nd rfl (Or.inl rfl)) (fun _ _ _ _ _ => pts_nil)
      (fun _ _ _ _ _ => (pe_call GP (hr.mono (by decide)) (by rfl) gP FP.kp bP .nil pass0 (pa_cons (pv 0) (pa_cons (pv 1) pa_nil)))))))), ?_⟩
    refine ⟨⟨_, rfl⟩, _, rfl, _, rfl, _, _, rfl, rfl, D, C, T, most + 1, rfl, hdk, by omega, by omega, by omega, fun H1 r hr1 dk1 off1 => ?_⟩
    refine ⟨_, rfl, by omega, by omega, fun L hL => ?_⟩
    have hLD : L ≠ D := by
      rintro rfl
      obtain ⟨_, _, _, e, _⟩ := dk1.ex
      rw [hL] at e
      cases e
    have hLC : L ≠ C := by
      rintro rfl
      obtain ⟨_, _, _, _, e, _⟩ := dk1.ex
      rw [hL] at e
      cases e
    refine lc_yes (walk_rng (n := r)) (fun i H' => DeckAt D C (T + 1 + i) H' ∧ Off D C H1 H' ∧ ∃ l : List Nat, l.length = i ∧ (∀ c ∈ l, c ∈ sg) ∧ H' L = some (.lst (l.map fun c => .str (S [c])))) ⟨?_, Off.same (same_new hL), [], rfl, (fun _ h => by cases h), upd_same⟩ (fun _ _ _ _ => trivial) ?_ ?_
    · exact (dk1.same (same_new hL))
    · rintro i x H2 H3 hi ⟨dk2, off2, l, hl, hc, hL2⟩ ⟨rfl, rfl⟩
      refine ⟨rfl, ?_⟩
      refine ⟨_, rfl, _, rfl, D, C, T + 1 + i, _, rfl, dk2, by omega, Or.inl ⟨sg, rfl, h0, h1, fun H4 c hcs dk4 off4 => ?_⟩⟩
      refine ⟨_, off4 L _ hLD hLC hL2, sz_lt (by rw [List.length_map]; omega), ?_, ?_, l ++ [c], by rw [List.length_append, hl]; rfl, ?_, ?_⟩
      · obtain ⟨m, t, js, a1, a2, a3, a4⟩ := dk4.ex
        exact ⟨m, t, js, (upd_ne (Ne.symm hLD)).trans a1, (upd_ne (Ne.symm hLC)).trans a2, a3, by omega⟩
      · intro b o e1 e2 e3
        rw [upd_ne (ne_of_none e3 hL)]
        exact (off2.trans off4) b o e1 e2 e3
      · intro d hd
        rcases List.mem_append.mp hd with hd | hd
        · exact hc d hd
        · rw [List.mem_singleton.mp hd]
          exact hcs
      · rw [upd_same, List.map_append]
        rfl
    · rintro H2 ⟨dk2, off2, l, hl, hc, hL2⟩
      refine ⟨S [], L, (l.map fun c => [c]).map S, rfl, rfl, Or.inl (SqL.of (hL2.trans ?_)), ?_, ?_⟩
      · rw [List.map_map, List.map_map]
        rfl
      · rw [show (((l.map fun c => [c]).map S).map (·.length)).sum = l.length from ?_]
        · rw [SX.S_len, List.length_map, List.length_map]
          show l.length + l.length * 0 ≤ _
          omega
        · clear hL2 hl hc
          induction l with
          | nil => rfl
          | cons c l ih =>
            rw [List.map_cons, List.map_cons, List.map_cons, List.sum_cons, ih, SX.S_len]
            show 1 + l.length = l.length + 1
            omega
      · rw [SX.join_S, joinL_one]
        exact q H2 l hc (by omega) (dk2.mono (by omega)) (off1.trans off2)
end
end Lw

namespace Lw
open PySem PySem.Spec PyProof.Rows L2 Mq
open SX (S)
def tNd : TT := fun σ H Q => ∃ way k : Int, σ[6]? = some (some (.int way)) ∧ σ[5]? = some (some (.int k)) ∧ Q (decide (way = 0 ∨ (1 < way ∧ way < 4 ∧ 0 < k))) H
def spNodes (K : PySem.W.Frag) : Sp := fun vs H Q _ => ∃ (D C : Addr) (T top : Nat) (sg : List Nat), vs = [.ref D, .str (S sg), .int (top : Nat)] ∧ DeckAt D C T H ∧ T ≤ 100000 ∧ SgOk sg ∧ 0 < top ∧ top ≤ 90 ∧
  ∀ H' a ns, NodesAt K H' a ns → NodesOk sg ns → ns.length ≤ top → DeckAt D C (T + 5000) H' → Off D C H H' → Q (.ref a) H'
/-- the nodes that stand in the list at L -/
structure Acc (K : PySem.W.Frag) (D C L : Addr) (H : Hp) (sg : List Nat) (m T k : Nat) (H' : Hp) : Prop where
  dk : DeckAt D C T H'
  off : Off D C H H'
  ex : ∃ vs ns, H' L = some (.lst vs) ∧ NdAll K H' vs ns ∧ ns.length = k ∧ ∀ n ∈ ns, ndOk sg m n
theorem Acc.offs {K : PySem.W.Frag} {D C L : Addr} {H H1 H2 : Hp} {sg : List Nat} {m T T' k : Nat} (a : Acc K D C L H sg m T k H1) (f : Off D C H1 H2) (dk : DeckAt D C T' H2) (h1 : L ≠ D) (h2 : L ≠ C) : Acc K D C L H sg m T' k H2 := by
  obtain ⟨vs, ns, x, y, z, t⟩ := a.ex
  exact ⟨dk, a.off.trans f, vs, ns, f L _ h1 h2 x, y.kp (KpT.off f a.dk), z, t⟩
theorem Acc.same {K : PySem.W.Frag} {D C L : Addr} {H H1 H2 : Hp} {sg : List Nat} {m T k : Nat} (a : Acc K D C L H sg m T k H1) (e : Same H1 H2) : Acc K D C L H sg m T k H2 := by
  obtain ⟨vs, ns, x, y, z, t⟩ := a.ex
  exact ⟨a.dk.same e, a.off.trans (Off.same e), vs, ns, e _ _ x, y.same e, z, t⟩
theorem Acc.other {K : PySem.W.Frag} {D C L q : Addr} {H H1 : Hp} {sg : List Nat} {m T k : Nat} {ys zs : List V} (a : Acc K D C L H sg m T k H1) (h : H1 q = some (.lst ys)) (hq : H q = none) (h1 : q ≠ D) (h2 : q ≠ C) (h3 : q ≠ L) :
    Acc K D C L H sg m T k (upd H1 q (.lst zs)) := by
  obtain ⟨vs, ns, x, y, z, t⟩ := a.ex
  refine ⟨?_, ?_, vs, ns, (upd_ne (Ne.symm h3)).trans x, y.kp (KpT.lst h), z, t⟩
  · obtain ⟨m, t, js, a1, a2, a3, a4⟩ := a.dk.ex
    exact ⟨m, t, js, (upd_ne (Ne.symm h1)).trans a1, (upd_ne (Ne.symm h2)).trans a2, a3, a4⟩
  · intro b o e1 e2 e3
    rw [upd_ne (ne_of_none e3 hq)]
    exact a.off b o e1 e2 e3
theorem Acc.new {K : PySem.W.Frag} {D C L q : Addr} {H H1 : Hp} {sg : List Nat} {m T k : Nat} (a : Acc K D C L H sg m T k H1) (h : H1 q = none) : q ≠ D ∧ q ≠ C ∧ q ≠ L ∧ H q = none := by
  obtain ⟨vs, ns, x, _⟩ := a.ex
  obtain ⟨_, _, _, e1, e2, _⟩ := a.dk.ex
  have n1 : q ≠ D := by
    rintro rfl
    rw [h] at e1
    cases e1
  have n2 : q ≠ C := by
    rintro rfl
    rw [h] at e2
    cases e2
  refine ⟨n1, n2, ?_, ?_⟩
  · rintro rfl
    rw [h] at x
    cases x
  · cases q0 : H q with
    | none => rfl
    | some o =>
      have z := a.off q o n1 n2 q0
      rw [h] at z
      cases z
theorem Acc.mono {K : PySem.W.Frag} {D C L : Addr} {H H1 : Hp} {sg : List Nat} {m T T' k : Nat} (a : Acc K D C L H sg m T k H1) (h : T ≤ T') : Acc K D C L H sg m T' k H1 := ⟨a.dk.mono h, a.off, a.ex⟩
theorem Acc.push {K : PySem.W.Frag} {D C L : Addr} {H H1 : Hp} {sg : List Nat} {m T k : Nat} {p : Addr} {n : Nd} {vs : List V} (a : Acc K D C L H sg m T k H1) (hL : H1 L = some (.lst vs)) (hHL : H L = none)
    (hp : SqT K H1 p (ndV n)) (hn : ndOk sg m n) (h1 : L ≠ D) (h2 : L ≠ C) : Acc K D C L H sg m T (k + 1) (upd H1 L (.lst (vs ++ [.ref p]))) := by
  obtain ⟨vs', ns, x, y, z, t⟩ := a.ex
  rw [hL] at x
  cases x
  have kp : KpT K H1 (upd H1 L (.lst (vs ++ [.ref p]))) := KpT.lst hL
  refine ⟨?_, ?_, vs ++ [.ref p], ns ++ [n], upd_same, NdAll.snoc ⟨p, rfl, kp _ _ hp⟩ (y.kp kp), by rw [List.length_append, z]; rfl, ?_⟩
  · obtain ⟨m, t, js, a1, a2, a3, a4⟩ := a.dk.ex
    exact ⟨m, t, js, (upd_ne (Ne.symm h1)).trans a1, (upd_ne (Ne.symm h2)).trans a2, a3, a4⟩
  · intro b o e1 e2 e3
    rw [upd_ne (ne_of_none e3 hHL)]
    exact a.off b o e1 e2 e3
  · intro x hx
    rcases List.mem_append.mp hx with hx | hx
    · exact t x hx
    · rw [List.mem_singleton.mp hx]
      exact hn
section
variable {P : Program} {w : World} {K : PySem.W.Frag} {mg : Str → Option Value} {base : Heap}
theorem ok_nodes {f fD fP fT : Addr} {fd fdD fdP fdT : FuncData} (F : Fun K "_law_nodes" "_law_nodes" s__law_nodes f fd) (B : Blt mg)
    (FD : Fun K "_law_draw" "_law_draw" s__law_draw fD fdD) (gD : mg "_law_draw" = some (.ref fD)) (bD : Binds K fdD ["_law_deck_here", "_law_below"] [])
    (FP : Fun K "_law_pick" "_law_pick" s__law_pick fP fdP) (gP : mg "_law_pick" = some (.ref fP)) (bP : Binds K fdP ["_law_deck_here", "_law_some"] [])
    (FT : Fun K "_law_word" "_law_word" s__law_word fT fdT) (gT : mg "_law_word" = some (.ref fT)) (bT : Binds K fdT ["_law_deck_here", "_law_signs", "_law_most"] []) :
    FnOk P w K mg base CX0 4 f fd ["_law_deck_here", "_law_signs", "_law_top"] (spNodes K) := by
  have GD : FnOk P w K mg base CX0 1 fD fdD ["_law_deck_here", "_law_below"] spDraw := ok_draw FD B
  have GP : FnOk P w K mg base CX0 2 fP fdP ["_law_deck_here", "_law_some"] spPick := ok_pick FP B FD gD bD
  have GT : FnOk P w K mg base CX0 3 fT fdT ["_law_deck_here", "_law_signs", "_law_most"] spText := ok_text FT B FD gD bD FP gP bP
  refine F.ok sc__law_nodes (fun vs H Q E h => ?_) (fun cdv A outer s H vs Q E hr h => ?_)
  · obtain ⟨_, _, _, _, _, rfl, _⟩ := h
    rfl
  · obtain ⟨D, C, T, top, sg, rfl, hdk, hT, hs, h0, h1, q⟩ := h
    refine ⟨_, (pss_cons (ps_asg (pe_tup (pa_cons (pe_op op_add pe_int (pe_call GD (hr.mono (by decide)) (by rfl) gD FD.kp bD .nil pass0 (pa_cons (pv 0) (pa_cons (pv 2) pa_nil)))) (pa_cons (pe_ls pa_nil) pa_nil))) (pg_tup rfl (pgs_cons (pg_name (i := 3) sc__law_nodes.nd rfl (Or.inr rfl)) (pgs_cons (pg_name (i := 4) sc__law_nodes.nd rfl (Or.inl rfl)) pgs_nil))))
      (pss_cons (ps_for PassesOwn.never rfl (pi_range1 (by rfl) B.range (pa_cons (pv 3) pa_nil)) (pg_name (i := 5) sc__law_nodes.nd rfl (Or.inl rfl))
        (pss_cons (ps_set (i := 6) sc__law_nodes.nd rfl (Or.inl rfl) (pe_call GD (hr.mono (by decide)) (by rfl) gD FD.kp bD .nil pass0 (pa_cons (pv 0) (pa_cons pe_int pa_nil))))
        (pss_one (ps_if (PT_imp (t' := tNd) (PW.pt (pw_or (pt_cmpR op_eq (pv 6) pe_int (nomark _)) (pw_or1 (PW.pt (pw_and (pt_cmpR op_gt (pv 6) pe_int (nomark _)) (pw_and (pt_cmpR op_lt (pv 6) pe_int (nomark _)) (pw_and1 (pt_cmpR op_gt (pv 5) pe_int (nomark _))))))))) ?_)
          (pss_one (ps_expr (pe_bm PySem.F.plainAttrs_list PySem.F.slot_list_append PySem.F.type_list_append mt_append (pv 4) (pa_cons (pe_ifExp (pt_cmpR op_eq (pv 6) pe_int (nomark _)) (pe_tup (pa_cons pe_str pa_nil)) (pe_tup (pa_cons pe_str (pa_cons (pe_call GT (hr.mono (by decide)) (by rfl) gT FT.kp bT .nil pass0 (pa_cons (pv 0) (pa_cons (pv 1) (pa_cons pe_int pa_nil)))) pa_nil)))) pa_nil))))
          (pss_cons (ps_set (i := 7) sc__law_nodes.nd rfl (Or.inl rfl) (pe_call GP (hr.mono (by decide)) (by rfl) gP FP.kp bP .nil pass0 (pa_cons (pv 0) (pa_cons (pe_ls (pa_cons pe_non (pa_cons pe_str (pa_cons (pe_call GT (hr.mono (by decide)) (by rfl) gT FT.kp bT .nil pass0 (pa_cons (pv 0) (pa_cons (pv 1) (pa_cons pe_int pa_nil)))) pa_nil)))) pa_nil))))
          (pss_one (ps_expr (pe_bm PySem.F.plainAttrs_list PySem.F.slot_list_append PySem.F.type_list_append mt_append (pv 4) (pa_cons (pe_op op_catT (pe_tup (pa_cons pe_str (pa_cons (pv 7) pa_nil))) (pe_callTy call_tuple_of (by rfl) B.tuple (by decide +kernel) (pa_cons (pe_lc (own := [("_law_x", 8)]) (g := gName 8) (tt := tYes) rfl sc__law_nodes.nd (pi_str (pv 1)) (blkOk_by (own := [("_law_x", 8)]) (N := ["_law_deck_here", "_law_signs", "_law_top", "_law_size", "_law_found", "_law_k", "_law_way", "_law_bare", "_law_x"]) (sc := defScope s__law_nodes) (by decide +kernel)) (fun _ _ _ _ _ => pg_name (i := 8) sc__law_nodes.nd rfl (Or.inl rfl)) (fun _ _ _ _ _ => pts_nil)
            (fun _ _ _ _ _ => (pe_call GD (hr.mono (by decide)) (by rfl) gD FD.kp bD .nil pass0 (pa_cons (pv 0) (pa_cons (pv 3) pa_nil))))) pa_nil))) pa_nil)))))))))
      (pss_one (ps_ret (pe_callTy call_tuple_of (by rfl) B.tuple (by decide +kernel) (pa_cons (pv 4) pa_nil)))))), ?_⟩
    · intro σ H Q ⟨way, k, e6, e5, q⟩
      have z0 : decide (V.int way = V.int 0) = decide (way = 0) := by
        rw [dec_int]
        rfl
      refine ⟨_, e6, rfl, _, rfl, ?_⟩
      rw [z0]
      by_cases h : way = 0
      · rw [decide_eq_true h]
        rw [decide_eq_true (Or.inl h)] at q
        exact ifT rfl q
      · rw [decide_eq_false h]
        refine ifF rfl ⟨_, e6, _, _, rfl, rfl, _, rfl, ?_⟩
        by_cases h2 : (1 : Int) < way
        · refine ifT (decide_eq_true h2) ⟨_, e6, _, _, rfl, rfl, _, rfl, ?_⟩
          by_cases h3 : way < (4 : Int)
          · refine ifT (decide_eq_true h3) ⟨_, e5, _, _, rfl, rfl, _, rfl, ?_⟩
            have e : decide (way = 0 ∨ (1 < way ∧ way < 4 ∧ 0 < k)) = decide (0 < k) := decide_eq_decide.mpr ⟨fun z => (z.resolve_left h).2.2, fun z => Or.inr ⟨h2, h3, z⟩⟩
            rw [e] at q
            exact q
          · refine ifF (decide_eq_false h3) ?_
            rw [decide_eq_false (fun z => h3 (z.resolve_left h).2.1)] at q
            exact q
        · refine ifF (decide_eq_false h2) ?_
          rw [decide_eq_false (fun z => h2 (z.resolve_left h).1)] at q
          exact q
    have kp0 : ∀ {H1 H2 : Hp} {T : Nat}, Off D C H1 H2 → DeckAt D C T H1 → KpT K H1 H2 := fun f k => KpT.off f k
    refine ⟨_, rfl, _, rfl, D, C, T, top, rfl, hdk, by omega, h0, by omega, fun H1 r hr1 dk1 off1 => ?_⟩
    have e : (1 : Int) + (r : Nat) = ((r + 1 : Nat) : Int) := by omega
    refine ⟨_, _, rfl, rfl, sz_le (n := 0) (by decide), fun L hL _ => ⟨sz_le (n := 2) (by decide), fun tp htp => ?_⟩⟩
    refine ⟨tp, [.int (r + 1 : Nat), .ref L], rfl, Or.inl (Or.inl (upd_same.trans ?_)), rfl, _, _, rfl, _, _, rfl, rfl, ?_⟩
    · show some (HO.tup [V.int (1 + ((r : Nat) : Int)), V.ref L]) = _
      rw [e]
    have hLD : L ≠ D := by
      rintro rfl
      obtain ⟨_, _, _, e, _⟩ := dk1.ex
      rw [hL] at e
      cases e
    have hLC : L ≠ C := by
      rintro rfl
      obtain ⟨_, _, _, _, e, _⟩ := dk1.ex
      rw [hL] at e
      cases e
    have hHL : H L = none := by
      cases q0 : H L with
      | none => rfl
      | some o =>
        have z := off1 L o hLD hLC q0
        rw [hL] at z
        cases z
    have a0 : Acc K D C L H sg (r + 1) (T + 1) 0 (upd H1 L (.lst [])) := ⟨dk1.same (same_new hL), off1.trans (Off.same (same_new hL)), [], [], upd_same, .nil, rfl, (fun _ z => by cases z)⟩
    have a1 := a0.same (same_new (o := HO.tup [V.int (1 + ((r : Nat) : Int)), V.ref L]) htp)
    refine ⟨_, rfl, _, rfl, by omega, by omega, ?_⟩
    refine for_it (walk_rng (n := r + 1)) (fun k σ H' => Acc K D C L H sg (r + 1) (T + 1 + 40 * k) k H' ∧ ∃ o5 o6 o7 o8, σ = [some (.ref D), some (.str (S sg)), some (.int (top : Nat)), some (.int (r + 1 : Nat)), some (.ref L), o5, o6, o7, o8])
      ⟨a1, _, _, _, _, rfl⟩ (fun _ _ _ _ _ => trivial) ?_ ?_
    · rintro i x σ H2 H3 hi ⟨a2, o5, o6, o7, o8, rfl⟩ ⟨rfl, rfl⟩
      refine ⟨_, rfl, D, C, _, 7, rfl, a2.dk, by omega, by decide, by decide, fun H4 way hw dk4 off4 => ?_⟩
      have a4 := a2.offs off4 dk4 hLD hLC
      refine ⟨(way : Nat), (i : Nat), rfl, rfl, ite2 (fun hc => ?_) (fun hc => ?_)⟩
      · obtain ⟨vs, ns, x4, y4, z4, t4⟩ := a4.ex
        refine ⟨_, rfl, Or.inl ⟨rfl, _, Or.inl (Or.inl x4)⟩, _, rfl, rfl, _, rfl, ite2 (fun h0 => ?_) (fun h0 => ?_)⟩
        · refine ⟨sz_le (n := 1) (by decide), fun p hp => ?_⟩
          have s5 := same_new (o := HO.tup [V.str "none"]) hp
          have a5 := a4.same s5
          have x5 := s5 _ _ x4
          have hp5 : SqT K (upd H4 p (.tup [V.str "none"])) p (ndV .none) := Or.inl (Or.inl upd_same)
          generalize upd H4 p (.tup [V.str "none"]) = H5 at a5 x5 hp5 ⊢
          refine ⟨L, vs, .ref p, rfl, rfl, x5, ?_, ?_, _, _, _, _, rfl⟩
          · have := y4.len
            exact sz_lt (by omega)
          · have a6 := a5.push (n := .none) x5 hHL hp5 trivial hLD hLC
            exact ⟨a6.dk.mono (by omega), a6.off, a6.ex⟩
        · refine ⟨_, rfl, _, rfl, D, C, _, 3, sg, rfl, a4.dk, by omega, hs.pos, by have := hs.few; omega, by decide, fun H5 wd hw1 hw2 dk5 off5 => ⟨sz_le (n := 2) (by decide), fun p hp => ?_⟩⟩
          have a5 := a4.offs off5 dk5 hLD hLC
          have x5 := off5 L _ hLD hLC x4
          have s6 := same_new (o := HO.tup [V.str "stops", V.str (S wd)]) hp
          have a6 := a5.same s6
          have x6 := s6 _ _ x5
          have hp6 : SqT K (upd H5 p (.tup [V.str "stops", V.str (S wd)])) p (ndV (.stops wd)) := Or.inl (Or.inl upd_same)
          generalize upd H5 p (.tup [V.str "stops", V.str (S wd)]) = H6 at a6 x6 hp6 ⊢
          refine ⟨L, vs, .ref p, rfl, rfl, x6, ?_, ?_, _, _, _, _, rfl⟩
          · have := y4.len
            exact sz_lt (by omega)
          · have a7 := a6.push (n := .stops wd) x6 hHL hp6 ⟨hw1, by omega⟩ hLD hLC
            exact ⟨a7.dk.mono (by omega), a7.off, a7.ex⟩
      · refine ⟨_, rfl, _, rfl, _, rfl, D, C, _, 3, sg, rfl, a4.dk, by omega, hs.pos, by have := hs.few; omega, by decide, fun H5 wd hw1 hw2 dk5 off5 => ⟨sz_le (n := 3) (by decide), fun p hp _ => ?_⟩⟩
        have a5 := a4.offs off5 dk5 hLD hLC
        have a6 := a5.same (same_new (o := HO.lst [V.non, V.str "", V.str (S wd)]) hp)
        obtain ⟨n1, n2, n3, n4⟩ := a5.new hp
        refine ⟨D, C, _, .ref p, rfl, a6.dk, by omega, Or.inr ⟨p, _, rfl, upd_same, n2, Nat.zero_lt_succ _, by show 3 ≤ 1000; decide, fun H7 v hv dk7 off7 => ?_⟩⟩
        have a7 := a6.offs off7 dk7 hLD hLC
        obtain ⟨b, rfl, hb⟩ : ∃ b, v = optV b ∧ ∀ w, b = .some w → wordOk sg w := by
          rcases List.mem_cons.mp hv with rfl | hv
          · exact ⟨.none, rfl, fun _ z => nomatch z⟩
          · rcases List.mem_cons.mp hv with rfl | hv
            · exact ⟨.some [], rfl, fun w z => by cases z; exact ⟨fun _ z => (by cases z), Nat.zero_le _⟩⟩
            · rw [List.mem_singleton.mp hv]
              exact ⟨.some wd, rfl, fun w z => by cases z; exact ⟨hw1, by omega⟩⟩
        obtain ⟨vs, ns, x7, y7, z7, t7⟩ := a7.ex
        refine ⟨_, rfl, Or.inl ⟨rfl, _, Or.inl (Or.inl x7)⟩, _, rfl, sz_le (n := 2) (by decide), fun p2 hp2 => ?_⟩
        have s8 := same_new (o := HO.tup [V.str "reads", optV b]) hp2
        have a8 := a7.same s8
        have x8 := s8 _ _ x7
        have t8 : SqT K (upd H7 p2 (.tup [V.str "reads", optV b])) p2 [V.str "reads", optV b] := Or.inl (Or.inl upd_same)
        generalize upd H7 p2 (.tup [V.str "reads", optV b]) = H8 at a8 x8 t8 ⊢
        refine ⟨_, rfl, S sg, rfl, fun L2 hL2 => ?_⟩
        obtain ⟨m1, m2, m3, m4⟩ := a8.new hL2
        refine lc_yes (walk_S sg) (fun j H' => Acc K D C L H sg (r + 1) (T + 1 + 40 * i + 1 + (1 + 3) + 1 + j) i H' ∧ H' L = some (.lst vs) ∧ SqT K H' p2 [V.str "reads", optV b] ∧
          ∃ ts : List Nat, H' L2 = some (.lst (intsV ts)) ∧ ts.length = j ∧ ∀ t ∈ ts, t < r + 1) ⟨(a8.same (same_new hL2)).mono (by omega), (same_new hL2) _ _ x8, Same.tup (same_new hL2) t8, [], upd_same, rfl, (fun _ z => by cases z)⟩ (fun _ _ _ _ => trivial) ?_ ?_
        · rintro j x H9 H10 hj ⟨a9, x9, t9, ts, l9, c9, b9⟩ ⟨rfl, rfl⟩
          have hfew := hs.few
          refine ⟨rfl, _, rfl, _, rfl, D, C, _, r + 1, rfl, a9.dk, by omega, by omega, by omega, fun H11 t ht dk11 off11 => ?_⟩
          have a11 := a9.offs off11 dk11 hLD hLC
          have l11 := off11 L2 _ m1 m2 l9
          have x11 := off11 L _ hLD hLC x9
          have t11 := off11.tup a9.dk t9
          refine ⟨_, l11, sz_lt (by rw [intsV_len]; omega), (a11.other l11 m4 m1 m2 m3).mono (by omega), (upd_ne (Ne.symm m3)).trans x11, KpT.lst l11 _ _ t11, ts ++ [t], ?_, by rw [List.length_append, c9]; rfl, ?_⟩
          · rw [upd_same]
            unfold intsV
            rw [List.map_append]
            rfl
          · intro y hy
            rcases List.mem_append.mp hy with hy | hy
            · exact b9 y hy
            · rw [List.mem_singleton.mp hy]
              exact ht
        · rintro H9 ⟨a9, x9, t9, ts, l9, c9, b9⟩
          have hfew := hs.few
          have hpos := hs.pos
          refine ⟨L2, _, rfl, Or.inl ⟨SqL.of l9, fun p3 hp3 => ?_⟩⟩
          have s10 := same_new (o := HO.tup (intsV ts)) hp3
          refine ⟨p2, p3, _, intsV ts, rfl, rfl, Same.tup s10 t9, Or.inl (Or.inl upd_same), (fun z => nomatch z), sz_le (by rw [intsV_len, c9]; show 2 + sg.length ≤ _; omega), (fun z => ?_), fun _ p4 hp4 => ?_⟩
          · have h := congrArg List.length z
            rw [intsV_len, c9] at h
            have h' : sg.length = 0 := h
            omega
          · have s11 := s10.trans (same_new (o := HO.tup ([V.str "reads", optV b] ++ intsV ts)) hp4)
            have a11 := a9.same s11
            have x11 := s11 _ _ x9
            have t11 : SqT K (upd (upd H9 p3 (.tup (intsV ts))) p4 (.tup ([V.str "reads", optV b] ++ intsV ts))) p4 (ndV (.reads b ts)) := Or.inl (Or.inl upd_same)
            generalize upd (upd H9 p3 (.tup (intsV ts))) p4 (.tup ([V.str "reads", optV b] ++ intsV ts)) = H12 at a11 x11 t11 ⊢
            refine ⟨L, vs, .ref p4, rfl, rfl, x11, ?_, ?_, _, _, _, _, rfl⟩
            · have := y7.len
              exact sz_lt (by omega)
            · have a12 := a11.push (n := .reads b ts) x11 hHL t11 ⟨c9, b9, hb⟩ hLD hLC
              exact ⟨a12.dk.mono (by omega), a12.off, a12.ex⟩
    · rintro σ H2 ⟨a2, o5, o6, o7, o8, rfl⟩
      obtain ⟨vs, ns, x, y, z, t⟩ := a2.ex
      refine ⟨_, rfl, L, vs, rfl, Or.inl ⟨SqL.of x, fun p hp => ?_⟩⟩
      have s2 : Same H2 (upd H2 p (.tup vs)) := same_new hp
      refine q _ p ns ⟨vs, Or.inl (Or.inl upd_same), y.same s2⟩ ⟨?_, by omega, by rw [z]; exact t⟩ (by omega) ((a2.dk.same s2).mono (by omega)) (a2.off.trans (Off.same s2))
      rintro rfl
      cases z
end
end Lw

namespace Lw
open PySem PySem.Spec PyProof.Rows L2 Mq
open SX (S)
/-! ### right nodes as data -/
theorem opt_tn {K : PySem.W.Frag} {H : Hp} (b : Option (List Nat)) : Tn K H (optV b) (optD b) := by
  cases b with
  | none => exact .non
  | some w => exact .str _
theorem ints_tn {K : PySem.W.Frag} {H : Hp} : ∀ {ts : List Nat}, (∀ t ∈ ts, t ≤ 1000) → TnAll K H (intsV ts) (ts.map fun t => .int (t : Nat))
  | [], _ => .nil
  | t :: ts, h => .cons (.int t (h t List.mem_cons_self)) (ints_tn fun x hx => h x (List.mem_cons_of_mem _ hx))
theorem nd_tn {K : PySem.W.Frag} {H : Hp} {v : V} {n : Nd} {sg : List Nat} {m : Nat} (h : NdAt K H v n) (k : ndOk sg m n) (hm : m ≤ 1000) : Tn K H v (ndD n) := by
  obtain ⟨a, rfl, ha⟩ := h
  cases n with
  | none => exact .tup ha (.cons (.str _) .nil)
  | stops w => exact .tup ha (.cons (.str _) (.cons (.str _) .nil))
  | reads b ts => exact .tup ha (.cons (.str _) (.cons (opt_tn b) (ints_tn fun t ht => by have := k.2.1 t ht; omega)))
theorem nds_tn {K : PySem.W.Frag} {H : Hp} {sg : List Nat} {m : Nat} (hm : m ≤ 1000) : ∀ {vs : List V} {ns : List Nd}, NdAll K H vs ns → (∀ n ∈ ns, ndOk sg m n) → TnAll K H vs (ns.map ndD)
  | _, _, .nil, _ => .nil
  | _, _, .cons a b, h => .cons (nd_tn a (h _ List.mem_cons_self) hm) (nds_tn hm b fun n hn => h n (List.mem_cons_of_mem _ hn))
theorem int_ok {k : Nat} (h : k < 16) : OkD 4 0 (.int ((k : Nat) : Int)) := by
  have key : ((List.range 16).all fun k => okB 4 0 (.int ((k : Nat) : Int))) = true := by decide +kernel
  exact okD_of (List.all_eq_true.mp key k (List.mem_range.mpr h))
theorem ints_ok : ∀ {ts : List Nat}, (∀ t ∈ ts, t < 16) → LsOk (5 * ts.length) 0 (ts.map fun t => .int ((t : Nat) : Int))
  | [], _ => LsOk.nil
  | t :: ts, h => by
    have ih := ints_ok fun x hx => h x (List.mem_cons_of_mem _ hx)
    refine (LsOk.cons (int_ok (h t List.mem_cons_self)) ih).mono ?_ (Nat.le_refl _)
    rw [List.length_cons]
    omega
theorem wd_ok {sg w : List Nat} (hs : ∀ c ∈ sg, c < 128) (h : wordOk sg w) : OkD 3 0 (.str (S w)) := okD_str (fun c hc => hs c (h.1 c hc)) h.2
theorem opt_ok {sg : List Nat} {b : Option (List Nat)} (hs : ∀ c ∈ sg, c < 128) (h : ∀ w, b = .some w → wordOk sg w) : OkD 3 0 (optD b) := by
  cases b with
  | none => exact (okD_of (by decide +kernel) : OkD 3 0 .none)
  | some w => exact wd_ok hs (h w rfl)
theorem nd_okD {sg : List Nat} {m : Nat} {n : Nd} (hs : ∀ c ∈ sg, c < 128) (hl : sg.length ≤ 4) (hm : m ≤ 16) (h : ndOk sg m n) : OkD 30 1 (ndD n) := by
  have sW : ∀ z : Str, okB 5 0 (.str z) = true → OkD 5 0 (.str z) := fun z e => okD_of e
  cases n with
  | none => exact ((LsOk.cons (sW "none" (by decide +kernel)) (LsOk.nil (w := 0))).mono (by decide) (Nat.le_refl _)).tup
  | stops w => exact ((LsOk.cons (sW "stops" (by decide +kernel)) (LsOk.cons (wd_ok hs h) (LsOk.nil (w := 0)))).mono (by decide) (Nat.le_refl _)).tup
  | reads b ts =>
    refine ((LsOk.cons (sW "reads" (by decide +kernel)) (LsOk.cons (opt_ok hs h.2.2) (ints_ok fun t ht => ?_))).mono ?_ (Nat.le_refl _)).tup
    · have := h.2.1 t ht
      omega
    · have := h.1
      omega
theorem nds_ok {sg : List Nat} {m : Nat} (hs : ∀ c ∈ sg, c < 128) (hl : sg.length ≤ 4) (hm : m ≤ 16) : ∀ {ns : List Nd}, (∀ n ∈ ns, ndOk sg m n) → LsOk (31 * ns.length) 1 (ns.map ndD)
  | [], _ => LsOk.nil
  | n :: ns, h => by
    have ih := nds_ok hs hl hm fun x hx => h x (List.mem_cons_of_mem _ hx)
    refine (LsOk.cons (nd_okD hs hl hm (h n List.mem_cons_self)) ih).mono ?_ (Nat.le_refl _)
    rw [List.length_cons]
    omega
/-! right nodes are no wrong ones -/
theorem belowAll_ints {m : Nat} {ts : List Nat} {a b : PyData} (h : ∀ t ∈ ts, t < m) : belowAllB m (a :: b :: ts.map fun t => .int ((t : Nat) : Int)) = true := by
  unfold belowAllB
  rw [List.all_map, List.all_eq_true]
  intro k hk
  have hk' := List.mem_range.mp hk
  rw [List.length_cons, List.length_cons, List.length_map] at hk'
  have hk2 : k < ts.length := by omega
  have e : (a :: b :: ts.map fun t => PyData.int ((t : Nat) : Int)).getD (k + 2) .none = .int ((ts[k] : Nat) : Int) := by
    rw [List.getD_eq_getElem?_getD, List.getElem?_cons_succ, List.getElem?_cons_succ, List.getElem?_map, List.getElem?_eq_getElem hk2]
    rfl
  show belowD m ((a :: b :: ts.map fun t => PyData.int ((t : Nat) : Int)).getD (k + 2) .none) = true
  rw [e]
  have := h _ (List.getElem_mem hk2)
  show (decide ((0 : Int) ≤ ((ts[k] : Nat) : Int)) && decide (((ts[k] : Nat) : Int) < (m : Int))) = true
  rw [decide_eq_true (by omega), decide_eq_true (by omega)]
  rfl
theorem node_right {sg : List Nat} {m : Nat} {n : Nd} (h : ndOk sg m n) : nodeD sg m (ndD n) = true := by
  cases n with
  | none =>
    show nodeB sg m [.str "none"] = true
    unfold nodeB
    have e1 : decide (("none" : Str) = "stops") = false := by decide +kernel
    have e2 : decide (("none" : Str) = "none") = true := decide_eq_true rfl
    dsimp only [headD]
    rw [e1, e2]
    rfl
  | stops w =>
    show nodeB sg m [.str "stops", .str (S w)] = true
    unfold nodeB
    have e1 : decide (("stops" : Str) = "stops") = true := decide_eq_true rfl
    dsimp only [headD]
    rw [e1, if_pos rfl]
    show (true && allB w sg) = true
    rw [allB_of h.1]
    rfl
  | reads b ts =>
    obtain ⟨h1, h2, h3⟩ := h
    show nodeB sg m (.str "reads" :: optD b :: ts.map fun t => .int ((t : Nat) : Int)) = true
    unfold nodeB
    have e1 : decide (("reads" : Str) = "stops") = false := by decide +kernel
    have e2 : decide (("reads" : Str) = "none") = false := by decide +kernel
    dsimp only [headD]
    rw [e1, e2, if_neg (by decide), if_neg (by decide)]
    unfold readB
    have e3 : decide ((PyData.str "reads" :: optD b :: ts.map fun t => PyData.int ((t : Nat) : Int)).length = sg.length + 2) = true := by
      refine decide_eq_true ?_
      rw [List.length_cons, List.length_cons, List.length_map, h1]
    have e4 : decide (headD (PyData.str "reads" :: optD b :: ts.map fun t => PyData.int ((t : Nat) : Int)) = some ("reads" : Str)) = true := decide_eq_true rfl
    rw [e3, e4, belowAll_ints h2]
    show (noneD (optD b) || webD sg (optD b)) = true
    cases b with
    | none => rfl
    | some w =>
      show (false || allB w sg) = true
      rw [allB_of (h3 w rfl).1]
      rfl
theorem first_right {p : PyData → Bool} : ∀ {ds : List PyData} {i : Nat}, (∀ d ∈ ds, p d = true) → firstBad p ds i = none
  | [], _, _ => rfl
  | d :: ds, i, h => by
    unfold firstBad
    rw [h d List.mem_cons_self, if_pos rfl]
    exact first_right fun x hx => h x (List.mem_cons_of_mem _ hx)
theorem due_right {sg : List Nat} {ns : List Nd} (hs : SgOk sg) (h : NodesOk sg ns) : dueM (.str (S sg)) (.tuple (ns.map ndD)) = none := by
  rw [due_str, hs.ok, if_pos rfl]
  unfold bodyN
  dsimp only
  have e0 : (ns.map ndD).isEmpty = false := by
    cases ns with
    | nil => exact (h.1 rfl).elim
    | cons n ns => rfl
  rw [e0, if_neg (by decide), first_right]
  · rfl
  · intro d hd
    obtain ⟨n, hn, rfl⟩ := List.mem_map.mp hd
    rw [List.length_map]
    exact node_right (h.2.2 n hn)
/-! equal data -/
mutual
theorem tn_eqv {K : PySem.W.Frag} {H : Hp} : ∀ {v : V} {d : PyData}, Tn K H v d → PyData.eqv d d = true
  | _, _, .non => rfl
  | _, _, .int i _ => by
    show (((i : Nat) : Int) == ((i : Nat) : Int)) = true
    exact beq_self_eq_true _
  | _, _, .str x => by
    show (x == x) = true
    exact beq_self_eq_true _
  | _, _, .tup _ ha => tnAll_eqv ha
theorem tnAll_eqv {K : PySem.W.Frag} {H : Hp} : ∀ {vs : List V} {ds : List PyData}, TnAll K H vs ds → PyData.eqvAll ds ds = true
  | _, _, .nil => rfl
  | _, _, .cons (d := d) (ds := ds) a b => by
    show (PyData.eqv d d && PyData.eqvAll ds ds) = true
    rw [tn_eqv a, tnAll_eqv b]
    rfl
end
/-! ### the parts of a reader, as values -/
structure Pts (K : PySem.W.Frag) (H : Hp) (sg : List Nat) (ns : List Nd) (na : Addr) : Prop where
  at_ : NodesAt K H na ns
  ok : NodesOk sg ns
  hs : SgOk sg
  few : ns.length ≤ 12
  short : sg.length ≤ 4
theorem Pts.same {K : PySem.W.Frag} {H H' : Hp} {sg : List Nat} {ns : List Nd} {na : Addr} (h : Pts K H sg ns na) (e : Same H H') : Pts K H' sg ns na := ⟨h.at_.same e, h.ok, h.hs, h.few, h.short⟩
theorem Pts.kp {K : PySem.W.Frag} {H H' : Hp} {sg : List Nat} {ns : List Nd} {na : Addr} (h : Pts K H sg ns na) (e : KpT K H H') : Pts K H' sg ns na := ⟨h.at_.kp e, h.ok, h.hs, h.few, h.short⟩
theorem Pts.tn {K : PySem.W.Frag} {H : Hp} {sg : List Nat} {ns : List Nd} {na : Addr} (h : Pts K H sg ns na) : Tn K H (.ref na) (.tuple (ns.map ndD)) := by
  obtain ⟨vs, hz, ha⟩ := h.at_
  exact .tup hz (nds_tn (by have := h.few; omega) ha h.ok.2.2)
theorem Pts.okF {K : PySem.W.Frag} {H : Hp} {sg : List Nat} {ns : List Nd} {na : Addr} (h : Pts K H sg ns na) : OkD 372 2 (.tuple (ns.map ndD)) :=
  ((nds_ok h.hs.low h.short (by have := h.few; omega) h.ok.2.2).mono (by have := h.few; omega) (Nat.le_refl _)).tup
theorem Pts.okS {K : PySem.W.Frag} {H : Hp} {sg : List Nat} {ns : List Nd} {na : Addr} (h : Pts K H sg ns na) : OkD 4 0 (.str (S sg)) := okD_str h.hs.low h.short
theorem mk_any {K : PySem.W.Frag} {C CT : Addr} {H : Hp} {sg : List Nat} {ds : List PyData} {na : Addr} (g2 : Dg K H (.ref na) (.tuple ds)) (w1 : sg.length ≤ 80000) (w2 : (PyData.tuple ds).weight ≤ 80000) (e : dueM (.str (S sg)) (.tuple ds) = none)
    {x dx : Addr} (hx : H x = none) (hdx : H dx = none) (hne : dx ≠ x) {Q : VK} {E : XK}
    (q : ∀ H', Same H H' → RdAt H' C x sg na → Q .non H') : spInitA K C CT [.ref x, .str (S sg), .ref na] (upd (upd H dx (.own x)) x (.ins C dx [])) Q E := by
  have hx5 : upd H dx (.own x) x = none := (upd_ne (Ne.symm hne)).trans hx
  have s6 : Same H (upd (upd H dx (.own x)) x (.ins C dx [])) := (same_new (o := HO.own x) hdx).trans (same_new (o := HO.ins C dx []) hx5)
  refine ⟨x, dx, _, _, .str (S sg), _, rfl, upd_same, .str _, g2.same s6, w1, w2, ?_⟩
  rw [e]
  intro H1 sg' na' e1 _ e3 hb kp
  have eS := SX.S_inj (V.str.inj e1)
  subst eS
  cases e3
  refine q H1 (fun b o e => kp b o (s6 b o e) ?_) hb
  rintro rfl
  rw [hx] at e
  cases e
theorem mk_right {K : PySem.W.Frag} {C CT : Addr} {H : Hp} {sg : List Nat} {ns : List Nd} {na : Addr} (p : Pts K H sg ns na) {x dx : Addr} (hx : H x = none) (hdx : H dx = none) (hne : dx ≠ x) {Q : VK} {E : XK}
    (q : ∀ H', Same H H' → RdAt H' C x sg na → Q .non H') : spInitA K C CT [.ref x, .str (S sg), .ref na] (upd (upd H dx (.own x)) x (.ins C dx [])) Q E :=
  mk_any p.tn.dg (by have := p.short; omega) (Nat.le_trans p.okF.gs.we (by decide)) (due_right p.hs p.ok) hx hdx hne q
end Lw

namespace Lw
open PySem PySem.Spec PyProof.Rows L2 Mq
open SX (S)
/-! ### equal readers -/
structure Rd (K : PySem.W.Frag) (C : Addr) (H : Hp) (r : Addr) (sg : List Nat) (na : Addr) (d : PyData) : Prop where
  at_ : RdAt H C r sg na
  tn : Tn K H (.ref na) d
  sh : SeqAt.shaped d = true
theorem Rd.same {K : PySem.W.Frag} {C : Addr} {H H' : Hp} {r na : Addr} {sg : List Nat} {d : PyData} (h : Rd K C H r sg na d) (e : Same H H') : Rd K C H' r sg na d := ⟨h.at_.same e, h.tn.same e, h.sh⟩
theorem Pts.rd {K : PySem.W.Frag} {C : Addr} {H : Hp} {r na : Addr} {sg : List Nat} {ns : List Nd} (p : Pts K H sg ns na) (h : RdAt H C r sg na) : Rd K C H r sg na (.tuple (ns.map ndD)) := ⟨h, p.tn, tn_shaped p.tn p.okF (by decide)⟩
def spEqA (K : PySem.W.Frag) (C : Addr) : Sp := fun vs H Q _ => ∃ (a : Addr) (y : V) (sg : List Nat) (na : Addr) (d : PyData), vs = [.ref a, y] ∧ Rd K C H a sg na d ∧
  ((∃ b sg' na' d', y = .ref b ∧ Rd K C H b sg' na' d' ∧ ∀ H', Same H H' → Q (.bl (decide (sg = sg') && PyData.eqv d d')) H') ∨ (∃ T, KindV K H y T ∧ Q (.bl false) H))
theorem kind_ty {K : PySem.W.Frag} {H : Hp} {y : V} {T : String} (h : KindV K H y T) : TyX K H y (.type T) := by
  cases h with
  | non => exact .base .non
  | int i => exact .base (.int i)
  | str z => exact .base (.str z)
  | lst h => exact ty_list h
  | tup h => exact ty_tup h
  | dct h => exact .base (.dK h)
structure EqT (K : PySem.W.Frag) (mg : Str → Option Value) (C : Addr) : Prop where
  gC : mg "Reader" = some (.ref C)
  ty : ∀ H a dx fs, H a = some (.ins C dx fs) → TyX K H (.ref a) (.ref C)
  kit : PySem.W.kitOne K (.ref C) (.ref C) = some true
  own : OwnEqK K C
section
variable {P : Program} {w : World} {K : PySem.W.Frag} {mg : Str → Option Value} {base : Heap} {C CT : Addr}
theorem ok_eq {f : Addr} {fd : FuncData} (F : Fun K "__eq__" "Reader.__eq__" s_Reader___eq__ f fd) (B : Blt mg) (R : RdC K C) (T : EqT K mg C) :
    FnOk P w K mg base CX0 3 f fd ["self", "other"] (spEqA K C) := by
  refine F.ok sc_Reader___eq__ (fun vs H Q E h => ?_) (fun cdv A outer s H vs Q E hr h => ?_)
  · obtain ⟨_, _, _, _, _, rfl, _⟩ := h
    rfl
  · obtain ⟨a, y, sg, na, d, rfl, b1, h⟩ := h
    have hu : (A.deeper (envOfC "Reader.__eq__" (defScope s_Reader___eq__) s.heap.objs.size f cdv)).units + 64 < cLine := by
      have := hr.units
      omega
    refine ⟨_, (pss_one (ps_ret (pe_and (pe_callB call_isi (by rfl) B.isi (by decide +kernel) (pa_cons (pv 1) (pa_cons (pe_glob (v := .ref C) (by rfl) T.gC rfl) pa_nil))) (pe_and (pe_cmpR op_eq (pe_fld (pv 0) rfl) (pe_fld (pv 1) rfl) (nomark _)) (pe_one (pe_cmpR (op_eqD hu) (pe_fld (pv 0) rfl) (pe_fld (pv 1) rfl) (nomark _))))))), ?_⟩
    rcases h with ⟨b, sg', na', d', rfl, b2, q⟩ | ⟨T1, kd, q⟩
    · obtain ⟨⟨dx, h1⟩, t1, sh1⟩ := b1
      obtain ⟨⟨dx', h3⟩, t2, sh2⟩ := b2
      refine ⟨_, rfl, _, .ref C, .ref C, _, true, rfl, .own C, T.ty _ _ _ _ h3, T.kit, true, rfl, iteT ?_⟩
      refine ⟨_, rfl, a, C, dx, _, _, rfl, h1, R.cls, R.nL, rfl, _, rfl, b, C, dx', _, _, rfl, h3, R.cls, R.nL, rfl, rfl, _, rfl, ?_⟩
      rw [S_dec]
      have q0 := q H (Same.refl H)
      cases e1 : decide (sg = sg') with
      | false =>
        rw [e1] at q0
        exact ifF rfl q0
      | true =>
        rw [e1] at q0
        exact ifT rfl ⟨_, rfl, a, C, dx, _, _, rfl, h1, R.cls, R.nN, rfl, _, rfl, b, C, dx', _, _, rfl, h3, R.cls, R.nN, rfl, _, _, t1.dp, t2.dp, sh1, sh2, q0⟩
    · exact ⟨_, rfl, _, .ref C, .type T1, _, false, rfl, .own C, kind_ty kd, T.own.kits _ kd.mem, false, rfl, iteF q⟩
end
end Lw

namespace Lw
open PySem PySem.Spec PyProof.Rows L2 Mq
open SX (S)
open TL (numL)
/-! ### texts of nodes and of readers -/
def noneL : List Nat := [110, 111, 110, 101]
def stopsL : List Nat := [115, 116, 111, 112, 115]
def readsL : List Nat := [114, 101, 97, 100, 115]
def readerL : List Nat := [114, 101, 97, 100, 101, 114]
def optL : Option (List Nat) → List Nat
  | none => [33]
  | some w => orDash w
def nodeW : Nd → List (List Nat)
  | .none => [noneL]
  | .stops w => [stopsL, orDash w]
  | .reads b ts => readsL :: optL b :: ts.map numL
def nodeT (n : Nd) : List Nat := TL.joinL [32] (nodeW n)
def pageT (sg : List Nat) (ns : List Nd) : List Nat := TL.joinL [10] ((readerL ++ [32] ++ sg) :: ns.map nodeT)
def NdSz : Nd → Prop
  | .none => True
  | .stops w => w.length ≤ 3
  | .reads b ts => (∀ w, b = some w → w.length ≤ 3) ∧ ts.length ≤ 30 ∧ ∀ t ∈ ts, t ≤ 1000
theorem nd_sz {sg : List Nat} {m : Nat} {n : Nd} (h : ndOk sg m n) (hs : sg.length ≤ 30) (hm : m ≤ 1000) : NdSz n := by
  cases n with
  | none => trivial
  | stops w => exact h.2
  | reads b ts => exact ⟨fun w e => (h.2.2 w e).2, by have := h.1; omega, fun t ht => by have := h.2.1 t ht; omega⟩
theorem orDash_len {z : List Nat} (h : z.length ≤ 3) : (orDash z).length ≤ 3 := by
  unfold orDash
  split
  · decide
  · exact h
theorem optL_len {b : Option (List Nat)} (h : ∀ w, b = some w → w.length ≤ 3) : (optL b).length ≤ 3 := by
  cases b with
  | none => decide
  | some w => exact orDash_len (h w rfl)
theorem nums_sum {ts : List Nat} (h : ∀ t ∈ ts, t ≤ 1000) : sumL (ts.map numL) ≤ 5 * ts.length := by
  induction ts with
  | nil => exact Nat.zero_le _
  | cons t ts ih =>
    have h1 := ih fun x hx => h x (List.mem_cons_of_mem _ hx)
    have h2 : (numL t).length ≤ 4 := TL.numL_len (by decide) (by have := h t List.mem_cons_self; omega)
    show ((numL t).length + 1) + sumL (ts.map numL) ≤ _
    rw [List.length_cons]
    omega
theorem nodeW_sum {n : Nd} (h : NdSz n) : sumL (nodeW n) ≤ 160 := by
  cases n with
  | none => decide
  | stops w =>
    have := orDash_len h
    show (5 + 1) + (((orDash w).length + 1) + 0) ≤ _
    omega
  | reads b ts =>
    have h1 := nums_sum h.2.2
    have h2 := optL_len h.1
    have h3 := h.2.1
    show (5 + 1) + (((optL b).length + 1) + sumL (ts.map numL)) ≤ _
    omega
theorem nodeT_len {n : Nd} (h : NdSz n) : (nodeT n).length ≤ 160 := Nat.le_trans (joinL_le 32 _) (nodeW_sum h)
theorem lines_sum {ns : List Nd} (h : ∀ n ∈ ns, NdSz n) : sumL (ns.map nodeT) ≤ 161 * ns.length := by
  induction ns with
  | nil => exact Nat.zero_le _
  | cons n ns ih =>
    have h1 := ih fun x hx => h x (List.mem_cons_of_mem _ hx)
    have h2 := nodeT_len (h n List.mem_cons_self)
    show ((nodeT n).length + 1) + sumL (ns.map nodeT) ≤ _
    rw [List.length_cons]
    omega
def tOr0 (K : PySem.W.Frag) : TE := fun σ H Q => ∃ p xs w, σ[0]? = some (some (.ref p)) ∧ SqT K H p xs ∧ atI xs 1 = some (.str (S w)) ∧ w.length ≤ 3 ∧ Q (.str (S (orDash w))) H
def tBare (K : PySem.W.Frag) : TE := fun σ H Q => ∃ p xs b, σ[0]? = some (some (.ref p)) ∧ SqT K H p xs ∧ atI xs 1 = some (optV b) ∧ (∀ w, b = some w → w.length ≤ 3) ∧ Q (.str (S (optL b))) H
def spNodeLine (K : PySem.W.Frag) : Sp := fun vs H Q _ => ∃ (v : V) (n : Nd), vs = [v] ∧ NdAt K H v n ∧ NdSz n ∧ ∀ H', Same H H' → Q (.str (S (nodeT n))) H'
def spStr (K : PySem.W.Frag) (C : Addr) : Sp := fun vs H Q _ => ∃ (r na : Addr) (sg : List Nat) (ns : List Nd), vs = [.ref r] ∧ RdAt H C r sg na ∧ NodesAt K H na ns ∧ (∀ n ∈ ns, NdSz n) ∧ ns.length ≤ 100 ∧ sg.length ≤ 100 ∧
  ∀ H', Same H H' → Q (.str (S (pageT sg ns))) H'
section
variable {P : Program} {w : World} {K : PySem.W.Frag} {mg : Str → Option Value} {base : Heap} {C CT : Addr}
theorem ok_node_line {f : Addr} {fd : FuncData} (F : Fun K "node_line" "node_line" s_node_line f fd) (B : Blt mg) : FnOk P w K mg base CX0 1 f fd ["node"] (spNodeLine K) := by
  refine F.ok sc_node_line (fun vs H Q E h => ?_) (fun cdv A outer s H vs Q E hr h => ?_)
  · obtain ⟨_, _, rfl, _⟩ := h
    rfl
  · obtain ⟨v, n, rfl, ⟨p, rfl, hp⟩, hsz, q⟩ := h
    refine ⟨_, (pss_cons (ps_if (pt_cmpR op_eq (pe_ix ix_tup (pv 0) pe_int (fun _ _ => rfl)) pe_str (nomark _)) (pss_one (ps_ret pe_str)) pss_nil)
      (pss_cons (ps_if (pt_cmpR op_eq (pe_ix ix_tup (pv 0) pe_int (fun _ _ => rfl)) pe_str (nomark _)) (pss_one (ps_ret (pe_joined (.cons pe_str (.cons (pe_fmt (PE_imp (t' := tOr0 K) (pe_orT (pe_ix (ix_tup) (pv 0) pe_int (fun _ _ => rfl)) (pe_one pe_str)) (fun σ H Q h => by
          obtain ⟨p, xs, w, h0, hp, h1, hw, q⟩ := h
          have hl : (S w).length = w.length := SX.S_len w
          refine ⟨_, h0, p, xs, 1, _, rfl, rfl, hp, h1, _, ⟨sz_le (by omega), rfl⟩, ?_⟩
          rw [hl]
          unfold orDash at q
          cases w with
          | nil => exact ifF rfl q
          | cons a b => exact ifT (by simp; omega) q))) .nil))))) pss_nil)
      (pss_cons (ps_set (i := 1) sc_node_line.nd rfl (Or.inl rfl) (Mq.pe_ls (pa_cons pe_str (pa_cons (PE_imp (t' := tBare K) (pe_ifExp (pt_cmpR op_isN (pe_ix ix_tup (pv 0) pe_int (fun _ _ => rfl)) pe_non (nomark _)) pe_str (pe_orT (pe_ix ix_tup (pv 0) pe_int (fun _ _ => rfl)) (pe_one pe_str))) (fun σ H Q h => by
          obtain ⟨p, xs, b, h0, hp, h1, hw, q⟩ := h
          refine ⟨_, h0, p, xs, 1, _, rfl, rfl, hp, h1, rfl, _, rfl, ?_⟩
          cases b with
          | none => exact ifT rfl q
          | some w =>
            have hw := hw w rfl
            have hl : (S w).length = w.length := SX.S_len w
            refine ifF rfl ⟨_, h0, p, xs, 1, _, rfl, rfl, hp, h1, _, ⟨sz_le (by omega), rfl⟩, ?_⟩
            rw [hl]
            have q : Q (.str (S (orDash w))) H := q
            unfold orDash at q
            cases w with
            | nil => exact ifF rfl q
            | cons a b => exact ifT (by simp; omega) q)) pa_nil))))
      (pss_cons (ps_expr (pe_bm PySem.F.plainAttrs_list PySem.F.slot_list_extend PySem.F.type_list_extend mt_extend (pv 1) (pa_cons (pe_lc (own := [("number", 2)]) (g := gName 2) (tt := tYes) rfl sc_node_line.nd (pi_tup (pe_slice sl_tup (pv 0) (po_some pe_int) po_none)) (blkOk_by (own := [("number", 2)]) (N := ["node", "words", "number"]) (sc := defScope s_node_line) (by decide +kernel)) (fun _ _ _ _ _ => pg_name (i := 2) sc_node_line.nd rfl (Or.inl rfl)) (fun _ _ _ _ _ => pts_nil) (fun _ _ _ _ _ => (pe_callTy call_str_int (by rfl) B.str (by decide +kernel) (pa_cons (pv 2) pa_nil)))) pa_nil)))
      (pss_one (ps_ret (pe_join pe_str (pv 1)))))))), ?_⟩
    cases n with
    | none =>
      have hp : SqT K H p [.str "none"] := hp
      exact ⟨_, rfl, p, _, 0, _, rfl, rfl, hp, atI_nat (j := 0) rfl, rfl, _, rfl, ifT (by decide +kernel) (q H (Same.refl H))⟩
    | stops w =>
      have hp : SqT K H p [.str "stops", .str (S w)] := hp
      refine ⟨_, rfl, p, _, 0, _, rfl, rfl, hp, atI_nat (j := 0) rfl, rfl, _, rfl, ifF (by decide +kernel) ?_⟩
      refine ⟨_, rfl, p, _, 0, _, rfl, rfl, hp, atI_nat (j := 0) rfl, rfl, _, rfl, ifT (by decide +kernel) ?_⟩
      have l0 : (Str.empty ++ ("stops " : Str)).length ≤ 6 := by decide
      have l1 := app_le l0 (S_le (orDash_len hsz))
      have e : Str.empty ++ ("stops " : Str) ++ S (orDash w) = S (nodeT (.stops w)) := by
        rw [show Str.empty ++ ("stops " : Str) = S (stopsL ++ [32]) by decide +kernel, SX.S_cat]
        refine congrArg S ?_
        show (stopsL ++ [32]) ++ orDash w = stopsL ++ ([32] ++ orDash w)
        rw [List.append_assoc]
      refine ⟨_, rfl, sz_le (Nat.le_trans l0 (by decide)), p, _, w, rfl, hp, atI_nat (j := 1) rfl, hsz, Or.inl ⟨S (orDash w), rfl, sz_le (Nat.le_trans (S_le (orDash_len hsz)) (by decide)), S (orDash w), rfl, sz_le (Nat.le_trans l1 (by decide)), ?_⟩⟩
      show Q (.str (Str.empty ++ ("stops " : Str) ++ S (orDash w))) H
      rw [e]
      exact q H (Same.refl H)
    | reads b ts =>
      obtain ⟨hb, hl, ht⟩ := hsz
      have hp : SqT K H p (.str "reads" :: optV b :: intsV ts) := hp
      have hil : (intsV ts).length = ts.length := intsV_len ts
      refine ⟨_, rfl, p, _, 0, _, rfl, rfl, hp, atI_nat (j := 0) rfl, rfl, _, rfl, ifF (by decide +kernel) ?_⟩
      refine ⟨_, rfl, p, _, 0, _, rfl, rfl, hp, atI_nat (j := 0) rfl, rfl, _, rfl, ifF (by decide +kernel) ?_⟩
      refine ⟨p, _, b, rfl, hp, atI_nat (j := 1) rfl, hb, sz_le (n := 2) (by decide), fun L hL _ => ?_⟩
      have s1 := same_new (o := HO.lst [V.str "reads", .str (S (optL b))]) hL
      have zL : upd H L (.lst [V.str "reads", .str (S (optL b))]) L = some (.lst (txs [readsL, optL b])) := upd_same
      generalize upd H L (.lst [V.str "reads", .str (S (optL b))]) = H1 at s1 zL ⊢
      have hp1 := Same.tup s1 hp
      refine ⟨_, rfl, Or.inl ⟨rfl, _, SqL.of zL⟩, _, rfl, 2, rfl, p, _, rfl, hp1, ?_, fun p2 hp2 => ?_⟩
      · rintro ⟨z, _⟩
        rw [show HT.sIx (V.str "reads" :: optV b :: intsV ts).length 0 (some 2) = 2 by show HT.sIx _ 0 (some ((2 : Nat) : Int)) = 2; rw [HT.sIx_nat, List.length_cons, List.length_cons]; omega] at z
        cases z
      · rw [show cutV (V.str "reads" :: optV b :: intsV ts) (some 2) none = intsV ts from cut_back _ 2]
        have s2 := same_new (o := HO.tup (intsV ts)) hp2
        have z2 : SqT K (upd H1 p2 (.tup (intsV ts))) p2 (intsV ts) := Or.inl (Or.inl upd_same)
        have zL := s2 _ _ zL
        have s12 := s1.trans s2
        generalize upd H1 p2 (.tup (intsV ts)) = H2 at s12 z2 zL ⊢
        refine ⟨_, rfl, ⟨_, z2⟩, fun D hD => ?_⟩
        refine lc_yes (walk_tup (K := K) (a := p2) (xs := intsV ts)) (fun i H' => Same H2 H' ∧ H' D = some (.lst (txs ((ts.take i).map numL)))) ⟨same_new hD, upd_same⟩ (fun _ _ _ pp => Same.tup pp.1 z2) ?_ ?_
        · rintro j x H3 H4 hj ⟨s3, zD⟩ ⟨rfl, hx⟩
          rw [hil] at hj
          have hx' : (intsV ts)[j]? = some x := hx
          unfold intsV at hx'
          rw [List.getElem?_map, List.getElem?_eq_getElem hj] at hx'
          cases hx'
          refine ⟨rfl, _, rfl, _, rfl, log_small (ht _ (List.getElem_mem hj)), _, zD, sz_lt (by rw [List.length_map, List.length_map, List.length_take]; omega), push_same hD s3, ?_⟩
          rw [upd_same, List.take_add_one, List.getElem?_eq_getElem hj, List.map_append, SX.num_S]
          exact congrArg (fun z => some (HO.lst z)) (List.map_append (f := fun l : List Nat => V.str (S l)) (l₁ := (ts.take j).map numL) (l₂ := [numL ts[j]])).symm
        · rintro H3 ⟨s3, zD⟩
          rw [hil, List.take_length] at zD
          have zL3 := s3 _ _ zL
          have hDL : D ≠ L := by
            rintro rfl
            rw [hD] at zL
            cases zL
          have ez : txs [readsL, optL b] ++ txs (ts.map numL) = txs (nodeW (.reads b ts)) := rfl
          refine ⟨L, D, _, _, rfl, rfl, zL3, zD, sz_le (by rw [List.length_map, List.length_map, List.length_map]; show 2 + _ ≤ _; omega), ?_⟩
          rw [ez]
          refine ⟨⟨_, rfl⟩, _, rfl, S [32], L, (nodeW (.reads b ts)).map S, rfl, rfl, Or.inl (SqL.of (upd_same.trans (by rw [map_SV]))), ?_, ?_⟩
          · rw [join_bound]
            exact Nat.le_trans (nodeW_sum (n := .reads b ts) ⟨hb, hl, ht⟩) (by decide)
          · rw [SX.join_S]
            exact q _ (push_same hL (s12.trans s3))
theorem ok_str {f fN : Addr} {fd fdN : FuncData} (F : Fun K "__str__" "Reader.__str__" s_Reader___str__ f fd) (R : RdC K C)
    (FN : Fun K "node_line" "node_line" s_node_line fN fdN) (gN : mg "node_line" = some (.ref fN)) (bN : Binds K fdN ["node"] []) (GN : FnOk P w K mg base CX0 1 fN fdN ["node"] (spNodeLine K)) :
    FnOk P w K mg base CX0 2 f fd ["self"] (spStr K C) := by
  refine F.ok sc_Reader___str__ (fun vs H Q E h => ?_) (fun cdv A outer s H vs Q E hr h => ?_)
  · obtain ⟨_, _, _, _, rfl, _⟩ := h
    rfl
  · obtain ⟨r, na, sg, ns, rfl, ⟨dx, h1⟩, ⟨xs, hz, hall⟩, hsz, hfew, hsg, q⟩ := h
    refine ⟨_, (pss_cons (ps_setLc (i := 1) (own := [("node", 2)]) (g := gName 2) (tt := tYes) rfl sc_Reader___str__.nd rfl rfl (sw_true rfl rfl rfl (by decide +kernel)) (pi_tup (pe_fld (pv 0) rfl)) (blkOk_by (own := [("node", 2)]) (N := ["self", "lines", "node"]) (sc := defScope s_Reader___str__) (by decide +kernel)) (fun _ _ _ _ _ => pg_name (i := 2) sc_Reader___str__.nd rfl (Or.inl rfl)) (fun _ _ _ _ _ => pts_nil) (fun _ _ _ _ _ => (pe_call GN (hr.mono (by decide)) (by rfl) gN FN.kp bN .nil pass0 (pa_cons (pv 2) pa_nil))))
      (pss_one (ps_ret (pe_join pe_str (Mq.pe_ls (pa_cons (pe_joined (.cons pe_str (.cons (pe_fmt (pe_fld (pv 0) rfl)) .nil))) (StX.pa_star (pv 1) pa_nil))))))), ?_⟩
    have hxl : xs.length = ns.length := hall.len
    refine ⟨_, rfl, r, C, dx, _, _, rfl, h1, R.cls, R.nN, rfl, na, rfl, ⟨_, hz⟩, fun D hD => ?_⟩
    refine lc_yes (walk_tup (a := na) (xs := xs)) (fun i H' => Same H H' ∧ H' D = some (.lst (txs ((ns.take i).map nodeT)))) ⟨same_new hD, upd_same⟩ (fun i H' hi p => Same.tup p.1 hz) ?_ ?_
    · rintro i x H2 H3 hi ⟨s2, zD⟩ ⟨rfl, hx⟩
      obtain ⟨n, hn, hat⟩ := hall.at hx
      refine ⟨rfl, _, rfl, x, n, rfl, hat.same s2, hsz n (List.mem_of_getElem? hn), fun H4 s4 => ?_⟩
      refine ⟨_, s4 _ _ zD, sz_lt (by rw [List.length_map, List.length_map, List.length_take]; omega), push_same hD (s2.trans s4), ?_⟩
      rw [upd_same, List.take_add_one, hn, List.map_append]
      exact congrArg (fun z => some (HO.lst z)) (List.map_append (f := fun l : List Nat => V.str (S l)) (l₁ := (ns.take i).map nodeT) (l₂ := [nodeT n])).symm
    · rintro H2 ⟨s2, zD⟩
      rw [hxl, List.take_length] at zD
      have l0 : (Str.empty ++ ("reader " : Str)).length ≤ 7 := by decide
      have l1 := app_le l0 (S_le hsg)
      have e : Str.empty ++ ("reader " : Str) ++ S sg = S (readerL ++ [32] ++ sg) := by
        rw [show Str.empty ++ ("reader " : Str) = S (readerL ++ [32]) by decide +kernel, SX.S_cat]
      refine ⟨⟨_, rfl⟩, _, rfl, sz_le (Nat.le_trans l0 (by decide)), _, rfl, r, C, dx, _, _, rfl, s2 _ _ h1, R.cls, R.nL, rfl, Or.inl ⟨S sg, rfl, sz_le (Nat.le_trans (S_le hsg) (by decide)), S sg, rfl, sz_le (Nat.le_trans l1 (by decide)), ?_⟩⟩
      rw [show ∀ acc σ H Q, tJs [] acc σ H Q = Q acc H from fun _ _ _ _ => rfl]
      refine ⟨_, rfl, D, _, rfl, Or.inr (SqL.of zD), ?_, fun p hp _ => ?_⟩
      · rw [List.append_nil, List.length_cons, List.length_map, List.length_map]
        exact sz_le (by omega)
      · rw [List.append_nil, e]
        have s3 := same_new (o := HO.lst (V.str (S (readerL ++ [32] ++ sg)) :: txs (ns.map nodeT))) hp
        refine ⟨S [10], p, ((readerL ++ [32] ++ sg) :: ns.map nodeT).map S, rfl, rfl, Or.inl (SqL.of (upd_same.trans ?_)), ?_, ?_⟩
        · rw [map_SV]
          rfl
        · rw [join_bound]
          have h5 := lines_sum hsz
          show ((readerL ++ [32] ++ sg).length + 1) + sumL (ns.map nodeT) ≤ _
          rw [List.length_append, List.length_append]
          show (6 + 1 + sg.length + 1) + _ ≤ _
          omega
        · rw [SX.join_S]
          exact q _ (s2.trans s3)
end
end Lw

namespace Lw
open PySem PySem.Spec PyProof.Rows L2 Mq
open SX (S)
/-! ### numbers in a text -/
def digs : List Nat := [48, 49, 50, 51, 52, 53, 54, 55, 56, 57]
def digB (w : List Nat) : Bool := ((List.range w.length).filter fun k => !inB (w.getD k 0) digs).isEmpty
def numB (w : List Nat) : Bool := !decide (w = []) && (digB w && !(decide (w.getD 0 0 = 48) && !decide (w = [48])))
def numM (w : List Nat) : Option Nat := if numB w = true then some (NumText.digitsVal w) else none
def optN : Option Nat → V
  | none => .non
  | some n => .int ((n : Nat) : Int)
theorem in_digs (c : Nat) : inB c digs = (decide (48 ≤ c) && decide (c ≤ 57)) := by
  unfold inB digs
  rw [Bool.eq_iff_iff]
  simp only [decide_eq_true_eq, Bool.and_eq_true, List.mem_cons, List.not_mem_nil, or_false]
  omega
theorem dig_all {w : List Nat} (h : digB w = true) : w.all (fun c => decide (48 ≤ c) && decide (c ≤ 57)) = true := by
  unfold digB at h
  have h1 : ((List.range w.length).map fun k => inB (w.getD k 0) digs).all id = true := by
    rw [all_filter]
    exact h
  rw [List.all_map, List.all_eq_true] at h1
  rw [List.all_eq_true]
  intro c hc
  obtain ⟨i, hi, rfl⟩ := List.mem_iff_getElem.mp hc
  have h2 : inB (w.getD i 0) digs = true := h1 i (List.mem_range.mpr hi)
  rw [List.getD_eq_getElem?_getD, List.getElem?_eq_getElem hi, in_digs] at h2
  exact h2
theorem num_int {w : List Nat} (h : numB w = true) (hl : w.length ≤ 4300) : intText? (S w) = some ((NumText.digitsVal w : Nat) : Int) := by
  unfold numB at h
  obtain ⟨h1, h⟩ := Bool.and_eq_true_iff.mp h
  obtain ⟨h2, _⟩ := Bool.and_eq_true_iff.mp h
  refine SX.int_S (dig_all h2) (fun e => ?_) hl
  rw [decide_eq_true e] at h1
  cases h1
def spNum : Sp := fun vs H Q _ => ∃ w : List Nat, vs = [.str (S w)] ∧ w.length ≤ 100000 ∧ (numB w = true → w.length ≤ 640) ∧ ∀ H', Same H H' → Q (optN (numM w)) H'
def tBadNum : TT := fun σ H Q => ∃ w o, σ = [some (.str (S w)), o] ∧ w.length ≤ 100000 ∧ ∀ H', Same H H' → Q (!numB w) H'
theorem flat_opt (m : Option Nat) : flatV (optN m) = true := by cases m <;> rfl
theorem inV_none (ms : List (Option Nat)) : inV .non (ms.map optN) = !ms.all Option.isSome := by
  unfold inV
  rw [List.any_map]
  induction ms with
  | nil => rfl
  | cons m ms ih =>
    rw [List.any_cons, List.all_cons, ih]
    cases m with
    | none => rfl
    | some n => rfl
theorem flat_opts (ms : List (Option Nat)) : (ms.map optN).all flatV = true := by
  rw [List.all_map, List.all_eq_true]
  intro m _
  exact flat_opt m
def rdN (m : Nat) (w : List Nat) : Option Nat :=
  if decide (w.length ≤ 12) = true then (match numM w with
    | some n => if decide (n < m) = true then some n else none
    | none => none) else none
def rdNs (m : Nat) (ws : List (List Nat)) : Option (List Nat) := if (ws.map (rdN m)).all Option.isSome = true then some (ws.map fun w => (rdN m w).getD 0) else none
theorem rdN_lt {m n : Nat} {w : List Nat} (h : rdN m w = some n) : n < m := by
  unfold rdN at h
  split at h
  · split at h
    · split at h
      · rename_i h2
        cases h
        exact of_decide_eq_true h2
      · cases h
    · cases h
  · cases h
theorem rdNs_lt {m : Nat} {ws : List (List Nat)} {ts : List Nat} (h : rdNs m ws = some ts) : ts.length = ws.length ∧ ∀ t ∈ ts, t < m := by
  unfold rdNs at h
  split at h
  · rename_i h2
    cases h
    refine ⟨List.length_map _, fun t ht => ?_⟩
    obtain ⟨w, hw, rfl⟩ := List.mem_map.mp ht
    have h3 := List.all_eq_true.mp h2 _ (List.mem_map.mpr ⟨w, hw, rfl⟩)
    cases h4 : rdN m w with
    | none =>
      rw [h4] at h3
      cases h3
    | some n => exact rdN_lt h4
  · cases h
theorem opts_vals {m : Nat} {ws : List (List Nat)} (h : (ws.map (rdN m)).all Option.isSome = true) : (ws.map (rdN m)).map optN = intsV (ws.map fun w => (rdN m w).getD 0) := by
  unfold intsV
  rw [List.map_map, List.map_map]
  refine List.map_congr_left fun w hw => ?_
  have h3 := List.all_eq_true.mp h _ (List.mem_map.mpr ⟨w, hw, rfl⟩)
  show optN (rdN m w) = V.int (((rdN m w).getD 0 : Nat) : Int)
  cases h4 : rdN m w with
  | none =>
    rw [h4] at h3
    cases h3
  | some n => rfl
def NumsR (K : PySem.W.Frag) (H : Hp) : Option (List Nat) → V → Prop
  | none, v => v = .non
  | some ts, v => ∃ p, v = .ref p ∧ SqT K H p (intsV ts)
def spNumRd : Sp := fun vs H Q _ => ∃ (w : List Nat) (m : Nat), vs = [.str (S w), .int (m : Nat)] ∧ w.length ≤ 100000 ∧ ∀ H', Same H H' → Q (optN (rdN m w)) H'
def spNumsRd (K : PySem.W.Frag) : Sp := fun vs H Q _ => ∃ (L : Addr) (ws : List (List Nat)) (m : Nat), vs = [.ref L, .int (m : Nat)] ∧ SqL K H L (txs ws) ∧ ws.length ≤ 90000 ∧ (∀ w ∈ ws, w.length ≤ 100000) ∧ ∀ H' v, Same H H' → NumsR K H' (rdNs m ws) v → Q v H'
theorem digs_is : ("0123456789" : Str) = S digs := by decide +kernel
theorem ix_tupK {X : Cx} {K : PySem.W.Frag} (h : X.K = K) : IxR X (rIxT K) := h ▸ ix_tup
theorem ix_listK {X : Cx} {K : PySem.W.Frag} (h : X.K = K) : IxR X (rIxL K) := h ▸ ix_list
theorem any_filter (n : Nat) (q : Nat → Bool) : ((List.range n).map q).any id = !((List.range n).filter q).isEmpty := by
  rw [Bool.eq_iff_iff]
  simp [List.filter_eq_nil_iff]
theorem getD_at {l : List Nat} {i : Nat} (h : i < l.length) : l[i]? = some (l.getD i 0) := by rw [List.getD_eq_getElem?_getD, List.getElem?_eq_getElem h]; rfl
section
variable {P : Program} {w : World} {K : PySem.W.Frag} {mg : Str → Option Value} {base : Heap}
theorem ok_integer {f : Addr} {fd : FuncData} (F : Fun K "integer_read" "integer_read" s_integer_read f fd) (B : Blt mg) (dg : ∃ t, mg "DIGITS" = some (.str "0123456789" t)) (mf : ∃ t, mg "MOST_FIGURES" = some (.int 4300 t)) :
    FnOk P w K mg base CX0 1 f fd ["text"] spNum := by
  obtain ⟨tD, dg⟩ := dg
  obtain ⟨tM, mf⟩ := mf
  refine F.ok sc_integer_read (fun vs H Q E h => ?_) (fun cdv A outer s H vs Q E hr h => ?_)
  · obtain ⟨_, rfl, _⟩ := h
    rfl
  · obtain ⟨w, rfl, hw, hw6, q⟩ := h
    refine ⟨_, (pss_cons (ps_if (PT_imp (t' := tBadNum) (PW.pt (pw_or (pt_cmpR op_eq (pv 0) pe_str (nomark _)) (pw_or (pt_val (pe_callB (cr_any rfl) (by rfl) B.any (by decide +kernel) (pa_cons (pe_lc (own := [("figure", 1)]) (g := gName 1) (tt := tYes) rfl sc_integer_read.nd (pi_str (pv 0)) (blkOk_by (own := [("figure", 1)]) (N := ["text", "figure"]) (sc := defScope s_integer_read) (by decide +kernel)) (fun _ _ _ _ _ => pg_name (i := 1) sc_integer_read.nd rfl (Or.inl rfl)) (fun _ _ _ _ _ => pts_nil) (fun _ _ _ _ _ => (pe_cmpR op_notIn_sign (pv 1) (pe_glob (v := .str "0123456789") rfl dg ⟨_, rfl⟩) rfl))) pa_nil))) (pw_or1 (PW.pt (pw_and (pt_cmpR op_eq (pe_ix ix_str (pv 0) pe_int (fun _ _ => rfl)) pe_str (nomark _)) (pw_and1 (pt_cmpR op_ne (pv 0) pe_str (nomark _))))))))) (fun σ H Q h => by
        obtain ⟨w, o, rfl, hw, q⟩ := h
        unfold numB at q
        refine ⟨_, rfl, rfl, _, rfl, ?_⟩
        rw [str_is_nil]
        cases e0 : decide (w = []) with
        | true =>
          rw [e0] at q
          exact ifT rfl (q H (Same.refl H))
        | false =>
          rw [e0] at q
          have hpos : 0 < w.length := pos_of (of_decide_eq_false e0)
          refine ifF rfl ?_
          refine ⟨_, rfl, S w, rfl, fun L hL => ?_⟩
          refine lc_yes (walk_S w) (fun i H' => Same H H' ∧ H' L = some (.lst (((List.range i).map fun k => !inB (w.getD k 0) digs).map V.bl))) ⟨same_new hL, upd_same⟩ (fun _ _ _ _ => trivial) ?_ ?_
          · rintro i x H2 H3 hi ⟨s2, zL⟩ ⟨rfl, rfl⟩
            refine ⟨rfl, _, rfl, ?_⟩
            rw [digs_is]
            refine ⟨w.getD i 0, S digs, rfl, rfl, _, zL, sz_lt (by rw [List.length_map, List.length_map, List.length_range]; omega), push_same hL s2, ?_⟩
            rw [upd_same, List.range_succ, List.map_append, List.map_append]
            rfl
          · rintro H2 ⟨s2, zL⟩
            refine ⟨L, (List.range w.length).map fun k => !inB (w.getD k 0) digs, rfl, SqL.of zL, _, rfl, ?_⟩
            rw [any_filter]
            have ed : digB w = ((List.range w.length).filter fun k => !inB (w.getD k 0) digs).isEmpty := rfl
            rw [← ed]
            cases e1 : digB w with
            | false =>
              rw [e1] at q
              exact ifT rfl (q H2 s2)
            | true =>
              rw [e1] at q
              refine ifF rfl ⟨_, rfl, S w, 0, w.getD 0 0, rfl, rfl, sz_le (by rw [SX.S_len]; omega), at_get (l := w) (k := 0) hpos, rfl, _, rfl, ?_⟩
              rw [show decide (V.str (S [w.getD 0 0]) = V.str "0") = decide (w.getD 0 0 = 48) from (S_dec [w.getD 0 0] [48]).trans (decide_eq_decide.mpr ⟨fun h => by injection h, fun h => by rw [h]⟩)]
              cases e2 : decide (w.getD 0 0 = 48) with
              | false =>
                rw [e2] at q
                exact ifF rfl (q H2 s2)
              | true =>
                rw [e2] at q
                refine ifT rfl ⟨_, rfl, rfl, _, rfl, ?_⟩
                rw [show decide (V.str (S w) = V.str "0") = decide (w = [48]) from S_dec w [48]]
                have q1 := q H2 s2
                rw [show (!(!false && (true && !(true && !decide (w = [48]))))) = (!decide (w = [48])) by cases decide (w = [48]) <;> rfl] at q1
                exact q1)) (pss_one (ps_ret pe_non)) pss_nil)
      (pss_one (ps_ret (pe_ifExp (pt_cmpR op_le (pe_callB call_len (by rfl) B.len (by decide +kernel) (pa_cons (pv 0) pa_nil)) (pe_glob (v := .int 4300) rfl mf ⟨_, rfl⟩) (nomark _)) (pe_callTy call_int_str (by rfl) B.int (by decide +kernel) (pa_cons (pv 0) pa_nil)) pe_non)))), ?_⟩
    refine ⟨w, _, rfl, hw, fun H1 s1 => ?_⟩
    unfold numM at q
    cases e : numB w with
    | false =>
      rw [e] at q
      exact ifT rfl (q H1 s1)
    | true =>
      rw [e] at q
      have hw := hw6 e
      refine ifF rfl ⟨_, rfl, _, _, rfl, len_S (by omega), ?_⟩
      refine ⟨_, _, rfl, rfl, _, rfl, ifT (decide_eq_true (by omega)) ⟨_, rfl, S w, _, rfl, num_int e (by omega), ?_, q H1 s1⟩⟩
      rw [SX.S_len]
      exact hw
theorem ok_number_read {f fI : Addr} {fd fdI : FuncData} (F : Fun K "number_read" "number_read" s_number_read f fd) (B : Blt mg)
    (FI : Fun K "integer_read" "integer_read" s_integer_read fI fdI) (gI : mg "integer_read" = some (.ref fI)) (bI : Binds K fdI ["text"] []) (GI : FnOk P w K mg base CX0 1 fI fdI ["text"] spNum) :
    FnOk P w K mg base CX0 2 f fd ["text", "many"] spNumRd := by
  refine F.ok sc_number_read (fun vs H Q E h => ?_) (fun cdv A outer s H vs Q E hr h => ?_)
  · obtain ⟨_, _, rfl, _⟩ := h
    rfl
  · obtain ⟨w, m, rfl, hw, q⟩ := h
    refine ⟨_, (pss_cons (ps_set (i := 2) sc_number_read.nd rfl (Or.inl rfl) (pe_ifExp (pt_cmpR op_le (pe_callB call_len (by rfl) B.len (by decide +kernel) (pa_cons (pv 0) pa_nil)) pe_int (nomark _)) (pe_call GI (hr.mono (by decide)) (by rfl) gI FI.kp bI .nil pass0 (pa_cons (pv 0) pa_nil)) pe_non))
      (pss_one (ps_ret (pe_ifExp (PW.pt (pw_and (pt_cmpR op_notN (pv 2) pe_non (nomark _)) (pw_and1 (pt_cmpR op_lt (pv 2) (pv 1) (nomark _))))) (pv 2) pe_non)))), ?_⟩
    refine ⟨_, rfl, _, _, rfl, len_S hw, _, _, rfl, rfl, _, rfl, ?_⟩
    unfold rdN at q
    by_cases h : w.length ≤ 12
    · rw [decide_eq_true h, if_pos rfl] at q
      refine ifT (decide_eq_true (by omega)) ⟨_, rfl, w, rfl, hw, (fun _ => by omega), fun H1 s1 => ⟨_, rfl, rfl, _, rfl, ?_⟩⟩
      cases e : numM w with
      | none =>
        rw [e] at q
        exact ifF rfl (ifF rfl (q H1 s1))
      | some n =>
        rw [e] at q
        dsimp only at q
        refine ifT rfl ⟨_, rfl, _, rfl, _, _, rfl, rfl, _, rfl, ?_⟩
        have e2 : decide (((n : Nat) : Int) < ((m : Nat) : Int)) = decide (n < m) := decide_eq_decide.mpr ⟨fun h => by omega, fun h => by omega⟩
        rw [e2]
        cases e3 : decide (n < m) with
        | true =>
          rw [e3, if_pos rfl] at q
          exact ifT rfl ⟨_, rfl, q H1 s1⟩
        | false =>
          rw [e3, if_neg (by decide)] at q
          exact ifF rfl (q H1 s1)
    · rw [decide_eq_false h, if_neg (by decide)] at q
      exact ifF (decide_eq_false (by omega)) ⟨_, rfl, rfl, _, rfl, ifF rfl (ifF rfl (q H (Same.refl H)))⟩
theorem ok_numbers_read {f fI : Addr} {fd fdI : FuncData} (F : Fun K "numbers_read" "numbers_read" s_numbers_read f fd) (B : Blt mg)
    (FI : Fun K "number_read" "number_read" s_number_read fI fdI) (gI : mg "number_read" = some (.ref fI)) (bI : Binds K fdI ["text", "many"] []) (GI : FnOk P w K mg base CX0 2 fI fdI ["text", "many"] spNumRd) :
    FnOk P w K mg base CX0 3 f fd ["words", "many"] (spNumsRd K) := by
  refine F.ok sc_numbers_read (fun vs H Q E h => ?_) (fun cdv A outer s H vs Q E hr h => ?_)
  · obtain ⟨_, _, _, rfl, _⟩ := h
    rfl
  · obtain ⟨L, ws, m, rfl, hL, hn, hw, q⟩ := h
    refine ⟨_, (pss_cons (ps_set (i := 2) sc_numbers_read.nd rfl (Or.inl rfl) (pe_callTy call_tuple_of (by rfl) B.tuple (by decide +kernel) (pa_cons (pe_lc (own := [("word", 3)]) (g := gName 3) (tt := tYes) rfl sc_numbers_read.nd (pi_list (pv 0)) (blkOk_by (own := [("word", 3)]) (N := ["words", "many", "numbers", "word"]) (sc := defScope s_numbers_read) (by decide +kernel)) (fun _ _ _ _ _ => pg_name (i := 3) sc_numbers_read.nd rfl (Or.inl rfl)) (fun _ _ _ _ _ => pts_nil) (fun _ _ _ _ _ => (pe_call GI (hr.mono (by decide)) (by rfl) gI FI.kp bI .nil pass0 (pa_cons (pv 3) (pa_cons (pv 1) pa_nil))))) pa_nil)))
      (pss_one (ps_ret (pe_ifExp (pt_cmpR op_in_seq pe_non (pv 2) rfl) pe_non (pv 2))))), ?_⟩
    refine ⟨_, rfl, L, rfl, ⟨_, hL⟩, fun D hD => ?_⟩
    refine lc_yes (walk_list (a := L) (xs := txs ws)) (fun i H' => Same H H' ∧ H' D = some (.lst (((ws.take i).map (rdN m)).map optN))) ⟨same_new hD, upd_same⟩ (fun _ _ _ pp => SqL.kp hL pp.1) ?_ ?_
    · rintro j x H3 H4 hj ⟨s3, zD⟩ ⟨rfl, hx⟩
      rw [List.length_map] at hj
      rw [List.getElem?_map, List.getElem?_eq_getElem hj] at hx
      cases hx
      refine ⟨rfl, _, rfl, _, rfl, ws[j], m, rfl, hw _ (List.getElem_mem hj), fun H5 s5 => ?_⟩
      refine ⟨_, s5 _ _ zD, sz_lt (by rw [List.length_map, List.length_map, List.length_take]; omega), push_same hD (s3.trans s5), ?_⟩
      rw [upd_same, List.take_add_one, List.getElem?_eq_getElem hj, List.map_append, List.map_append]
      rfl
    · rintro H3 ⟨s3, zD⟩
      rw [List.length_map, List.take_length] at zD
      refine ⟨D, _, rfl, Or.inl ⟨SqL.of zD, fun p hp => ?_⟩⟩
      have s4 := same_new (o := HO.tup ((ws.map (rdN m)).map optN)) hp
      have z4 : SqT K (upd H3 p (.tup ((ws.map (rdN m)).map optN))) p ((ws.map (rdN m)).map optN) := Or.inl (Or.inl upd_same)
      refine ⟨_, rfl, p, _, rfl, Or.inr z4, rfl, flat_opts _, _, rfl, ?_⟩
      rw [inV_none]
      have q2 := fun v => q _ v (s3.trans s4)
      unfold rdNs at q2
      cases e : (ws.map (rdN m)).all Option.isSome with
      | true =>
        rw [e, if_pos rfl] at q2
        refine ifF rfl ⟨_, rfl, q2 _ ⟨p, rfl, ?_⟩⟩
        rw [← opts_vals e]
        exact z4
      | false =>
        rw [e, if_neg (by decide)] at q2
        exact ifT rfl (q2 _ rfl)
end
end Lw

namespace Lw
open PySem PySem.Spec PyProof.Rows L2 Mq
open SX (S)
/-! ### a node read off a line -/
theorem lay_strs : ∀ {ws : List (List Nat)}, LowLs ws → PyData.canLayAll0 (ws.map fun w => PyData.str (S w)) = true ∧ PyData.depthAll (ws.map fun w => PyData.str (S w)) ≤ 1
  | [], _ => by simp [PyData.canLayAll0, PyData.depthAll]
  | w :: ws, h => by
    have i := lay_strs (ws := ws) fun u hu => h u (List.mem_cons_of_mem _ hu)
    have j : (PyData.str (S w)).canLay0 = true := lay_txt (h w List.mem_cons_self)
    simp only [List.map_cons, PyData.canLayAll0, PyData.depthAll, PyData.depth, i.1, j, Bool.and_self, true_and]
    omega
theorem dp_txs {K : PySem.W.Frag} {H : Hp} : ∀ ws : List (List Nat), DpAll K H (txs ws) (ws.map fun w => PyData.str (S w))
  | [] => .nil
  | w :: ws => .cons (.str _) (dp_txs ws)
theorem map_S_inj {a b : List (List Nat)} : decide (a.map S = b.map S) = decide (a = b) := decide_eq_decide.mpr ⟨fun h => by
  have := congrArg (List.map fun x : Str => x.cps.toList) h
  rw [List.map_map, List.map_map] at this
  have e : ∀ xs : List (List Nat), xs.map ((fun x : Str => x.cps.toList) ∘ S) = xs := fun xs => List.map_id _
  rw [e, e] at this
  exact this, fun h => by rw [h]⟩
theorem shaped_txs {ws : List (List Nat)} (h : LowLs ws) : SeqAt.shaped (.list (ws.map fun w => PyData.str (S w))) = true := by
  have h := lay_strs h
  show (PyData.canLay0 (.list (ws.map fun w => PyData.str (S w))) && decide (PyData.depth (.list (ws.map fun w => PyData.str (S w))) ≤ 64)) = true
  rw [Bool.and_eq_true]
  exact ⟨by simp only [PyData.canLay0]; exact h.1, decide_eq_true (by simp only [PyData.depth]; omega)⟩
theorem eqv_txs (xs ys : List (List Nat)) : PyData.eqv (.list (xs.map fun w => PyData.str (S w))) (.list (ys.map fun w => PyData.str (S w))) = decide (xs = ys) := by
  have h := eqv_strs (xs.map S) (ys.map S)
  rw [List.map_map, List.map_map, map_S_inj] at h
  exact h
def toldM (w1 : List Nat) : List Nat := if decide (w1 = [45]) = true then [] else w1
def bareM (t : List Nat) : Option (List Nat) := if decide (t = [33]) = true then none else some t
def readM (sg : List Nat) (m : Nat) (line : List Nat) : Option Nd :=
  if decide (spl 32 line = [noneL]) = true then some .none else
  match spl 32 line with
  | w0 :: w1 :: rest =>
    if decide (w1 = []) = true then none else
    if decide (w0 = stopsL) = true then (if (decide (rest.length = 0) && allB (toldM w1) sg) = true then some (.stops (toldM w1)) else none)
    else match rdNs m rest with
      | none => none
      | some ts => if (decide (w0 = readsL) && (decide (ts.length = sg.length) && (decide (toldM w1 = [33]) || allB (toldM w1) sg))) = true then some (.reads (bareM (toldM w1)) ts) else none
  | _ => none
def NodeR (K : PySem.W.Frag) (H : Hp) : Option Nd → V → Prop
  | none, v => v = .non
  | some n, v => NdAt K H v n
theorem NodeR.same {K : PySem.W.Frag} {H H' : Hp} {o : Option Nd} {v : V} (h : NodeR K H o v) (e : Same H H') : NodeR K H' o v := by
  cases o with
  | none => exact h
  | some n => exact NdAt.same h e
theorem optV_dg {K : PySem.W.Frag} {H : Hp} (b : Option (List Nat)) : Dg K H (optV b) (optD b) := by
  cases b with
  | none => exact .non
  | some w => exact .str _
theorem ints_dg {K : PySem.W.Frag} {H : Hp} : ∀ ts : List Nat, DgAll K H (intsV ts) (ts.map fun t => .int (t : Nat))
  | [] => .nil
  | t :: ts => .cons (.int _) (ints_dg ts)
theorem int_weight {t : Nat} (h : t < 4096) : (PyData.int ((t : Nat) : Int)).weight ≤ 12 := by
  show (if (((t : Nat) : Int) == 0) = true then 0 else ((t : Nat) : Int).natAbs.log2 + 1) ≤ 12
  split
  · exact Nat.zero_le _
  · rename_i h0
    have e : ((t : Nat) : Int).natAbs = t := Int.natAbs_natCast t
    rw [e]
    have ht : t ≠ 0 := by
      rintro rfl
      exact h0 rfl
    have := (Nat.log2_lt ht (k := 12)).mpr h
    omega
theorem ints_weight : ∀ {ts : List Nat}, (∀ t ∈ ts, t < 4096) → PyData.weightAll (ts.map fun t => .int ((t : Nat) : Int)) ≤ 13 * ts.length
  | [], _ => Nat.zero_le _
  | t :: ts, h => by
    have h1 := ints_weight fun x hx => h x (List.mem_cons_of_mem _ hx)
    have h2 := int_weight (h t List.mem_cons_self)
    show (PyData.int ((t : Nat) : Int)).weight + 1 + PyData.weightAll (ts.map fun t => .int ((t : Nat) : Int)) ≤ _
    rw [List.length_cons]
    omega
theorem S_decS (a b : List Nat) : decide (S a = S b) = decide (a = b) := decide_eq_decide.mpr ⟨fun h => SX.S_inj h, fun h => by rw [h]⟩
theorem stops_is : ("stops" : Str) = S stopsL := by decide +kernel
theorem none_is : ("none" : Str) = S noneL := by decide +kernel
theorem reads_is : ("reads" : Str) = S readsL := by decide +kernel
theorem node_stops (sg t : List Nat) (m : Nat) : nodeD sg m (.tuple [.str "stops", .str (S t)]) = allB t sg := by
  show nodeB sg m [.str "stops", .str (S t)] = allB t sg
  unfold nodeB
  dsimp only [headD]
  rw [decide_eq_true rfl, if_pos rfl]
  show (true && allB t sg) = allB t sg
  exact Bool.true_and _
theorem node_reads {sg w0 : List Nat} {m : Nat} {b : Option (List Nat)} {ts : List Nat} (h : w0 ≠ stopsL) (ht : ∀ t ∈ ts, t < m) :
    nodeD sg m (.tuple (.str (S w0) :: optD b :: ts.map fun t => .int ((t : Nat) : Int))) = (decide (w0 = readsL) && (decide (ts.length = sg.length) && (noneD (optD b) || webD sg (optD b)))) := by
  show nodeB sg m (.str (S w0) :: optD b :: ts.map fun t => .int ((t : Nat) : Int)) = _
  unfold nodeB
  dsimp only [headD]
  rw [stops_is, none_is, S_decS, S_decS, decide_eq_false h, if_neg (by decide)]
  have el : (PyData.str (S w0) :: optD b :: ts.map fun t => PyData.int ((t : Nat) : Int)).length = ts.length + 2 := by
    rw [List.length_cons, List.length_cons, List.length_map]
  by_cases h2 : w0 = noneL
  · subst h2
    rw [decide_eq_true rfl, if_pos rfl, el, decide_eq_false (by omega)]
    rw [show decide (noneL = readsL) = false by decide +kernel]
    rfl
  · rw [decide_eq_false h2, if_neg (by decide)]
    unfold readB
    rw [belowAll_ints ht, el]
    have e1 : decide (headD (PyData.str (S w0) :: optD b :: ts.map fun t => PyData.int ((t : Nat) : Int)) = some ("reads" : Str)) = decide (w0 = readsL) := by
      rw [reads_is, ← S_decS]
      exact decide_eq_decide.mpr ⟨fun h => Option.some.inj h, fun h => congrArg some h⟩
    have e2 : decide (ts.length + 2 = sg.length + 2) = decide (ts.length = sg.length) := decide_eq_decide.mpr ⟨fun h => by omega, fun h => by omega⟩
    rw [e1, e2, Bool.and_true]
    show ((_ && _) && (noneD (optD b) || webD sg (optD b))) = _
    cases decide (ts.length = sg.length) <;> cases decide (w0 = readsL) <;> rfl
theorem bare_is (sg t : List Nat) : (noneD (optD (bareM t)) || webD sg (optD (bareM t))) = (decide (t = [33]) || allB t sg) := by
  unfold bareM
  cases decide (t = [33]) <;> rfl
def tTold (K : PySem.W.Frag) : TE := fun σ H Q => ∃ p ws w1, σ[3]? = some (some (.ref p)) ∧ SqL K H p (txs ws) ∧ ws[1]? = some w1 ∧ Q (.str (S (toldM w1))) H
def tBareW : TE := fun σ H Q => ∃ t, σ[4]? = some (some (.str (S t))) ∧ Q (optV (bareM t)) H
def spNodeRead (K : PySem.W.Frag) : Sp := fun vs H Q _ => ∃ (sg line : List Nat) (m : Nat), vs = [.str (S sg), .str (S line), .int (m : Nat)] ∧ sg.length ≤ 80000 ∧ line.length ≤ 4000 ∧ LowL line ∧ m ≤ 4001 ∧ ∀ H' v, Same H H' → NodeR K H' (readM sg m line) v → Q v H'
section
variable {P : Program} {w : World} {K : PySem.W.Frag} {mg : Str → Option Value} {base : Heap}
theorem ok_node_read {f fM fN : Addr} {fd fdM fdN : FuncData} (F : Fun K "node_read" "node_read" s_node_read f fd) (B : Blt mg)
    (FM : Fun K "numbers_read" "numbers_read" s_numbers_read fM fdM) (gM : mg "numbers_read" = some (.ref fM)) (bM : Binds K fdM ["words", "many"] []) (GM : FnOk P w K mg base CX0 3 fM fdM ["words", "many"] (spNumsRd K))
    (FN : Fun K "is_reader_node" "is_reader_node" s_is_reader_node fN fdN) (gN : mg "is_reader_node" = some (.ref fN)) (bN : Binds K fdN ["letters", "node", "many"] []) (GN : FnOk P w K mg base CX0 4 fN fdN ["letters", "node", "many"] (spNodeA K)) :
    FnOk P w K mg base CX0 5 f fd ["letters", "line", "many"] (spNodeRead K) := by
  refine F.ok sc_node_read (fun vs H Q E h => ?_) (fun cdv A outer s H vs Q E hr h => ?_)
  · obtain ⟨_, _, _, rfl, _⟩ := h
    rfl
  · obtain ⟨sg, line, m, rfl, hsg, hln, hlow, hm, q⟩ := h
    have hu : (A.deeper (envOfC "node_read" (defScope s_node_read) s.heap.objs.size f cdv)).units + 64 < cLine := by
      have := hr.units
      omega
    refine ⟨_, (pss_cons (ps_set (i := 3) sc_node_read.nd rfl (Or.inl rfl) (pe_split (pv 1) pe_str))
      (pss_cons (ps_if (pt_cmpR (op_eqD hu) (pv 3) (Mq.pe_ls (pa_cons pe_str pa_nil)) (nomark _)) (pss_one (ps_ret (pe_tup (pa_cons pe_str pa_nil)))) pss_nil)
      (pss_cons (ps_if (PW.pt (pw_or (pt_cmpR op_lt (pe_callB call_len_seq (by rfl) B.len (by decide +kernel) (pa_cons (pv 3) pa_nil)) pe_int (nomark _)) (pw_or1 (pt_cmpR op_eq (pe_ix ix_list (pv 3) pe_int (fun _ _ => rfl)) pe_str (nomark _))))) (pss_one (ps_ret pe_non)) pss_nil)
      (pss_cons (ps_set (i := 4) sc_node_read.nd rfl (Or.inl rfl) (PE_imp (t' := tTold K) (pe_ifExp (pt_cmpR op_eq (pe_ix ix_list (pv 3) pe_int (fun _ _ => rfl)) pe_str (nomark _)) pe_str (pe_ix ix_list (pv 3) pe_int (fun _ _ => rfl))) (fun σ H Q h => by
          obtain ⟨p, ws, w1, h3, hp, h1, q⟩ := h
          have h1' : atI (txs ws) 1 = some (.str (S w1)) := at_line (i := 1) h1
          refine ⟨_, h3, p, _, 1, _, rfl, rfl, hp, h1', rfl, _, rfl, ?_⟩
          rw [show decide (V.str (S w1) = V.str "-") = decide (w1 = [45]) from S_dec w1 [45]]
          unfold toldM at q
          cases e : decide (w1 = [45]) with
          | true =>
            rw [e] at q
            exact ifT rfl q
          | false =>
            rw [e] at q
            exact ifF rfl ⟨_, h3, p, _, 1, _, rfl, rfl, hp, h1', q⟩)))
      (pss_cons (ps_if (pt_cmpR op_eq (pe_ix ix_list (pv 3) pe_int (fun _ _ => rfl)) pe_str (nomark _)) (pss_one (ps_set (i := 5) sc_node_read.nd rfl (Or.inl rfl) (pe_ifExp (pt_cmpR op_eq (pe_callB call_len_seq (by rfl) B.len (by decide +kernel) (pa_cons (pv 3) pa_nil)) pe_int (nomark _)) (pe_tup (pa_cons pe_str (pa_cons (pv 4) pa_nil))) pe_non))) (pss_cons (ps_set (i := 6) sc_node_read.nd rfl (Or.inl rfl) (pe_call GM (hr.mono (by decide)) (by rfl) gM FM.kp bM .nil pass0 (pa_cons (pe_slice sl_list (pv 3) (po_some pe_int) po_none) (pa_cons (pv 2) pa_nil))))
        (pss_one (ps_set (i := 5) sc_node_read.nd rfl (Or.inl rfl) (pe_ifExp (pt_cmpR op_isN (pv 6) pe_non (nomark _)) pe_non (pe_tup (pa_cons (pe_ix ix_list (pv 3) pe_int (fun _ _ => rfl)) (pa_cons (PE_imp (t' := tBareW) (pe_ifExp (pt_cmpR op_eq (pv 4) pe_str (nomark _)) pe_non (pv 4)) (fun σ H Q h => by
          obtain ⟨t, h4, q⟩ := h
          refine ⟨_, h4, rfl, _, rfl, ?_⟩
          rw [show decide (V.str (S t) = V.str "!") = decide (t = [33]) from S_dec t [33]]
          unfold bareM at q
          cases e : decide (t = [33]) with
          | true =>
            rw [e] at q
            exact ifT rfl q
          | false =>
            rw [e] at q
            exact ifF rfl ⟨_, h4, q⟩)) (StX.pa_star (pv 6) pa_nil)))))))))
      (pss_one (ps_ret (pe_ifExp (pt_val (pe_call GN (hr.mono (by decide)) (by rfl) gN FN.kp bN .nil pass0 (pa_cons (pv 0) (pa_cons (pv 5) (pa_cons (pv 2) pa_nil))))) (pv 5) pe_non)))))))), ?_⟩
    have hz : (S line).length = line.length := SX.S_len line
    refine ⟨_, rfl, ⟨_, rfl⟩, S line, S [32], rfl, rfl, rfl, sz_le (by omega), fun p hp => ?_⟩
    rw [spl_S, map_SV]
    have s1 := same_new (o := HO.lst ((spl 32 line).map fun l => V.str (S l))) hp
    have z1 : upd H p (.lst ((spl 32 line).map fun l => V.str (S l))) p = some (.lst (txs (spl 32 line))) := upd_same
    generalize upd H p (.lst ((spl 32 line).map fun l => V.str (S l))) = H1 at s1 z1 ⊢
    have hws : LowLs (spl 32 line) := spl_low hlow
    have hwn : ∀ x ∈ spl 32 line, x.length ≤ 4000 := fun x hx => Nat.le_trans (spl_len hx) hln
    have hwm : (spl 32 line).length ≤ 4001 := Nat.le_trans (spl_many 32 line) (by omega)
    unfold readM at q
    generalize spl 32 line = ws at z1 hws hwn hwm q ⊢
    refine ⟨_, rfl, sz_le (n := 1) (by decide), fun p2 hp2 _ => ?_⟩
    have s2 := same_new (o := HO.lst [V.str "none"]) hp2
    have z2 : upd H1 p2 (.lst [V.str "none"]) p2 = some (.lst (txs [noneL])) := upd_same
    have z1 := s2 _ _ z1
    have s12 := s1.trans s2
    have hnl : LowLs [noneL] := LowLs.one (show ∀ c ∈ noneL, c < 128 by decide)
    refine ⟨_, _, .lst (SqL.of z1) (dp_txs ws), .lst (SqL.of z2) (dp_txs [noneL]), shaped_txs hws, shaped_txs hnl, _, rfl, ?_⟩
    rw [eqv_txs]
    generalize upd H1 p2 (.lst [V.str "none"]) = H2 at s12 z1 ⊢
    clear z2 s2 hp2 s1 hnl
    cases e0 : decide (ws = [noneL]) with
    | true =>
      rw [e0, if_pos rfl] at q
      refine ifT rfl ⟨sz_le (n := 1) (by decide), fun p3 hp3 => ?_⟩
      exact q _ _ (s12.trans (same_new hp3)) ⟨p3, rfl, Or.inl (Or.inl upd_same)⟩
    | false =>
      rw [e0, if_neg (by decide)] at q
      refine ifF rfl ⟨_, rfl, p, _, rfl, .inl (SqL.of z1), _, _, rfl, rfl, _, rfl, ?_⟩
      match ws, q with
      | [], q => exact ifT rfl (ifT rfl (q H2 _ s12 rfl))
      | [_], q => exact ifT rfl (ifT rfl (q H2 _ s12 rfl))
      | w0 :: w1 :: rest, q =>
        dsimp only at q
        have h0 : atI (txs (w0 :: w1 :: rest)) 0 = some (.str (S w0)) := at_line (i := 0) rfl
        have h1 : atI (txs (w0 :: w1 :: rest)) 1 = some (.str (S w1)) := at_line (i := 1) rfl
        have hlen : (txs (w0 :: w1 :: rest)).length = rest.length + 2 := by rw [List.length_map, List.length_cons, List.length_cons]
        have hrl : rest.length ≤ 3999 := by
          rw [List.length_cons, List.length_cons] at hwm
          omega
        refine ifF (decide_eq_false (by rw [hlen]; omega)) ⟨_, rfl, p, _, 1, _, rfl, rfl, SqL.of z1, h1, rfl, _, rfl, ?_⟩
        rw [str_is_nil]
        cases e1 : decide (w1 = []) with
        | true =>
          rw [e1, if_pos rfl] at q
          exact ifT rfl (q H2 _ s12 rfl)
        | false =>
          rw [e1, if_neg (by decide)] at q
          refine ifF rfl ⟨p, _, w1, rfl, SqL.of z1, rfl, ?_⟩
          have hw1 : w1.length ≤ 4000 := hwn w1 (by simp)
          have hw0 : w0.length ≤ 4000 := hwn w0 (by simp)
          have ht : (toldM w1).length ≤ 4000 := by
            unfold toldM
            split
            · exact Nat.zero_le _
            · exact hw1
          generalize toldM w1 = t at ht q ⊢
          refine ⟨_, rfl, p, _, 0, _, rfl, rfl, SqL.of z1, h0, rfl, _, rfl, ?_⟩
          rw [show decide (V.str (S w0) = V.str "stops") = decide (w0 = stopsL) from S_dec w0 stopsL]
          cases e2 : decide (w0 = stopsL) with
          | true =>
            rw [e2, if_pos rfl] at q
            refine ifT rfl ⟨_, rfl, p, _, rfl, .inl (SqL.of z1), rfl, _, rfl, ?_⟩
            have e3 : decide (V.int ((txs (w0 :: w1 :: rest)).length : Nat) = V.int 2) = decide (rest.length = 0) := by
              rw [hlen, dec_int]
              exact decide_eq_decide.mpr ⟨fun h => by omega, fun h => by omega⟩
            rw [e3]
            cases e4 : decide (rest.length = 0) with
            | false =>
              rw [e4] at q
              refine ifF rfl ⟨_, rfl, _, rfl, _, rfl, sg, .non, .none, m, rfl, .non, by decide, by omega, fun H3 s3 => ⟨_, rfl, ifF rfl (q H3 _ (s12.trans s3) rfl)⟩⟩
            | true =>
              rw [e4] at q
              refine ifT rfl ⟨_, rfl, sz_le (n := 2) (by decide), fun p3 hp3 => ?_⟩
              have s3 := same_new (o := HO.tup [V.str "stops", .str (S t)]) hp3
              have z3 : SqT K (upd H2 p3 (.tup [V.str "stops", .str (S t)])) p3 [V.str "stops", .str (S t)] := Or.inl (Or.inl upd_same)
              have s13 := s12.trans s3
              generalize upd H2 p3 (.tup [V.str "stops", .str (S t)]) = H3 at z3 s13 ⊢
              refine ⟨_, rfl, _, rfl, _, rfl, sg, _, .tuple [.str "stops", .str (S t)], m, rfl, .tup z3 (.cons (.str _) (.cons (.str _) .nil)), ?_, by omega, fun H4 s4 => ⟨_, rfl, ?_⟩⟩
              · show 5 + 1 + (t.length + 1 + 0) ≤ 80000
                omega
              · rw [node_stops]
                cases e5 : allB t sg with
                | true =>
                  rw [e5] at q
                  exact ifT rfl ⟨_, rfl, q H4 _ (s13.trans s4) ⟨p3, rfl, Same.tup s4 z3⟩⟩
                | false =>
                  rw [e5] at q
                  exact ifF rfl (q H4 _ (s13.trans s4) rfl)
          | false =>
            rw [e2, if_neg (by decide)] at q
            refine ifF rfl ⟨_, rfl, 2, rfl, p, _, rfl, SqL.of z1, fun L hL => ?_⟩
            have ec : cutV (txs (w0 :: w1 :: rest)) (some 2) none = txs rest := cut_from _ 2
            rw [ec]
            have s3 := same_new (o := HO.lst (txs rest)) hL
            have z3 : upd H2 L (.lst (txs rest)) L = some (.lst (txs rest)) := upd_same
            have s13 := s12.trans s3
            have z1 := s3 _ _ z1
            generalize upd H2 L (.lst (txs rest)) = H3 at z3 z1 s13 ⊢
            refine ⟨_, rfl, L, rest, m, rfl, SqL.of z3, by omega, (fun w hw => Nat.le_trans (hwn w (by simp [hw])) (by decide)), fun H4 v s4 hv => ?_⟩
            have s14 := s13.trans s4
            have z1 := s4 _ _ z1
            cases e3 : rdNs m rest with
            | none =>
              rw [e3] at q hv
              have hv : v = .non := hv
              subst hv
              exact ⟨_, rfl, rfl, _, rfl, ifT rfl ⟨_, rfl, _, rfl, _, rfl, sg, .non, .none, m, rfl, .non, by decide, by omega, fun H5 s5 => ⟨_, rfl, ifF rfl (q H5 _ (s14.trans s5) rfl)⟩⟩⟩
            | some ts =>
              rw [e3] at q hv
              obtain ⟨pn, rfl, hpn⟩ := hv
              obtain ⟨hl, hlt⟩ := rdNs_lt e3
              dsimp only at q
              refine ⟨_, rfl, rfl, _, rfl, ifF rfl ⟨_, rfl, p, _, 0, _, rfl, rfl, SqL.of z1, h0, t, rfl, _, rfl, pn, _, rfl, Or.inl hpn, ?_⟩⟩
              refine ⟨sz_le (by rw [List.append_nil, List.length_cons, List.length_cons, intsV_len]; omega), fun p3 hp3 => ?_⟩
              rw [List.append_nil]
              have s5 := same_new (o := HO.tup (.str (S w0) :: optV (bareM t) :: intsV ts)) hp3
              have z5 : SqT K (upd H4 p3 (.tup (.str (S w0) :: optV (bareM t) :: intsV ts))) p3 (.str (S w0) :: optV (bareM t) :: intsV ts) := Or.inl (Or.inl upd_same)
              have s15 := s14.trans s5
              generalize upd H4 p3 (.tup (.str (S w0) :: optV (bareM t) :: intsV ts)) = H5 at z5 s15 ⊢
              refine ⟨_, rfl, _, rfl, _, rfl, sg, _, .tuple (.str (S w0) :: optD (bareM t) :: ts.map fun t => .int ((t : Nat) : Int)), m, rfl, .tup z5 (.cons (.str _) (.cons (optV_dg _) (ints_dg _))), ?_, by omega, fun H6 s6 => ⟨_, rfl, ?_⟩⟩
              · have h1 := ints_weight fun x hx => Nat.lt_of_lt_of_le (hlt x hx) (show m ≤ 4096 by omega)
                have h2 : (optD (bareM t)).weight ≤ 4000 := by
                  unfold bareM
                  split
                  · exact Nat.zero_le _
                  · exact ht
                show (S w0).cps.size + 1 + ((optD (bareM t)).weight + 1 + PyData.weightAll (ts.map fun t => .int ((t : Nat) : Int))) ≤ 80000
                have h3 : (S w0).cps.size ≤ 4000 := hw0
                omega
              · rw [node_reads (of_decide_eq_false e2) hlt, bare_is]
                cases e5 : (decide (w0 = readsL) && (decide (ts.length = sg.length) && (decide (t = [33]) || allB t sg))) with
                | true =>
                  rw [e5, if_pos rfl] at q
                  have ew : w0 = readsL := of_decide_eq_true (Bool.and_eq_true_iff.mp e5).1
                  subst ew
                  exact ifT rfl ⟨_, rfl, q H6 _ (s15.trans s6) ⟨p3, rfl, Same.tup s6 z5⟩⟩
                | false =>
                  rw [e5, if_neg (by decide)] at q
                  exact ifF rfl (q H6 _ (s15.trans s6) rfl)
end
end Lw

namespace Lw
open PySem PySem.Spec PyProof.Rows L2 Mq
open SX (S)
/-! ### the head of a text -/
def headW (l0 : List Nat) : Option (List Nat) :=
  match spl 32 l0 with
  | [w0, w1] => if (decide (w0 = readerL) && lettersB w1) = true then some w1 else none
  | _ => none
def headM (t : List Nat) : Option (List Nat × List (List Nat)) :=
  match spl 10 t with
  | l0 :: ls => match headW l0 with
    | some sg => some (sg, ls)
    | none => none
  | [] => none
theorem letters_alpha {sg : List Nat} (h : lettersB sg = true) : sg ≠ [] ∧ ∀ c ∈ sg, c ∈ alpha := by
  unfold lettersB at h
  obtain ⟨h1, h⟩ := Bool.and_eq_true_iff.mp h
  obtain ⟨_, h3⟩ := Bool.and_eq_true_iff.mp h
  refine ⟨(fun e => by rw [decide_eq_true e] at h1; cases h1), fun c hc => ?_⟩
  obtain ⟨i, hi, rfl⟩ := List.mem_iff_getElem.mp hc
  unfold allB at h3
  rw [List.all_map, List.all_eq_true] at h3
  have h4 := h3 i (List.mem_range.mpr hi)
  have h5 : sg.getD i 0 ∈ alpha := of_decide_eq_true h4
  rw [List.getD_eq_getElem?_getD, List.getElem?_eq_getElem hi] at h5
  exact h5
theorem alpha_low {c : Nat} (h : c ∈ alpha) : 97 ≤ c ∧ c ≤ 122 := by
  have := List.mem_range'.mp h
  omega
def spTextParts (K : PySem.W.Frag) (CT : Addr) : Sp := fun vs H Q E => ∃ v : V, vs = [.str (S readerL), v] ∧
  ((NoTx K H v ∧ ∀ H' d, Same H H' → H' d = none → E (.ref CT) (some d) (lineD d 0 H')) ∨ ∃ t : List Nat, v = .str (S t) ∧ t.length ≤ 20000 ∧
    match headM t with
    | none => ∀ H' d, Same H H' → H' d = none → E (.ref CT) (some d) (lineD d 1 H')
    | some (sg, ls) => ∀ H' T L, Same H H' → SqT K H' T [.str (S sg), .ref L] → H' L = some (.lst (ls.map fun l => .str (S l))) → Q (.ref T) H')
theorem head_facts {t sg : List Nat} {ls : List (List Nat)} (h : headM t = some (sg, ls)) : lettersB sg = true ∧ sg.length ≤ t.length ∧ ls.length ≤ t.length ∧ ∀ l ∈ ls, l.length ≤ t.length := by
  unfold headM at h
  have h1 := spl_many 10 t
  have h2 : ∀ x ∈ spl 10 t, x.length ≤ t.length := fun x hx => spl_len hx
  split at h
  · rename_i l0 ls0 e
    rw [e] at h1 h2
    cases hw : headW l0 with
    | none =>
      rw [hw] at h
      cases h
    | some w =>
      rw [hw] at h
      cases h
      unfold headW at hw
      have h3 : ∀ x ∈ spl 32 l0, x.length ≤ l0.length := fun x hx => spl_len hx
      split at hw
      · rename_i w0 w1 e2
        rw [e2] at h3
        split at hw
        · rename_i c
          cases hw
          refine ⟨(Bool.and_eq_true_iff.mp c).2, Nat.le_trans (h3 _ (by simp)) (h2 _ (by simp)), ?_, fun l hl => h2 l (List.mem_cons_of_mem _ hl)⟩
          rw [List.length_cons] at h1
          omega
        · cases hw
      · cases hw
  · cases h
theorem head_low {t sg : List Nat} {ls : List (List Nat)} (h : headM t = some (sg, ls)) (hl : LowL t) : LowLs ls := by
  unfold headM at h
  have h2 : LowLs (spl 10 t) := spl_low hl
  split at h
  · rename_i l0 ls0 e
    rw [e] at h2
    cases hw : headW l0 with
    | none =>
      rw [hw] at h
      cases h
    | some w =>
      rw [hw] at h
      cases h
      exact fun p hp => h2 p (List.mem_cons_of_mem _ hp)
  · cases h
section
variable {P : Program} {w : World} {K : PySem.W.Frag} {mg : Str → Option Value} {base : Heap} {CT : Addr}
theorem ok_text_parts {f fL fB : Addr} {fd fdL : FuncData} (F : Fun K "text_parts" "text_parts" s_text_parts f fd) (B : Blt mg)
    (FL : Fun K "is_letters" "is_letters" s_is_letters fL fdL) (gL : mg "is_letters" = some (.ref fL)) (bL : Binds K fdL ["thing"] []) (GL : FnOk P w K mg base CX0 2 fL fdL ["thing"] (spLetters K))
    (T : MqE_line.Txt K mg "BadText" "BadText.__init__" CT fB) :
    FnOk P w K mg base (L2.CX P w) 3 f fd ["word", "text"] (spTextParts K CT) := by
  refine F.okX sc_text_parts (fun vs H Q E h => ?_) (fun cdv A outer s H vs Q E hr h => ?_)
  · obtain ⟨_, rfl, _⟩ := h
    rfl
  · obtain ⟨v, rfl, h⟩ := h
    refine ⟨_, (pss_cons (ps_if (pt_not (pt_val (pe_callB call_isi (by rfl) B.isi (by decide +kernel) (pa_cons (pv 1) (pa_cons (pe_bltn (v := .ty "str") (by rfl) B.str (by decide +kernel) rfl) pa_nil))))) (pss_one (MqE_line.ps_raise rfl T hr (takes_of rfl rfl rfl rfl) (pa_cons pe_int pa_nil))) pss_nil)
      (pss_cons (ps_set (i := 2) sc_text_parts.nd rfl (Or.inl rfl) (pe_split (pv 1) pe_str))
      (pss_cons (ps_set (i := 3) sc_text_parts.nd rfl (Or.inl rfl) (pe_split (pe_ix ix_list (pv 2) pe_int (fun _ _ => rfl)) pe_str))
      (pss_cons (ps_if (PW.pt (pw_or (pt_cmpR op_ne (pe_callB call_len_seq (by rfl) B.len (by decide +kernel) (pa_cons (pv 3) pa_nil)) pe_int (nomark _)) (pw_or (pt_cmpR op_ne (pe_ix ix_list (pv 3) pe_int (fun _ _ => rfl)) (pv 0) (nomark _)) (pw_or1 (pt_not (pt_val (pe_call GL (hr.mono (by decide)) (by rfl) gL FL.kp bL .nil pass0 (pa_cons (pe_ix ix_list (pv 3) pe_int (fun _ _ => rfl)) pa_nil)))))))) (pss_one (MqE_line.ps_raise rfl T hr (takes_of rfl rfl rfl rfl) (pa_cons pe_int pa_nil))) pss_nil)
      (pss_one (ps_ret (pe_tup (pa_cons (pe_ix ix_list (pv 3) pe_int (fun _ _ => rfl)) (pa_cons (pe_slice sl_list (pv 2) (po_some pe_int) po_none) pa_nil))))))))), ?_⟩
    rcases h with ⟨⟨c, ty, kt⟩, q⟩ | ⟨t, rfl, ht, q⟩
    · exact ⟨_, rfl, _, .ty "str", _, _, false, rfl, .ty _, ty, kt, false, rfl, ifT rfl ⟨_, rfl, fun d hd => q H d (Same.refl H) hd⟩⟩
    refine ⟨_, rfl, _, .ty "str", _, _, true, rfl, .ty _, .base (.str _), kit_self, true, rfl, ifF rfl ?_⟩
    have hz : (S t).length = t.length := SX.S_len t
    refine ⟨_, rfl, ⟨_, rfl⟩, S t, S [10], rfl, rfl, rfl, sz_le (by omega), fun p hp => ?_⟩
    rw [spl_S, map_SV]
    have s1 := same_new (o := HO.lst ((spl 10 t).map fun l => V.str (S l))) hp
    have z1 : upd H p (.lst ((spl 10 t).map fun l => V.str (S l))) p = some (.lst ((spl 10 t).map fun l => V.str (S l))) := upd_same
    generalize upd H p (.lst ((spl 10 t).map fun l => V.str (S l))) = H1 at s1 z1 ⊢
    have hn : ∀ x ∈ spl 10 t, x.length ≤ 20000 := fun x hx => Nat.le_trans (spl_len hx) ht
    have hne := spl_ne 10 t
    have hm : (spl 10 t).length ≤ 20001 := Nat.le_trans (spl_many 10 t) (by omega)
    unfold headM at q
    generalize spl 10 t = lines at z1 hn hne hm q ⊢
    match lines, hne, q with
    | l0 :: ls, _, q =>
      have hl0 := hn l0 List.mem_cons_self
      have hz0 : (S l0).length = l0.length := SX.S_len l0
      refine ⟨_, rfl, p, _, 0, _, rfl, rfl, SqL.of z1, at_line (i := 0) rfl, ⟨_, rfl⟩, S l0, S [32], rfl, rfl, rfl, sz_le (by omega), fun p2 hp2 => ?_⟩
      rw [spl_S, map_SV]
      have s2 := same_new (o := HO.lst ((spl 32 l0).map fun l => V.str (S l))) hp2
      have z2 : upd H1 p2 (.lst ((spl 32 l0).map fun l => V.str (S l))) p2 = some (.lst ((spl 32 l0).map fun l => V.str (S l))) := upd_same
      have z12 := s2 _ _ z1
      have s12 := s1.trans s2
      generalize upd H1 p2 (.lst ((spl 32 l0).map fun l => V.str (S l))) = H2 at s12 z2 z12 ⊢
      have hn2 : ∀ x ∈ spl 32 l0, x.length ≤ 20000 := fun x hx => Nat.le_trans (spl_len hx) hl0
      refine ⟨_, rfl, p2, _, rfl, .inl (SqL.of z2), rfl, _, rfl, ?_⟩
      dsimp only at q
      unfold headW at q
      generalize spl 32 l0 = ws at z2 hn2 q ⊢
      have bad : ∀ ws : List (List Nat), ws.length ≠ 2 → (match ws with
        | [w0, w1] => if (decide (w0 = readerL) && lettersB w1) = true then some w1 else none
        | _ => none) = none := by
        intro ws h
        match ws, h with
        | [], _ => rfl
        | [_], _ => rfl
        | [_, _], h => exact (h rfl).elim
        | _ :: _ :: _ :: _, _ => rfl
      by_cases h2 : ws.length ≠ 2
      · rw [bad ws h2] at q
        exact ifT (int_ne (m := 2) (by rw [List.length_map]; exact h2)) ⟨_, rfl, fun d hd => q H2 d s12 hd⟩
      clear bad
      match ws, h2, q with
      | [], h2, _ => exact (h2 (by decide)).elim
      | [_], h2, _ => exact (h2 (by show 1 ≠ 2; decide)).elim
      | a :: b :: c :: r, h2, _ => exact (h2 (by simp only [List.length_cons]; omega)).elim
      | [w0, w1], h2, q =>
        have h0 : atI ([w0, w1].map fun l => V.str (S l)) 0 = some (.str (S w0)) := atI_nat (j := 0) rfl
        have h1 : atI ([w0, w1].map fun l => V.str (S l)) 1 = some (.str (S w1)) := atI_nat (j := 1) rfl
        have n1 := hn2 w1 (by simp)
        dsimp only at q
        refine ifF rfl ⟨_, rfl, p2, _, 0, _, rfl, rfl, SqL.of z2, h0, _, rfl, rfl, _, rfl, ?_⟩
        rw [S_dec w0 readerL]
        cases c0 : decide (w0 = readerL) with
        | false =>
          rw [c0] at q
          exact ifT rfl (ifT rfl ⟨_, rfl, fun d hd => q H2 d s12 hd⟩)
        | true =>
          rw [c0] at q
          refine ifF rfl ⟨_, rfl, p2, _, 1, _, rfl, rfl, SqL.of z2, h1, _, rfl, Or.inl ⟨w1, rfl, by omega, fun H3 s3 => ⟨_, rfl, ?_⟩⟩⟩
          have s13 := s12.trans s3
          cases c1 : lettersB w1 with
          | false =>
            rw [c1] at q
            exact ifT rfl ⟨_, rfl, fun d hd => q H3 d s13 hd⟩
          | true =>
            rw [c1] at q
            refine ifF rfl ⟨_, rfl, p2, _, 1, _, rfl, rfl, SqL.of (s3 _ _ z2), h1, _, rfl, _, rfl, p, _, rfl, SqL.of (s3 _ _ z12), fun L hL => ?_⟩
            have e : cutV ((l0 :: ls).map fun l => V.str (S l)) (some 1) none = ls.map fun l => V.str (S l) := cut_tail _ _
            rw [e]
            refine ⟨sz_le (n := 2) (by decide), fun p3 hp3 => ?_⟩
            have s4 := same_new (o := HO.lst (ls.map fun l => V.str (S l))) hL
            have s5 := same_new (o := HO.tup [V.str (S w1), V.ref L]) hp3
            exact q _ p3 L ((s13.trans s4).trans s5) (Or.inl (Or.inl upd_same)) (s5 _ _ upd_same)
end
end Lw

namespace Lw
open PySem PySem.Spec PyProof.Rows L2 Mq
open SX (S)
/-! ### nodes read off a text -/
def firstN : List (Option Nd) → Nat → Option Nat
  | [], _ => none
  | none :: _, k => some k
  | some _ :: r, k => firstN r (k + 1)
def linesM (sg : List Nat) (ls : List (List Nat)) : List (Option Nd) := ls.map (readM sg ls.length)
def pageM (t : List Nat) : (List Nat × List Nd) ⊕ Nat :=
  match headM t with
  | none => .inr 1
  | some (sg, ls) => if ls.isEmpty = true then .inr 2 else match firstN (linesM sg ls) 0 with
    | some k => .inr (k + 2)
    | none => .inl (sg, (linesM sg ls).filterMap id)
def contN (o : Option Nd) (i : Nat) (x : Option Nat) : Option Nat :=
  match o with
  | none => some i
  | some _ => x
theorem firstN_step {ms : List (Option Nd)} {i : Nat} {o : Option Nd} (h : ms[i]? = some o) : firstN (ms.drop i) i = contN o i (firstN (ms.drop (i + 1)) (i + 1)) := by
  have hi : i < ms.length := by
    rcases Nat.lt_or_ge i ms.length with h2 | h2
    · exact h2
    · rw [List.getElem?_eq_none h2] at h
      cases h
  have e : ms[i] = o := by
    rw [List.getElem?_eq_getElem hi] at h
    exact Option.some.inj h
  rw [List.drop_eq_getElem_cons hi, e]
  cases o <;> rfl
theorem NdAll.app1 {K : PySem.W.Frag} {H : Hp} {v : V} {n : Nd} {vs : List V} {ns : List Nd} (h : NdAll K H vs ns) (k : NdAt K H v n) : NdAll K H (vs ++ [v]) (ns ++ [n]) := NdAll.snoc k h
def spNodesRd (K : PySem.W.Frag) (CT fn : Addr) : Sp := fun vs H Q E => ∃ v : V, vs = [.str (S readerL), v, .ref fn, .non] ∧
  ((NoTx K H v ∧ ∀ H' d, Same H H' → H' d = none → E (.ref CT) (some d) (lineD d 0 H')) ∨ ∃ t : List Nat, v = .str (S t) ∧ t.length ≤ 4000 ∧ LowL t ∧
    match pageM t with
    | .inr k => ∀ H' d, Same H H' → H' d = none → E (.ref CT) (some d) (lineD d k H')
    | .inl (sg, ns) => ∀ H' T p, Same H H' → SqT K H' T [.str (S sg), .ref p] → NodesAt K H' p ns → Q (.ref T) H')
section
variable {P : Program} {w : World} {K : PySem.W.Frag} {mg : Str → Option Value} {base : Heap} {C CT : Addr}
theorem ok_nodes_read {f fT fO fE : Addr} {fd fdT fdO : FuncData} (F : FunD K "nodes_read" "nodes_read" (defArgs s_nodes_read) (defBody s_nodes_read) (defScope s_nodes_read) [.non] [] f fd) (B : Blt mg)
    (FT : Fun K "text_parts" "text_parts" s_text_parts fT fdT) (gT : mg "text_parts" = some (.ref fT)) (bT : Binds K fdT ["word", "text"] []) (GT : FnOk P w K mg base (L2.CX P w) 3 fT fdT ["word", "text"] (spTextParts K CT))
    (FO : Fun K "node_read" "node_read" s_node_read fO fdO) (bO : Binds K fdO ["letters", "line", "many"] []) (GO : FnOk P w K mg base CX0 5 fO fdO ["letters", "line", "many"] (spNodeRead K))
    (T : MqE_line.Txt K mg "BadText" "BadText.__init__" CT fE) :
    FnOk P w K mg base (L2.CX P w) 6 f fd ["word", "text", "node_of", "most"] (spNodesRd K CT fO) := by
  refine F.ok sc_nodes_read (fun vs H Q E h => ?_) (fun cdv A outer s H vs Q E hr h => ?_)
  · obtain ⟨_, rfl, _⟩ := h
    rfl
  · obtain ⟨v, rfl, h⟩ := h
    refine ⟨_, (pss_cons (ps_asg (pe_call GT (hr.mono (by decide)) (by rfl) gT FT.kp bT .nil (passes_call (takes_of rfl rfl rfl rfl) (fun _ _ _ _ z => z)) (pa_cons (pv 0) (pa_cons (pv 1) pa_nil))) (pg_tup rfl (pgs_cons (pg_name (i := 4) sc_nodes_read.nd rfl (Or.inl rfl)) (pgs_cons (pg_name (i := 5) sc_nodes_read.nd rfl (Or.inl rfl)) pgs_nil))))
      (pss_cons (ps_if (pt_not (pt_truth (pv 5) (by intro _; rfl))) (pss_one (MqE_line.ps_raise rfl T hr (takes_of rfl rfl rfl rfl) (pa_cons pe_int pa_nil))) pss_nil)
      (pss_cons (ps_set (i := 6) sc_nodes_read.nd rfl (Or.inl rfl) (Mq.pe_ls pa_nil))
      (pss_cons (ps_for (passes_of rfl) rfl (pi_list (pv 5)) (pg_name (i := 7) sc_nodes_read.nd rfl (Or.inl rfl))
        (pss_cons (ps_expr (pe_bm PySem.F.plainAttrs_list PySem.F.slot_list_append PySem.F.type_list_append mt_append (pv 6) (pa_cons (pe_ifExp (pt_cmpR op_eq (pe_callB call_len_seq (by rfl) B.len (by decide +kernel) (pa_cons (pv 6) pa_nil)) (pv 3) (nomark _)) pe_non (pe_callL (i := 2) GO (hr.mono (by decide)) rfl (Or.inl rfl) FO.kp bO .nil pass0 (pa_cons (pv 4) (pa_cons (pv 7) (pa_cons (pe_callB call_len_seq (by rfl) B.len (by decide +kernel) (pa_cons (pv 5) pa_nil)) pa_nil))))) pa_nil)))
        (pss_one (ps_if (pt_cmpR op_isN (pe_ix ix_list (pv 6) (pe_un un_neg pe_int) (fun _ _ => rfl)) pe_non (nomark _)) (pss_one (MqE_line.ps_raise rfl T hr (takes_of rfl rfl rfl rfl) (pa_cons (pe_op op_add (pe_callB call_len_seq (by rfl) B.len (by decide +kernel) (pa_cons (pv 6) pa_nil)) pe_int) pa_nil))) pss_nil))))
      (pss_one (ps_ret (pe_tup (pa_cons (pv 4) (pa_cons (pe_callTy call_tuple_of (by rfl) B.tuple (by decide +kernel) (pa_cons (pv 6) pa_nil)) pa_nil))))))))), ?_⟩
    refine ⟨_, rfl, _, rfl, v, rfl, ?_⟩
    rcases h with ⟨hn, q⟩ | ⟨t, rfl, ht, hlow, q⟩
    · exact Or.inl ⟨hn, q⟩
    refine Or.inr ⟨t, rfl, by omega, ?_⟩
    unfold pageM at q
    cases hh : headM t with
    | none =>
      rw [hh] at q
      exact q
    | some a =>
      obtain ⟨sg, ls⟩ := a
      rw [hh] at q
      dsimp only at q ⊢
      intro H1 T1 L1 s1 hT1 hL1
      obtain ⟨hlet, hsl, hll, hlm⟩ := head_facts hh
      have hlw := head_low hh hlow
      have hL1 : H1 L1 = some (.lst (txs ls)) := hL1
      refine ⟨T1, _, rfl, hT1, rfl, _, _, rfl, _, _, rfl, rfl, ?_⟩
      refine ⟨_, rfl, _, Or.inl ⟨_, SqL.of hL1, rfl⟩, ?_⟩
      cases he : ls.isEmpty with
      | true =>
        rw [he, if_pos rfl] at q
        have e0 : ls = [] := List.isEmpty_iff.mp he
        subst e0
        exact ifT rfl ⟨_, rfl, fun d hd => q H1 d s1 hd⟩
      | false =>
        rw [he, if_neg (by decide)] at q
        have hne : ls ≠ [] := fun e => by
          rw [e] at he
          cases he
        refine ifF (by cases ls with
          | nil => exact (hne rfl).elim
          | cons a b => rfl) ⟨sz_le (n := 0) (by decide), fun L hL _ => ?_⟩
        have s2 := same_new (o := HO.lst []) hL
        have z2 : upd H1 L (.lst []) L = some (.lst []) := upd_same
        have zL1 := s2 _ _ hL1
        generalize upd H1 L (.lst []) = H2 at s2 z2 zL1 ⊢
        refine ⟨_, rfl, L1, rfl, ⟨_, SqL.of zL1⟩, ?_⟩
        have hml : (linesM sg ls).length = ls.length := List.length_map _
        refine for_list (xs := txs ls) (fun i σ H' => Same H1 H' ∧ ∃ vs acc o7, H' L = some (.lst vs) ∧ NdAll K H' vs acc ∧ acc.length = i ∧ acc = ((linesM sg ls).take i).filterMap id ∧ firstN ((linesM sg ls).drop i) i = firstN (linesM sg ls) 0 ∧
          σ = [some (.str (S readerL)), some (.str (S t)), some (.ref fO), some .non, some (.str (S sg)), some (.ref L1), some (.ref L), o7]) ⟨s2, [], [], _, z2, .nil, rfl, rfl, rfl, rfl⟩ (fun i σ H' _ p => SqL.of (p.1 _ _ hL1)) ?_ ?_
        · rintro i x σ H3 hx ⟨s3, vs, acc, o7, hv, ha, hlen, hac, hb, rfl⟩
          obtain ⟨l, hi, rfl⟩ : ∃ l, ls[i]? = some l ∧ x = .str (S l) := by
            rw [List.getElem?_map] at hx
            cases e : ls[i]? with
            | none => rw [e] at hx; cases hx
            | some l => rw [e] at hx; cases hx; exact ⟨l, rfl, rfl⟩
          have hil : i < ls.length := by
            rcases Nat.lt_or_ge i ls.length with h | h
            · exact h
            · rw [List.getElem?_eq_none h] at hi
              cases hi
          have hmem := List.mem_of_getElem? hi
          have hlm' := hlm l hmem
          have hvl : vs.length = acc.length := ha.len
          have hm : (linesM sg ls)[i]? = some (readM sg ls.length l) := by
            unfold linesM
            rw [List.getElem?_map, hi]
            rfl
          rw [firstN_step hm] at hb
          have hL1' := s3 _ _ hL1
          refine ⟨_, rfl, Or.inl ⟨rfl, _, SqL.of hv⟩, _, rfl, L, _, rfl, .inl (SqL.of hv), _, rfl, rfl, _, rfl, ifF (decide_eq_false fun z => nomatch z) ?_⟩
          refine ⟨rfl, _, rfl, _, rfl, _, rfl, L1, _, rfl, .inl (SqL.of hL1'), sg, l, ls.length, by rw [List.length_map]; rfl, by omega, by omega, hlw l hmem, by omega, fun H4 v4 s4 hv4 => ?_⟩
          have hL4 := s4 _ _ hv
          have ha4 := ha.same s4
          have s14 := s3.trans s4
          refine ⟨L, vs, v4, rfl, rfl, hL4, sz_lt (by omega), ?_⟩
          have s15 := push_same (o := HO.lst (vs ++ [v4])) hL s14
          have z5 : upd H4 L (.lst (vs ++ [v4])) L = some (.lst (vs ++ [v4])) := upd_same
          have k5 : KpT K H4 (upd H4 L (.lst (vs ++ [v4]))) := KpT.lst hL4
          generalize upd H4 L (.lst (vs ++ [v4])) = H5 at s15 z5 k5 ⊢
          refine ⟨_, rfl, _, rfl, L, _, -1, _, rfl, rfl, SqL.of z5, atI_last _ _, rfl, _, rfl, ?_⟩
          cases hr4 : readM sg ls.length l with
          | none =>
            rw [hr4] at hb hv4
            have hv4 : v4 = .non := hv4
            subst hv4
            have hb : some i = firstN (linesM sg ls) 0 := hb
            rw [← hb] at q
            refine ifT rfl ⟨_, rfl, L, _, rfl, .inl (SqL.of z5), _, _, rfl, rfl, _, rfl, fun d hd => ?_⟩
            have q' := q H5 d (s1.trans s15) hd
            unfold lineD at q'
            rw [List.length_append, hvl, hlen]
            exact q'
          | some n =>
            rw [hr4] at hb hv4
            have hv4 : NdAt K H4 v4 n := hv4
            have hb : firstN ((linesM sg ls).drop (i + 1)) (i + 1) = firstN (linesM sg ls) 0 := hb
            refine ifF ?_ ⟨s15, _, acc ++ [n], _, z5, (ha4.kp k5).app1 (hv4.kp k5), ?_, ?_, hb, rfl⟩
            · obtain ⟨p4, rfl, _⟩ := hv4
              rfl
            · rw [List.length_append, hlen]
              rfl
            · rw [List.take_add_one, hm, hr4, List.filterMap_append, ← hac]
              rfl
        · rintro σ H3 ⟨s3, vs, acc, o7, hv, ha, hlen, hac, hb, rfl⟩
          have hll2 : (txs ls).length = ls.length := List.length_map _
          rw [hll2, List.drop_of_length_le (by rw [hml]; exact Nat.le_refl _)] at hb
          have hb' : firstN (linesM sg ls) 0 = none := hb.symm
          rw [hb'] at q
          dsimp only at q
          rw [hll2, List.take_of_length_le (by rw [hml]; exact Nat.le_refl _)] at hac
          rw [← hac] at q
          refine ⟨_, rfl, _, rfl, L, vs, rfl, Or.inl ⟨SqL.of hv, fun fa hfa => ?_⟩⟩
          have s4 := same_new (o := HO.tup vs) hfa
          have t4 : SqT K (upd H3 fa (.tup vs)) fa vs := Or.inl (Or.inl upd_same)
          have ha4 := ha.same s4
          generalize upd H3 fa (.tup vs) = H4 at s4 t4 ha4 ⊢
          refine ⟨sz_le (n := 2) (by decide), fun T2 hT2 => ?_⟩
          have s5 := same_new (o := HO.tup [V.str (S sg), V.ref fa]) hT2
          exact q _ T2 fa (((s1.trans s3).trans s4).trans s5) (Or.inl (Or.inl upd_same)) ⟨vs, Same.tup s5 t4, ha4.same s5⟩
end
end Lw

namespace Lw
open PySem PySem.Spec PyProof.Rows L2 Mq
open SX (S)
/-! ### what is read is right -/
theorem nd_reads {b : Option (List Nat)} {ts : List Nat} : ndD (.reads b ts) = .tuple (.str (S readsL) :: optD b :: ts.map fun t => .int ((t : Nat) : Int)) := by
  rw [← reads_is]
  rfl
theorem read_nd {sg line : List Nat} {m : Nat} {n : Nd} (h : readM sg m line = some n) (hm : m ≤ 4001) : nodeD sg m (ndD n) = true ∧ (ndD n).weight ≤ 14 * (line.length + 1) := by
  have hw : ∀ x ∈ spl 32 line, x.length ≤ line.length := fun x hx => spl_len hx
  have hn := spl_many 32 line
  unfold readM at h
  split at h
  · cases h
    refine ⟨node_right (sg := sg) (m := m) (n := .none) trivial, ?_⟩
    show 4 + 1 + 0 ≤ _
    omega
  · split at h
    · rename_i w0 w1 rest e
      rw [e] at hw hn
      rw [List.length_cons, List.length_cons] at hn
      have h1 : w1.length ≤ line.length := hw w1 (by simp)
      have ht : (toldM w1).length ≤ line.length := by
        unfold toldM
        split
        · exact Nat.zero_le _
        · exact h1
      split at h
      · cases h
      · split at h
        · split at h
          · rename_i h5
            cases h
            have h5 := (Bool.and_eq_true_iff.mp h5).2
            refine ⟨?_, ?_⟩
            · show nodeD sg m (.tuple [.str "stops", .str (S (toldM w1))]) = true
              rw [node_stops]
              exact h5
            · show 5 + 1 + ((toldM w1).length + 1 + 0) ≤ _
              omega
          · cases h
        · split at h
          · cases h
          · rename_i ts e3
            obtain ⟨hl, hlt⟩ := rdNs_lt e3
            split at h
            · rename_i h5
              cases h
              obtain ⟨h6, h7⟩ := Bool.and_eq_true_iff.mp h5
              obtain ⟨h7, h8⟩ := Bool.and_eq_true_iff.mp h7
              refine ⟨?_, ?_⟩
              · rw [nd_reads, node_reads (by decide) hlt, bare_is, h7, h8]
                rfl
              · have h9 := ints_weight fun x hx => Nat.lt_of_lt_of_le (hlt x hx) (show m ≤ 4096 by omega)
                have h10 : (optD (bareM (toldM w1))).weight ≤ line.length := by
                  unfold bareM
                  split
                  · exact Nat.zero_le _
                  · exact ht
                show 5 + 1 + ((optD (bareM (toldM w1))).weight + 1 + PyData.weightAll (ts.map fun t => .int ((t : Nat) : Int))) ≤ _
                omega
            · cases h
    · cases h
theorem filt_weight {sg : List Nat} {m : Nat} (hm : m ≤ 4001) : ∀ ls : List (List Nat), PyData.weightAll (((ls.map (readM sg m)).filterMap id).map ndD) ≤ 15 * sumL ls
  | [] => Nat.zero_le _
  | l :: ls => by
    have ih := filt_weight hm ls (sg := sg)
    have es : sumL (l :: ls) = (l.length + 1) + sumL ls := rfl
    rw [List.map_cons, es]
    cases e : readM sg m l with
    | none =>
      show PyData.weightAll (((ls.map (readM sg m)).filterMap id).map ndD) ≤ _
      omega
    | some n =>
      have h1 := (read_nd e hm).2
      show (ndD n).weight + 1 + PyData.weightAll (((ls.map (readM sg m)).filterMap id).map ndD) ≤ _
      omega
theorem filt_mem {sg : List Nat} {m : Nat} {ls : List (List Nat)} {n : Nd} (h : n ∈ (ls.map (readM sg m)).filterMap id) : ∃ l ∈ ls, readM sg m l = some n := by
  obtain ⟨o, ho, e⟩ := List.mem_filterMap.mp h
  obtain ⟨l, hl, e2⟩ := List.mem_map.mp ho
  exact ⟨l, hl, by rw [e2]; exact e⟩
theorem firstN_len : ∀ {ms : List (Option Nd)} {i : Nat}, firstN ms i = none → (ms.filterMap id).length = ms.length
  | [], _, _ => rfl
  | none :: _, _, h => by cases h
  | some n :: ms, i, h => by
    have ih := firstN_len (ms := ms) (i := i + 1) h
    show ((ms.filterMap id).length + 1) = ms.length + 1
    rw [ih]
structure PgOk (t sg : List Nat) (ns : List Nd) : Prop where
  let_ : lettersB sg = true
  sgl : sg.length ≤ 4000
  due : dueM (.str (S sg)) (.tuple (ns.map ndD)) = none
  wt : PyData.weightAll (ns.map ndD) ≤ 80000
  few : ns.length ≤ 4001
theorem page_ok {t sg : List Nat} {ns : List Nd} (h : pageM t = .inl (sg, ns)) (ht : t.length ≤ 4000) : PgOk t sg ns := by
  unfold pageM at h
  cases hh : headM t with
  | none =>
    rw [hh] at h
    cases h
  | some a =>
    obtain ⟨sg', ls⟩ := a
    rw [hh] at h
    dsimp only at h
    obtain ⟨hlet, hsl, hll, hlm⟩ := head_facts hh
    cases he : ls.isEmpty with
    | true =>
      rw [he] at h
      cases h
    | false =>
      rw [he, if_neg (by decide)] at h
      cases hf : firstN (linesM sg' ls) 0 with
      | some k =>
        rw [hf] at h
        cases h
      | none =>
        rw [hf] at h
        cases h
        have hlen : ((linesM sg ls).filterMap id).length = ls.length := (firstN_len hf).trans (List.length_map _)
        have hsum : sumL ls ≤ t.length + 1 := by
          unfold headM at hh
          split at hh
          · rename_i l0 ls0 e
            have h1 : sumL (spl 10 t) = t.length + 1 := by
              have h2 := join_len 10 (spl 10 t) (spl_ne 10 t)
              rw [spl_join] at h2
              exact h2.symm
            rw [e] at h1
            have h3 : sumL (l0 :: ls0) = (l0.length + 1) + sumL ls0 := rfl
            cases hw : headW l0 with
            | none =>
              rw [hw] at hh
              cases hh
            | some w =>
              rw [hw] at hh
              cases hh
              omega
          · cases hh
        refine ⟨hlet, by omega, ?_, ?_, by omega⟩
        · rw [due_str, hlet, if_pos rfl]
          unfold bodyN
          dsimp only
          have e0 : (((linesM sg ls).filterMap id).map ndD).isEmpty = false := by
            cases e1 : ((linesM sg ls).filterMap id).map ndD with
            | nil =>
              have e2 := congrArg List.length e1
              rw [List.length_map, hlen] at e2
              have e3 : ls = [] := List.length_eq_zero_iff.mp e2
              rw [e3] at he
              cases he
            | cons a b => rfl
          rw [e0, if_neg (by decide), first_right]
          · rfl
          · intro d hd
            obtain ⟨n, hn, rfl⟩ := List.mem_map.mp hd
            rw [List.length_map, hlen]
            obtain ⟨l, hl, e⟩ := filt_mem hn
            exact (read_nd e (by omega)).1
        · have := filt_weight (sg := sg) (m := ls.length) (by omega) ls
          show PyData.weightAll (((ls.map (readM sg ls.length)).filterMap id).map ndD) ≤ _
          omega
theorem nds_dg {K : PySem.W.Frag} {H : Hp} : ∀ {vs : List V} {ns : List Nd}, NdAll K H vs ns → DgAll K H vs (ns.map ndD)
  | _, _, .nil => .nil
  | _, _, .cons (n := n) h b => .cons (by
      obtain ⟨a, rfl, ha⟩ := h
      cases n with
      | none => exact .tup ha (.cons (.str _) .nil)
      | stops w => exact .tup ha (.cons (.str _) (.cons (.str _) .nil))
      | reads b ts => exact .tup ha (.cons (.str _) (.cons (optV_dg b) (ints_dg ts)))) (nds_dg b)
def spRead (K : PySem.W.Frag) (C CT : Addr) : Sp := fun vs H Q E => ∃ v : V, vs = [.ref C, v] ∧
  ((NoTx K H v ∧ ∀ H' d, Same H H' → H' d = none → E (.ref CT) (some d) (lineD d 0 H')) ∨ ∃ t : List Nat, v = .str (S t) ∧ t.length ≤ 4000 ∧ LowL t ∧
    match pageM t with
    | .inr k => ∀ H' d, Same H H' → H' d = none → E (.ref CT) (some d) (lineD d k H')
    | .inl (sg, ns) => ∀ H' r na, Same H H' → RdAt H' C r sg na → NodesAt K H' na ns → Q (.ref r) H')
section
variable {P : Program} {w : World} {K : PySem.W.Frag} {mg : Str → Option Value} {base : Heap} {C CT CR : Addr}
theorem ok_read {f fT fO fI : Addr} {fd fdT fdI : FuncData} (F : Fun K "read" "Reader.read" s_Reader_read f fd) (B : Blt mg)
    (kT : PySem.W.keepIn K (.ref fT) = true) {dT : List Value} (gT : mg "nodes_read" = some (.ref fT)) (bT : Binds K fdT ["word", "text", "node_of", "most"] dT) (vT : Vals [.non] dT)
    (gO : mg "node_read" = some (.ref fO)) (GT : FnOk P w K mg base (L2.CX P w) 6 fT fdT ["word", "text", "node_of", "most"] (spNodesRd K CT fO))
    (MK : Mk K C fI) (bI : Binds K fdI ["self", "letters", "nodes"] []) (GI : FnOk P w K mg base (L2.CX P w) 6 fI fdI ["self", "letters", "nodes"] (spInitA K C CR)) :
    FnOk P w K mg base (L2.CX P w) 8 f fd ["cls", "text"] (spRead K C CT) := by
  refine F.okX sc_Reader_read (fun vs H Q E h => ?_) (fun cdv A outer s H vs Q E hr h => ?_)
  · obtain ⟨_, rfl, _⟩ := h
    rfl
  · obtain ⟨v, rfl, h⟩ := h
    refine ⟨_, (pss_cons (ps_asg (pe_call GT (hr.mono (by decide)) (by rfl) gT kT bT vT (passes_call (takes_of rfl rfl rfl rfl) (fun _ _ _ _ z => z)) (pa_cons pe_str (pa_cons (pv 1) (pa_cons (pe_glob (v := .ref fO) (by rfl) gO rfl) pa_nil)))) (pg_tup rfl (pgs_cons (pg_name (i := 2) sc_Reader_read.nd rfl (Or.inl rfl)) (pgs_cons (pg_name (i := 3) sc_Reader_read.nd rfl (Or.inl rfl)) pgs_nil))))
      (pss_one (ps_ret (pe_makeV MK GI (hr.mono (by decide)) (pv 0) bI (passes_call (takes_of rfl rfl rfl rfl) (fun _ _ _ _ z => z)) (pa_cons (pv 2) (pa_cons (pv 3) pa_nil)))))), ?_⟩
    refine ⟨_, rfl, v, rfl, ?_⟩
    rcases h with ⟨hn, q⟩ | ⟨t, rfl, ht, hlow, q⟩
    · exact Or.inl ⟨hn, q⟩
    refine Or.inr ⟨t, rfl, ht, hlow, ?_⟩
    cases hp : pageM t with
    | inr k =>
      rw [hp] at q
      exact q
    | inl a =>
      obtain ⟨sg, ns⟩ := a
      rw [hp] at q
      dsimp only at q ⊢
      have po := page_ok hp ht
      intro H1 T1 na s1 hT1 hna
      refine ⟨T1, _, rfl, hT1, rfl, _, _, rfl, _, _, rfl, rfl, ?_⟩
      refine ⟨_, rfl, rfl, _, rfl, _, rfl, fun x dx hx hdx hne => ?_⟩
      obtain ⟨xs, hz, hall⟩ := hna
      refine mk_any (.tup hz (nds_dg hall)) (by have := po.sgl; omega) po.wt po.due hx hdx hne fun H2 s2 hrd => ⟨rfl, q H2 x na (s1.trans s2) hrd ⟨xs, Same.tup s2 hz, hall.same s2⟩⟩
end
end Lw

namespace Lw
open PySem PySem.Spec PyProof.Rows L2 Mq
open SX (S)
open TL (numL)
/-! ### the law's own text of a reader -/
def tsOf : Nd → List Nat
  | .reads _ ts => ts
  | _ => []
def bareOf : Nd → List (List Nat)
  | .none => []
  | .stops w => [orDash w]
  | .reads b _ => [optL b]
def headOf : Nd → List Nat
  | .none => noneL
  | .stops _ => stopsL
  | .reads _ _ => readsL
theorem nodeW_is (n : Nd) : ([headOf n] ++ bareOf n) ++ (tsOf n).map numL = nodeW n := by cases n <;> rfl
theorem ndV_drop (n : Nd) : (ndV n).drop 2 = intsV (tsOf n) := by cases n <;> rfl
theorem ts_sz {n : Nd} (h : NdSz n) : (tsOf n).length ≤ 30 ∧ ∀ t ∈ tsOf n, t ≤ 1000 := by
  cases n with
  | none => exact ⟨Nat.zero_le _, fun _ h => by cases h⟩
  | stops w => exact ⟨Nat.zero_le _, fun _ h => by cases h⟩
  | reads b ts => exact h.2
theorem ndV_head (n : Nd) : atI (ndV n) 0 = some (.str (S (headOf n))) := by
  cases n with
  | none => exact atI_nat (j := 0) rfl
  | stops w => exact atI_nat (j := 0) rfl
  | reads b ts => exact atI_nat (j := 0) rfl
def tBare3 (K : PySem.W.Frag) : TE := fun σ H Q => ∃ p n, σ[3]? = some (some (.ref p)) ∧ SqT K H p (ndV n) ∧ NdSz n ∧ ∀ H' q, Same H H' → H q = none → H' q = some (.lst (txs (bareOf n))) → Q (.ref q) H'
def tNums (K : PySem.W.Frag) : TE := fun σ H Q => ∃ (o0 o1 o2 : Option V) (p : Addr) (o4 o5 : Option V) (n : Nd), σ = [o0, o1, o2, some (.ref p), o4, o5] ∧ SqT K H p (ndV n) ∧ NdSz n ∧ ∀ H' q, Same H H' → H q = none → H' q = some (.lst (txs ((tsOf n).map numL))) → Q (.ref q) H'
def spPage (K : PySem.W.Frag) : Sp := fun vs H Q _ => ∃ (na : Addr) (sg : List Nat) (ns : List Nd), vs = [.str (S sg), .ref na] ∧ NodesAt K H na ns ∧ (∀ n ∈ ns, NdSz n) ∧ ns.length ≤ 100 ∧ sg.length ≤ 100 ∧ ∀ H', Same H H' → Q (.str (S (pageT sg ns))) H'
section
variable {P : Program} {w : World} {K : PySem.W.Frag} {mg : Str → Option Value} {base : Heap}
theorem ok_page {f : Addr} {fd : FuncData} (F : Fun K "_law_page" "_law_page" s__law_page f fd) (B : Blt mg) : FnOk P w K mg base CX0 1 f fd ["_law_signs", "_law_nodes_here"] (spPage K) := by
  refine F.ok sc__law_page (fun vs H Q E h => ?_) (fun cdv A outer s H vs Q E hr h => ?_)
  · obtain ⟨_, _, _, rfl, _⟩ := h
    rfl
  · obtain ⟨na, sg, ns, rfl, ⟨xs, hz, hall⟩, hsz, hfew, hsg, q⟩ := h
    refine ⟨_, (pss_cons (ps_set (i := 2) sc__law_page.nd rfl (Or.inl rfl) (Mq.pe_ls (pa_cons (pe_op op_add_str pe_str (pv 0)) pa_nil)))
      (pss_cons (ps_for PassesOwn.never rfl (pi_tup (pv 1)) (pg_name (i := 3) sc__law_page.nd rfl (Or.inl rfl))
        (pss_cons (ps_set (i := 4) sc__law_page.nd rfl (Or.inl rfl) (PE_imp (t' := tBare3 K) (pe_ifExp (pt_cmpR op_gt (pe_callB call_len_seq (by rfl) B.len (by decide +kernel) (pa_cons (pv 3) pa_nil)) pe_int (nomark _)) (Mq.pe_ls (pa_cons (pe_ifExp (pt_cmpR op_isN (pe_ix ix_tup (pv 3) pe_int (fun _ _ => rfl)) pe_non (nomark _)) pe_str (pe_ifExp (pt_cmpR op_ne (pe_ix ix_tup (pv 3) pe_int (fun _ _ => rfl)) pe_str (nomark _)) (pe_ix ix_tup (pv 3) pe_int (fun _ _ => rfl)) pe_str)) pa_nil)) (Mq.pe_ls pa_nil)) (fun σ H Q h => by
            obtain ⟨p, n, h3, hp, hsz, q⟩ := h
            refine ⟨_, h3, p, _, rfl, .inr hp, _, _, rfl, rfl, _, rfl, ?_⟩
            cases n with
            | none => exact ifF (by decide) ⟨sz_le (n := 0) (by decide), fun r hr _ => q _ r (same_new hr) hr upd_same⟩
            | stops w =>
              refine ifT rfl ⟨_, h3, p, _, 1, _, rfl, rfl, hp, atI_nat (j := 1) rfl, rfl, _, rfl, ifF rfl ⟨_, h3, p, _, 1, _, rfl, rfl, hp, atI_nat (j := 1) rfl, rfl, _, rfl, ?_⟩⟩
              rw [str_is_nil]
              have q : ∀ H' r, Same H H' → H r = none → H' r = some (.lst (txs [orDash w])) → Q (.ref r) H' := q
              unfold orDash at q
              by_cases e : w = []
              · rw [if_pos e] at q
                rw [decide_eq_true e]
                exact ifF rfl ⟨sz_le (n := 1) (by decide), fun r hr _ => q _ r (same_new hr) hr upd_same⟩
              · rw [if_neg e] at q
                rw [decide_eq_false e]
                exact ifT rfl ⟨_, h3, p, _, 1, _, rfl, rfl, hp, atI_nat (j := 1) rfl, sz_le (n := 1) (by decide), fun r hr _ => q _ r (same_new hr) hr upd_same⟩
            | reads b ts =>
              refine ifT (decide_eq_true (by show (1 : Int) < ((ndV (.reads b ts)).length : Nat); unfold ndV; rw [List.length_cons, List.length_cons]; omega)) ⟨_, h3, p, _, 1, optV b, rfl, rfl, hp, atI_nat (j := 1) rfl, rfl, _, rfl, ?_⟩
              cases b with
              | none => exact ifT rfl ⟨sz_le (n := 1) (by decide), fun r hr _ => q _ r (same_new hr) hr upd_same⟩
              | some w =>
                refine ifF rfl ⟨_, h3, p, _, 1, .str (S w), rfl, rfl, hp, atI_nat (j := 1) rfl, rfl, _, rfl, ?_⟩
                rw [str_is_nil]
                have q : ∀ H' r, Same H H' → H r = none → H' r = some (.lst (txs [orDash w])) → Q (.ref r) H' := q
                unfold orDash at q
                by_cases e : w = []
                · rw [if_pos e] at q
                  rw [decide_eq_true e]
                  exact ifF rfl ⟨sz_le (n := 1) (by decide), fun r hr _ => q _ r (same_new hr) hr upd_same⟩
                · rw [if_neg e] at q
                  rw [decide_eq_false e]
                  exact ifT rfl ⟨_, h3, p, _, 1, .str (S w), rfl, rfl, hp, atI_nat (j := 1) rfl, sz_le (n := 1) (by decide), fun r hr _ => q _ r (same_new hr) hr upd_same⟩)))
        (pss_one (ps_expr (pe_bm PySem.F.plainAttrs_list PySem.F.slot_list_append PySem.F.type_list_append mt_append (pv 2) (pa_cons (pe_join pe_str (pe_op op_cat (pe_op op_cat (Mq.pe_ls (pa_cons (pe_ix ix_tup (pv 3) pe_int (fun _ _ => rfl)) pa_nil)) (pv 4)) (PE_imp (t' := tNums K) (pe_lc (own := [("_law_t", 5)]) (g := gName 5) (tt := tYes) rfl sc__law_page.nd (pi_tup (pe_slice sl_tup (pv 3) (po_some pe_int) po_none)) (blkOk_by (own := [("_law_t", 5)]) (N := ["_law_signs", "_law_nodes_here", "_law_lines", "_law_it", "_law_bare", "_law_t"]) (sc := defScope s__law_page) (by decide +kernel)) (fun _ _ _ _ _ => pg_name (i := 5) sc__law_page.nd rfl (Or.inl rfl)) (fun _ _ _ _ _ => pts_nil) (fun _ _ _ _ _ => (pe_callTy call_str_int (by rfl) B.str (by decide +kernel) (pa_cons (pv 5) pa_nil)))) (fun σ H Q h => by
            obtain ⟨o0, o1, o2, p, o4, o5, n, rfl, hp, hsz, q⟩ := h
            obtain ⟨tl, tm⟩ := ts_sz hsz
            refine ⟨_, rfl, 2, rfl, p, _, rfl, hp, ?_, fun p2 hp2 => ?_⟩
            · rintro ⟨z, _⟩
              have z : HT.sIx (ndV n).length 0 (some ((2 : Nat) : Int)) = 0 := z
              rw [HT.sIx_nat] at z
              cases n with
              | none => cases z
              | stops w => cases z
              | reads b ts =>
                unfold ndV at z
                rw [List.length_cons, List.length_cons] at z
                omega
            · rw [show cutV (ndV n) (some 2) none = intsV (tsOf n) from (cut_back _ 2).trans (ndV_drop n)]
              have hil : (intsV (tsOf n)).length = (tsOf n).length := intsV_len _
              have s2 := same_new (o := HO.tup (intsV (tsOf n))) hp2
              have z2 : SqT K (upd H p2 (.tup (intsV (tsOf n)))) p2 (intsV (tsOf n)) := Or.inl (Or.inl upd_same)
              generalize upd H p2 (.tup (intsV (tsOf n))) = H2 at s2 z2 ⊢
              refine ⟨_, rfl, ⟨_, z2⟩, fun D hD => ?_⟩
              refine lc_yes (walk_tup (K := K) (a := p2) (xs := intsV (tsOf n))) (fun i H' => Same H2 H' ∧ H' D = some (.lst (txs (((tsOf n).take i).map numL)))) ⟨same_new hD, upd_same⟩ (fun _ _ _ pp => Same.tup pp.1 z2) ?_ ?_
              · rintro j x H3 H4 hj ⟨s3, zD⟩ ⟨rfl, hx⟩
                rw [hil] at hj
                have hx' : (intsV (tsOf n))[j]? = some x := hx
                unfold intsV at hx'
                rw [List.getElem?_map, List.getElem?_eq_getElem hj] at hx'
                cases hx'
                refine ⟨rfl, _, rfl, _, rfl, log_small (tm _ (List.getElem_mem hj)), _, zD, sz_lt (by rw [List.length_map, List.length_map, List.length_take]; omega), push_same hD s3, ?_⟩
                rw [upd_same, List.take_add_one, List.getElem?_eq_getElem hj, List.map_append, SX.num_S]
                exact congrArg (fun z => some (HO.lst z)) (List.map_append (f := fun l : List Nat => V.str (S l)) (l₁ := ((tsOf n).take j).map numL) (l₂ := [numL (tsOf n)[j]])).symm
              · rintro H3 ⟨s3, zD⟩
                rw [hil, List.take_length] at zD
                exact q H3 D (s2.trans s3) (none_of s2 hD) zD)))) pa_nil))))))
      (pss_one (ps_ret (pe_join pe_str (pv 2)))))), ?_⟩
    have l0 : (("reader " : Str) ++ S sg).length ≤ 107 := app_le (m := 7) (n := 100) (by decide) (S_le hsg)
    have e : ("reader " : Str) ++ S sg = S (readerL ++ [32] ++ sg) := by
      rw [show ("reader " : Str) = S (readerL ++ [32]) by decide +kernel, SX.S_cat]
    refine ⟨_, rfl, "reader ", S sg, rfl, rfl, sz_le (by rw [SX.S_len]; show 7 + sg.length ≤ _; omega), sz_le (n := 1) (by decide), fun L hL _ => ?_⟩
    rw [e]
    have s1 := same_new (o := HO.lst [V.str (S (readerL ++ [32] ++ sg))]) hL
    have z1 : upd H L (.lst [V.str (S (readerL ++ [32] ++ sg))]) L = some (.lst (txs [readerL ++ [32] ++ sg])) := upd_same
    generalize upd H L (.lst [V.str (S (readerL ++ [32] ++ sg))]) = H1 at s1 z1 ⊢
    have hxl : xs.length = ns.length := hall.len
    refine ⟨_, rfl, na, rfl, ⟨_, Same.tup s1 hz⟩, ?_⟩
    refine for_it (walk_tup (K := K) (a := na) (xs := xs)) (fun i σ H' => Same H H' ∧ H' L = some (.lst (txs ((readerL ++ [32] ++ sg) :: (ns.take i).map nodeT))) ∧ ∃ o3 o4 o5, σ = [some (.str (S sg)), some (.ref na), some (.ref L), o3, o4, o5])
      ⟨s1, z1, _, _, _, rfl⟩ (fun i σ H' _ pp => Same.tup pp.1 hz) ?_ ?_
    · rintro i x σ H2 H2' hi ⟨s2, zL, o3, o4, o5, rfl⟩ ⟨rfl, hx⟩
      obtain ⟨n, hn, p, rfl, hp⟩ := hall.at hx
      have hsn := hsz n (List.mem_of_getElem? hn)
      have hp2 := Same.tup s2 hp
      refine ⟨p, n, rfl, hp2, hsn, fun H3 bq s3 _ zb => ?_⟩
      have hp3 := Same.tup s3 hp2
      have zL := s3 _ _ zL
      have s3' := s2.trans s3
      refine ⟨_, rfl, Or.inl ⟨rfl, _, SqL.of zL⟩, ⟨_, rfl⟩, _, rfl, p, _, 0, _, rfl, rfl, hp3, ndV_head n, sz_le (n := 1) (by decide), fun p1 hp1 _ => ?_⟩
      have t4 := same_new (o := HO.lst [V.str (S (headOf n))]) hp1
      have z4 : upd H3 p1 (.lst [V.str (S (headOf n))]) p1 = some (.lst (txs [headOf n])) := upd_same
      have zL := t4 _ _ zL
      have zb := t4 _ _ zb
      have hp4 := Same.tup t4 hp3
      have s4 := s3'.trans t4
      generalize upd H3 p1 (.lst [V.str (S (headOf n))]) = H4 at z4 zL zb hp4 s4 ⊢
      have hbl : (bareOf n).length ≤ 1 := by cases n <;> first | exact Nat.zero_le _ | exact Nat.le_refl _
      obtain ⟨tl, _⟩ := ts_sz hsn
      refine ⟨_, rfl, p1, bq, _, _, rfl, rfl, z4, zb, sz_le (by rw [List.length_map, List.length_map]; show 1 + _ ≤ _; omega), fun p2 hp2 => ?_⟩
      have t5 := same_new (o := HO.lst (txs [headOf n] ++ txs (bareOf n))) hp2
      have z5 : upd H4 p2 (.lst (txs [headOf n] ++ txs (bareOf n))) p2 = some (.lst (txs ([headOf n] ++ bareOf n))) := by
        rw [upd_same]
        exact congrArg (fun z => some (HO.lst z)) (List.map_append (f := fun l : List Nat => V.str (S l)) (l₁ := [headOf n]) (l₂ := bareOf n)).symm
      have zL := t5 _ _ zL
      have hp5 := Same.tup t5 hp4
      have s5 := s4.trans t5
      generalize upd H4 p2 (.lst (txs [headOf n] ++ txs (bareOf n))) = H5 at z5 zL hp5 s5 ⊢
      refine ⟨_, _, _, p, _, _, n, rfl, hp5, hsn, fun H6 D t6 _ zD => ?_⟩
      have zL := t6 _ _ zL
      have z5 := t6 _ _ z5
      have s6 := s5.trans t6
      refine ⟨p2, D, _, _, rfl, rfl, z5, zD, sz_le (by rw [List.length_map, List.length_map, List.length_map, List.length_append]; show 1 + _ + _ ≤ _; omega), fun p3 hp3 => ?_⟩
      have t7 := same_new (o := HO.lst (txs ([headOf n] ++ bareOf n) ++ txs ((tsOf n).map numL))) hp3
      have z7 : upd H6 p3 (.lst (txs ([headOf n] ++ bareOf n) ++ txs ((tsOf n).map numL))) p3 = some (.lst (txs (nodeW n))) := by
        rw [upd_same, ← nodeW_is n]
        exact congrArg (fun z => some (HO.lst z)) (List.map_append (f := fun l : List Nat => V.str (S l)) (l₁ := [headOf n] ++ bareOf n) (l₂ := (tsOf n).map numL)).symm
      have zL := t7 _ _ zL
      have s7 := s6.trans t7
      generalize upd H6 p3 (.lst (txs ([headOf n] ++ bareOf n) ++ txs ((tsOf n).map numL))) = H7 at z7 zL s7 ⊢
      refine ⟨S [32], p3, (nodeW n).map S, rfl, rfl, Or.inl (SqL.of (z7.trans (by rw [map_SV]))), ?_, ?_⟩
      · rw [join_bound]
        exact Nat.le_trans (nodeW_sum hsn) (by decide)
      · rw [SX.join_S]
        refine ⟨L, _, _, rfl, rfl, zL, sz_lt (by rw [List.length_map, List.length_cons, List.length_map, List.length_take]; omega), push_same hL s7, ?_, _, _, _, rfl⟩
        rw [upd_same, List.take_add_one, hn, List.map_append]
        exact congrArg (fun z => some (HO.lst z)) (List.map_append (f := fun l : List Nat => V.str (S l)) (l₁ := (readerL ++ [32] ++ sg) :: (ns.take i).map nodeT) (l₂ := [nodeT n])).symm
    · rintro σ H2 ⟨s2, zL, o3, o4, o5, rfl⟩
      rw [hxl, List.take_length] at zL
      refine ⟨⟨_, rfl⟩, _, rfl, S [10], L, ((readerL ++ [32] ++ sg) :: ns.map nodeT).map S, rfl, rfl, Or.inl (SqL.of (zL.trans (by rw [map_SV]))), ?_, ?_⟩
      · rw [join_bound]
        have h5 := lines_sum hsz
        show ((readerL ++ [32] ++ sg).length + 1) + sumL (ns.map nodeT) ≤ _
        rw [List.length_append, List.length_append]
        show (6 + 1 + sg.length + 1) + _ ≤ _
        omega
      · rw [SX.join_S]
        exact q _ s2
end
end Lw

namespace Lw
open PySem PySem.Spec PyProof.Rows L2 Mq
open SX (S)
/-! ### the law's own numbers -/
theorem val_low (b : Nat) : ∀ (l : List Nat) (a : Nat), a * 10 ^ l.length ≤ l.foldl (fun acc c => acc * 10 + (c - 48)) a
  | [], a => by simp
  | c :: l, a => by
    have h := val_low b l (a * 10 + (c - 48))
    refine Nat.le_trans ?_ h
    rw [List.length_cons, Nat.pow_succ]
    have : a * 10 ≤ a * 10 + (c - 48) := Nat.le_add_right _ _
    calc a * (10 ^ l.length * 10) = (a * 10) * 10 ^ l.length := by rw [Nat.mul_comm (10 ^ l.length) 10, Nat.mul_assoc]
      _ ≤ (a * 10 + (c - 48)) * 10 ^ l.length := Nat.mul_le_mul_right _ this
theorem num_big {w : List Nat} (h : numB w = true) (hl : 5 ≤ w.length) : 10000 ≤ NumText.digitsVal w := by
  unfold numB at h
  obtain ⟨h1, h⟩ := Bool.and_eq_true_iff.mp h
  obtain ⟨h2, h3⟩ := Bool.and_eq_true_iff.mp h
  have hd := List.all_eq_true.mp (dig_all h2)
  match w, hl, hd, h3 with
  | c :: l, hl, hd, h3 =>
    have hc := hd c List.mem_cons_self
    obtain ⟨c1, c2⟩ := Bool.and_eq_true_iff.mp hc
    have c1 := of_decide_eq_true c1
    have hc0 : c ≠ 48 := by
      rintro rfl
      have e2 : decide (48 :: l = [48]) = false := decide_eq_false fun e => by
        injection e with _ e
        subst e
        exact absurd hl (by decide)
      rw [show (48 :: l).getD 0 0 = 48 from rfl, e2] at h3
      cases h3
    have h4 := val_low 0 l (0 * 10 + (c - 48))
    rw [List.length_cons] at hl
    have h5 : 10 ^ 4 ≤ 10 ^ l.length := Nat.pow_le_pow_right (by decide) (by omega)
    have h6 : 1 * 10 ^ l.length ≤ (0 * 10 + (c - 48)) * 10 ^ l.length := Nat.mul_le_mul_right _ (by omega)
    show 10000 ≤ (c :: l).foldl (fun acc c => acc * 10 + (c - 48)) 0
    rw [List.foldl_cons]
    omega
def lawN (m : Nat) (w : List Nat) : Option Nat := if numB w = true then (if (decide (w.length < 5) && decide (NumText.digitsVal w < m)) = true then some (NumText.digitsVal w) else none) else none
theorem lawN_is {m : Nat} {w : List Nat} (hm : m ≤ 10000) : lawN m w = rdN m w := by
  unfold lawN rdN numM
  cases e : numB w with
  | false =>
    rw [if_neg (by decide)]
    cases decide (w.length ≤ 12) <;> rfl
  | true =>
    rw [if_pos rfl, if_pos rfl]
    dsimp only
    by_cases h : w.length < 5
    · rw [decide_eq_true h, decide_eq_true (show w.length ≤ 12 by omega), Bool.true_and, if_pos rfl]
    · have hb := num_big e (by omega)
      rw [decide_eq_false h, decide_eq_false (show ¬ NumText.digitsVal w < m by omega)]
      cases decide (w.length ≤ 12) <;> rfl
def tBadNum2 : TT := fun σ H Q => ∃ w o1 o, σ = [some (.str (S w)), o1, o] ∧ w.length ≤ 100000 ∧ LowL w ∧ ∀ H', Same H H' → Q (!numB w) H'
def spNumber : Sp := fun vs H Q _ => ∃ (w : List Nat) (m : Nat), vs = [.str (S w), .int (m : Nat)] ∧ w.length ≤ 100000 ∧ LowL w ∧ m ≤ 10000 ∧ ∀ H', Same H H' → Q (optN (rdN m w)) H'
theorem one_long {w : List Nat} (h : w ≠ []) : (decide (1 < w.length) && decide (w.getD 0 0 = 48)) = (decide (w.getD 0 0 = 48) && !decide (w = [48])) := by
  match w, h with
  | [c], _ =>
    show (decide (1 < 1) && decide (c = 48)) = (decide (c = 48) && !decide ([c] = [48]))
    by_cases e : c = 48
    · subst e
      rfl
    · rw [decide_eq_false e]
      rfl
  | a :: b :: r, _ =>
    rw [decide_eq_true (show 1 < (a :: b :: r).length by simp only [List.length_cons]; omega), decide_eq_false (show a :: b :: r ≠ [48] from fun e => by injection e with _ e; cases e)]
    simp
section
variable {P : Program} {w : World} {K : PySem.W.Frag} {mg : Str → Option Value} {base : Heap}
theorem ok_number {f : Addr} {fd : FuncData} (F : Fun K "_law_number" "_law_number" s__law_number f fd) (B : Blt mg) :
    FnOk P w K mg base CX0 1 f fd ["_law_word_here", "_law_below"] spNumber := by
  refine F.ok sc__law_number (fun vs H Q E h => ?_) (fun cdv A outer s H vs Q E hr h => ?_)
  · obtain ⟨_, _, rfl, _⟩ := h
    rfl
  · obtain ⟨w, m, rfl, hw, hlow, hm, q⟩ := h
    have hu : (A.deeper (envOfC "_law_number" (defScope s__law_number) s.heap.objs.size f cdv)).units + 64 < cLine := by
      have := hr.units
      omega
    refine ⟨_, (pss_cons (ps_if (PT_imp (t' := tBadNum2) (PW.pt (pw_or (pt_cmpR op_eq (pv 0) pe_str (nomark _)) (pw_or (pt_cmpR (op_neD hu) (pe_lc (own := [("_law_x", 2)]) (g := gName 2) rfl sc__law_number.nd (pi_str (pv 0)) (blkOk_by (own := [("_law_x", 2)]) (N := ["_law_word_here", "_law_below", "_law_x"]) (sc := defScope s__law_number) (by decide +kernel)) (fun _ _ _ _ _ => pg_name (i := 2) sc__law_number.nd rfl (Or.inl rfl)) (fun _ _ _ _ _ => pts_one (pt_cmpR op_notIn_sign (pv 2) pe_str rfl)) (fun _ _ _ _ _ => (pv 2))) (Mq.pe_ls pa_nil) (nomark _)) (pw_or1 (PW.pt (pw_and (pt_cmpR op_gt (pe_callB call_len (by rfl) B.len (by decide +kernel) (pa_cons (pv 0) pa_nil)) pe_int (nomark _)) (pw_and1 (pt_cmpR op_eq (pe_ix ix_str (pv 0) pe_int (fun _ _ => rfl)) pe_str (nomark _))))))))) (fun σ H Q h => by
        obtain ⟨w, o1, o, rfl, hw, hlow, q⟩ := h
        unfold numB at q
        refine ⟨_, rfl, rfl, _, rfl, ?_⟩
        rw [str_is_nil]
        cases e0 : decide (w = []) with
        | true =>
          rw [e0] at q
          exact ifT rfl (q H (Same.refl H))
        | false =>
          rw [e0] at q
          have hne := of_decide_eq_false e0
          have hpos : 0 < w.length := pos_of hne
          refine ifF rfl ?_
          refine ⟨_, rfl, S w, rfl, fun L hL => ?_⟩
          refine lc_it (walk_S w) (fun i H' => Same H H' ∧ H' L = some (.lst ((((List.range i).filter fun k => !inB (w.getD k 0) digs)).map fun k => .str (S [w.getD k 0])))) ⟨same_new hL, upd_same⟩ (fun _ _ _ _ => trivial) ?_ ?_
          · rintro i x H2 H3 hi ⟨s2, hL2⟩ ⟨rfl, rfl⟩
            refine ⟨rfl, _, rfl, ?_⟩
            rw [digs_is]
            refine ⟨w.getD i 0, S digs, rfl, rfl, ?_⟩
            have er : ((List.range (i + 1)).filter fun k => !inB (w.getD k 0) digs) = ((List.range i).filter fun k => !inB (w.getD k 0) digs) ++ (if (!inB (w.getD i 0) digs) = true then [i] else []) := by
              rw [List.range_succ, List.filter_append]
              congr 1
              by_cases hb : (!inB (w.getD i 0) digs) = true
              · rw [if_pos hb]
                show List.filter _ [i] = [i]
                rw [List.filter_cons, if_pos hb]
                rfl
              · rw [if_neg hb, List.filter_cons, if_neg hb]
                rfl
            have hlen : ((List.range i).filter fun k => !inB (w.getD k 0) digs).length ≤ i := by
              have := List.length_filter_le (fun k => !inB (w.getD k 0) digs) (List.range i)
              rw [List.length_range] at this
              exact this
            by_cases hb : (!inB (w.getD i 0) digs) = true
            · rw [if_pos hb] at er
              refine ⟨_, rfl, ifT hb ?_⟩
              refine ⟨_, rfl, _, hL2, sz_lt (by rw [List.length_map]; omega), push_same hL s2, ?_⟩
              rw [upd_same, er, List.map_append]
              rfl
            · rw [if_neg hb, List.append_nil] at er
              refine ⟨_, rfl, ifF (Bool.eq_false_iff.mpr hb) ⟨s2, ?_⟩⟩
              rw [er]
              exact hL2
          · rintro H2 ⟨s2, hL2⟩
            refine ⟨sz_le (n := 0) (by decide), fun p hp _ => ?_⟩
            have sp := same_new (o := HO.lst []) hp
            refine ⟨_, _, .lst (SqL.of (sp _ _ hL2)) (dp_signs (fun k => S [w.getD k 0]) _), .lst (SqL.of upd_same) .nil, shaped_signs _ _ ?_, by decide +kernel, ?_⟩
            · intro k hk
              have hk' := List.mem_range.mp (List.mem_filter.mp hk).1
              exact sign_ok (Nat.lt_trans (hlow _ (getD_mem hk')) (by decide))
            rw [eqv_nil]
            have ed : digB w = ((List.range w.length).filter fun k => !inB (w.getD k 0) digs).isEmpty := rfl
            rw [← ed]
            have s3 : Same H (upd H2 p (.lst [])) := s2.trans sp
            generalize upd H2 p (.lst []) = H3 at s3 ⊢
            cases e1 : digB w with
            | false =>
              rw [e1] at q
              exact ⟨_, rfl, ifT rfl (q H3 s3)⟩
            | true =>
              rw [e1] at q
              have q1 := q H3 s3
              rw [← one_long hne] at q1
              refine ⟨_, rfl, ifF rfl ⟨_, rfl, _, _, rfl, len_S (by omega), _, _, rfl, rfl, _, rfl, ?_⟩⟩
              rw [show decide ((1 : Int) < (w.length : Int)) = decide (1 < w.length) from decide_eq_decide.mpr (by omega)]
              cases e2 : decide (1 < w.length) with
              | false =>
                rw [e2] at q1
                exact ifF rfl q1
              | true =>
                rw [e2] at q1
                refine ifT rfl ⟨_, rfl, S w, 0, w.getD 0 0, rfl, rfl, sz_le (by rw [SX.S_len]; omega), at_get (l := w) (k := 0) hpos, rfl, _, rfl, ?_⟩
                rw [show decide (V.str (S [w.getD 0 0]) = V.str "0") = decide (w.getD 0 0 = 48) from (S_dec [w.getD 0 0] [48]).trans (decide_eq_decide.mpr ⟨fun h => by injection h, fun h => by rw [h]⟩)]
                rw [show (!(!false && (true && !(true && decide (w.getD 0 0 = 48))))) = decide (w.getD 0 0 = 48) by cases decide (w.getD 0 0 = 48) <;> rfl] at q1
                exact q1)) (pss_one (ps_ret pe_non)) pss_nil)
      (pss_one (ps_ret (pe_ifExp (PW.pt (pw_and (pt_cmpR op_lt (pe_callB call_len (by rfl) B.len (by decide +kernel) (pa_cons (pv 0) pa_nil)) pe_int (nomark _)) (pw_and1 (pt_cmpR op_lt (pe_callTy call_int_str (by rfl) B.int (by decide +kernel) (pa_cons (pv 0) pa_nil)) (pv 1) (nomark _))))) (pe_callTy call_int_str (by rfl) B.int (by decide +kernel) (pa_cons (pv 0) pa_nil)) pe_non)))), ?_⟩
    refine ⟨w, _, _, rfl, hw, hlow, fun H1 s1 => ?_⟩
    rw [← lawN_is hm] at q
    unfold lawN at q
    cases e : numB w with
    | false =>
      rw [e] at q
      exact ifT rfl (q H1 s1)
    | true =>
      rw [e, if_pos rfl] at q
      refine ifF rfl ⟨_, rfl, _, _, rfl, len_S hw, _, _, rfl, rfl, _, rfl, ?_⟩
      by_cases h : w.length < 5
      · rw [decide_eq_true h, Bool.true_and] at q
        have hl : (S w).length ≤ 640 := by
          rw [SX.S_len]
          omega
        refine ifT (decide_eq_true (by omega)) ⟨_, rfl, S w, _, rfl, num_int e (by omega), hl, _, rfl, _, _, rfl, rfl, _, rfl, ?_⟩
        have e2 : decide (((NumText.digitsVal w : Nat) : Int) < ((m : Nat) : Int)) = decide (NumText.digitsVal w < m) := decide_eq_decide.mpr ⟨fun h => by omega, fun h => by omega⟩
        rw [e2]
        cases e3 : decide (NumText.digitsVal w < m) with
        | true =>
          rw [e3] at q
          exact ifT rfl ⟨_, rfl, S w, _, rfl, num_int e (by omega), hl, q H1 s1⟩
        | false =>
          rw [e3] at q
          exact ifF rfl (q H1 s1)
      · rw [decide_eq_false h, Bool.false_and] at q
        exact ifF (decide_eq_false (by omega)) (ifF rfl (q H1 s1))
end
end Lw

namespace Lw
open PySem PySem.Spec PyProof.Rows L2 Mq
open SX (S)
/-! ### the law's own look at a line -/
theorem get_bare (w1 : List Nat) : (valV [((Sum.inr "-" : Key), V.str ""), (Sum.inr "!", V.non)] (Sum.inr (S w1))).getD (V.str (S w1)) = optV (bareM (toldM w1)) := by
  by_cases h1 : w1 = [45]
  · subst h1
    rfl
  · by_cases h2 : w1 = [33]
    · subst h2
      rfl
    · have e1 : decide ((Sum.inr "-" : Key) = Sum.inr (S w1)) = false := decide_eq_false fun z => h1 (SX.S_inj (a := w1) (b := [45]) (Sum.inr.inj z).symm)
      have e2 : decide ((Sum.inr "!" : Key) = Sum.inr (S w1)) = false := decide_eq_false fun z => h2 (SX.S_inj (a := w1) (b := [33]) (Sum.inr.inj z).symm)
      have e3 : toldM w1 = w1 := by
        unfold toldM
        rw [decide_eq_false h1]
        rfl
      have e4 : bareM w1 = some w1 := by
        unfold bareM
        rw [decide_eq_false h2]
        rfl
      rw [e3, e4]
      unfold valV
      rw [List.find?_cons, List.find?_cons]
      show (Option.map _ (match decide ((Sum.inr "-" : Key) = Sum.inr (S w1)) with | true => _ | false => (match decide ((Sum.inr "!" : Key) = Sum.inr (S w1)) with | true => _ | false => _))).getD (V.str (S w1)) = _
      rw [e1, e2]
      rfl
theorem inV_dash (w : List Nat) : inV (.str (S w)) [.str "-", .str "!"] = (decide (w = [45]) || decide (w = [33])) := by
  show (eqV (V.str (S [45])) (V.str (S w)) || (eqV (V.str (S [33])) (V.str (S w)) || false)) = _
  rw [Bool.or_false]
  have e : ∀ a : List Nat, eqV (V.str (S a)) (V.str (S w)) = decide (w = a) := by
    intro a
    show decide (S a = S w) = _
    exact decide_eq_decide.mpr ⟨fun h => (SX.S_inj h).symm, fun h => by rw [h]⟩
  rw [e, e]
/-- the first word behind the head may stand there -/
def okW (sg w1 : List Nat) : Bool := (decide (w1 = [45]) || decide (w1 = [33])) || allB w1 sg
theorem allB_mem {l s : List Nat} (h : allB l s = true) : ∀ c ∈ l, c ∈ s := by
  intro c hc
  obtain ⟨i, hi, rfl⟩ := List.mem_iff_getElem.mp hc
  unfold allB at h
  rw [List.all_map, List.all_eq_true] at h
  have h4 := h i (List.mem_range.mpr hi)
  have h5 : l.getD i 0 ∈ s := of_decide_eq_true h4
  rw [List.getD_eq_getElem?_getD, List.getElem?_eq_getElem hi] at h5
  exact h5
theorem no33 {sg : List Nat} (h : lettersB sg = true) : allB [33] sg = false := by
  cases e : allB [33] sg with
  | false => rfl
  | true =>
    have h1 := allB_mem e 33 (by simp)
    have h2 := alpha_low ((letters_alpha h).2 33 h1)
    omega
theorem okW_is {sg w1 : List Nat} : okW sg w1 = (decide (toldM w1 = [33]) || allB (toldM w1) sg) := by
  unfold okW
  by_cases h1 : w1 = [45]
  · subst h1
    show ((true || _) || _) = (decide (([] : List Nat) = [33]) || true)
    rw [Bool.true_or, Bool.true_or, Bool.or_true]
  · have e3 : toldM w1 = w1 := by
      unfold toldM
      rw [decide_eq_false h1]
      rfl
    rw [e3, decide_eq_false h1, Bool.false_or]
theorem stops_is2 {sg w1 : List Nat} (hs : lettersB sg = true) (h : okW sg w1 = true) : allB (toldM w1) sg = !decide (toldM w1 = [33]) := by
  rw [okW_is] at h
  cases e : decide (toldM w1 = [33]) with
  | true =>
    rw [of_decide_eq_true e]
    exact no33 hs
  | false =>
    rw [e] at h
    exact h
def badW (sg : List Nat) : List (List Nat) → Bool
  | _ :: w1 :: _ => decide (w1 = []) || !okW sg w1
  | _ => true
def tBadW (K : PySem.W.Frag) : TT := fun σ H Q => ∃ p ws sg, σ[3]? = some (some (.ref p)) ∧ σ[0]? = some (some (.str (S sg))) ∧ H p = some (.lst (txs ws)) ∧ (∀ w ∈ ws, w.length ≤ 4000) ∧ ∀ H', Same H H' → Q (badW sg ws) H'
def tBareG (K : PySem.W.Frag) : TE := fun σ H Q => ∃ p ws w1, σ[3]? = some (some (.ref p)) ∧ H p = some (.lst (txs ws)) ∧ ws[1]? = some w1 ∧ ∀ H', Same H H' → Q (optV (bareM (toldM w1))) H'
def spNodeOf (K : PySem.W.Frag) : Sp := fun vs H Q _ => ∃ (sg line : List Nat) (m : Nat), vs = [.str (S sg), .int (m : Nat), .str (S line)] ∧ lettersB sg = true ∧ sg.length ≤ 80000 ∧ line.length ≤ 4000 ∧ LowL line ∧ m ≤ 4001 ∧ ∀ H' v, Same H H' → NodeR K H' (readM sg m line) v → Q v H'
section
variable {P : Program} {w : World} {K : PySem.W.Frag} {mg : Str → Option Value} {base : Heap}
theorem ok_node_of {f fN fW : Addr} {fd fdN fdW : FuncData} (F : Fun K "_law_node_of" "_law_node_of" s__law_node_of f fd) (B : Blt mg)
    (FW : Fun K "_law_is_web" "_law_is_web" s__law_is_web fW fdW) (gW : mg "_law_is_web" = some (.ref fW)) (bW : Binds K fdW ["_law_signs", "_law_it"] [])
    (FN : Fun K "_law_number" "_law_number" s__law_number fN fdN) (gN : mg "_law_number" = some (.ref fN)) (bN : Binds K fdN ["_law_word_here", "_law_below"] []) :
    FnOk P w K mg base CX0 2 f fd ["_law_signs", "_law_size", "_law_line"] (spNodeOf K) := by
  have GW : FnOk P w K mg base CX0 1 fW fdW ["_law_signs", "_law_it"] (spIsWeb K) := ok_is_webL FW B
  have GN : FnOk P w K mg base CX0 1 fN fdN ["_law_word_here", "_law_below"] spNumber := ok_number FN B
  refine F.ok sc__law_node_of (fun vs H Q E h => ?_) (fun cdv A outer s H vs Q E hr h => ?_)
  · obtain ⟨_, _, _, rfl, _⟩ := h
    rfl
  · obtain ⟨sg, line, m, rfl, hlet, hsg, hln, hlow, hm, q⟩ := h
    have hu : (A.deeper (envOfC "_law_node_of" (defScope s__law_node_of) s.heap.objs.size f cdv)).units + 64 < cLine := by
      have := hr.units
      omega
    have hu1 : (A.deeper (envOfC "_law_node_of" (defScope s__law_node_of) s.heap.objs.size f cdv)).units + 1 < cLine := by omega
    refine ⟨_, (pss_cons (ps_set (i := 3) sc__law_node_of.nd rfl (Or.inl rfl) (pe_split (pv 2) pe_str))
      (pss_cons (ps_if (pt_cmpR (op_eqD hu) (pv 3) (Mq.pe_ls (pa_cons pe_str pa_nil)) (nomark _)) (pss_one (ps_ret (pe_tup (pa_cons pe_str pa_nil)))) pss_nil)
      (pss_cons (ps_if (PT_imp (t' := tBadW K) (PW.pt (pw_or (pt_cmpR op_lt (pe_callB call_len_seq (by rfl) B.len (by decide +kernel) (pa_cons (pv 3) pa_nil)) pe_int (nomark _)) (pw_or (pt_cmpR op_eq (pe_ix ix_list (pv 3) pe_int (fun _ _ => rfl)) pe_str (nomark _)) (pw_or1 (PW.pt (pw_and (pt_cmpR op_notIn_seq (pe_ix ix_list (pv 3) pe_int (fun _ _ => rfl)) (pe_tup (pa_cons pe_str (pa_cons pe_str pa_nil))) rfl) (pw_and1 (pt_not (pt_val (pe_call GW (hr.mono (by decide)) (by rfl) gW FW.kp bW .nil pass0 (pa_cons (pv 0) (pa_cons (pe_ix ix_list (pv 3) pe_int (fun _ _ => rfl)) pa_nil)))))))))))) (fun σ H Q h => by
          obtain ⟨p, ws, sg, h3, h0, hp, hw, q⟩ := h
          refine ⟨_, h3, p, _, rfl, .inl (SqL.of hp), _, _, rfl, rfl, _, rfl, ?_⟩
          match ws, hp, hw, q with
          | [], hp, hw, q => exact ifT rfl (q H (Same.refl H))
          | [_], hp, hw, q => exact ifT rfl (q H (Same.refl H))
          | w0 :: w1 :: rest, hp, hw, q =>
            have h1 : atI (txs (w0 :: w1 :: rest)) 1 = some (.str (S w1)) := at_line (i := 1) rfl
            have hlen : (txs (w0 :: w1 :: rest)).length = rest.length + 2 := by rw [List.length_map, List.length_cons, List.length_cons]
            refine ifF (decide_eq_false (by rw [hlen]; omega)) ⟨_, h3, p, _, 1, _, rfl, rfl, SqL.of hp, h1, rfl, _, rfl, ?_⟩
            rw [str_is_nil]
            have q : ∀ H', Same H H' → Q (decide (w1 = []) || !okW sg w1) H' := q
            unfold okW at q
            cases e1 : decide (w1 = []) with
            | true =>
              rw [e1] at q
              exact ifT rfl (q H (Same.refl H))
            | false =>
              rw [e1] at q
              refine ifF rfl ⟨_, h3, p, _, 1, _, rfl, rfl, SqL.of hp, h1, sz_le (n := 2) (by decide), fun pt hpt => ⟨pt, _, rfl, Or.inr (Or.inl (Or.inl upd_same)), rfl, rfl, _, rfl, ?_⟩⟩
              have s1 := same_new (o := HO.tup [V.str "-", V.str "!"]) hpt
              rw [inV_dash]
              cases e2 : (decide (w1 = [45]) || decide (w1 = [33])) with
              | true =>
                rw [e2] at q
                exact ifF rfl (q _ s1)
              | false =>
                rw [e2] at q
                refine ifT rfl ⟨_, h0, _, h3, p, _, 1, _, rfl, rfl, SqL.of (s1 _ _ hp), h1, sg, _, .str (S w1), rfl, .str _, ?_, fun H4 s4 => ⟨_, rfl, q _ (s1.trans s4)⟩⟩
                have := hw w1 (by simp)
                show w1.length ≤ 90000
                omega)) (pss_one (ps_ret pe_non)) pss_nil)
      (pss_cons (ps_set (i := 4) sc__law_node_of.nd rfl (Or.inl rfl) (PE_imp (t' := tBareG K) (pe_dget2 hu1 (pe_disp (pps_cons pe_str pe_str (pps_cons pe_str pe_non pps_nil)) (by rfl) (by rfl) (fun z => by cases z) (by decide)) (pe_ix ix_list (pv 3) pe_int (fun _ _ => rfl)) (pe_ix ix_list (pv 3) pe_int (fun _ _ => rfl)) ⟨rfl, rfl, rfl, rfl⟩) (fun σ H Q h => by
          obtain ⟨p, ws, w1, h3, hp, h1, q⟩ := h
          have h1' : atI (txs ws) 1 = some (.str (S w1)) := at_line (i := 1) h1
          refine fun D hD => ⟨upd_same, [((Sum.inr "-" : Key), V.str ""), (Sum.inr "!", V.non)], rfl, by decide, ?_⟩
          have zD : upd (upd H D (.dK [])) D (.dK (mergeK [] [((Sum.inr "-" : Key), V.str ""), (Sum.inr "!", V.non)])) D = some (.dK [((Sum.inr "-" : Key), V.str ""), (Sum.inr "!", V.non)]) := upd_same
          have sD : Same H (upd (upd H D (.dK [])) D (.dK (mergeK [] [((Sum.inr "-" : Key), V.str ""), (Sum.inr "!", V.non)]))) := push_same hD (same_new hD)
          generalize upd (upd H D (.dK [])) D (.dK (mergeK [] [((Sum.inr "-" : Key), V.str ""), (Sum.inr "!", V.non)])) = H1 at zD sD ⊢
          have hp1 := SqL.of (K := K) (sD _ _ hp)
          refine ⟨D, rfl, Or.inl ⟨_, .inl zD⟩, _, h3, p, _, 1, _, rfl, rfl, hp1, h1', _, h3, p, _, 1, _, rfl, rfl, hp1, h1', _, (DGet.k (k := .inr (S w1)) zD : DGet H1 D (.str (S w1)) (valV [((Sum.inr "-" : Key), V.str ""), (Sum.inr "!", V.non)] (Sum.inr (S w1)))), ?_⟩
          rw [get_bare]
          exact q H1 sD)))
      (pss_cons (ps_if (pt_cmpR op_eq (pe_ix ix_list (pv 3) pe_int (fun _ _ => rfl)) pe_str (nomark _)) (pss_one (ps_ret (pe_ifExp (PW.pt (pw_and (pt_cmpR op_eq (pe_callB call_len_seq (by rfl) B.len (by decide +kernel) (pa_cons (pv 3) pa_nil)) pe_int (nomark _)) (pw_and1 (pt_cmpR op_notN (pv 4) pe_non (nomark _))))) (pe_tup (pa_cons pe_str (pa_cons (pv 4) pa_nil))) pe_non))) pss_nil)
      (pss_cons (ps_setLc (i := 5) (own := [("_law_word_here", 6)]) (g := gName 6) (tt := tYes) rfl sc__law_node_of.nd rfl rfl (sw_true rfl rfl rfl (by decide +kernel)) (pi_list (pe_slice sl_list (pv 3) (po_some pe_int) po_none)) (blkOk_by (own := [("_law_word_here", 6)]) (N := ["_law_signs", "_law_size", "_law_line", "_law_words", "_law_bare", "_law_some", "_law_word_here"]) (sc := defScope s__law_node_of) (by decide +kernel)) (fun _ _ _ _ _ => pg_name (i := 6) sc__law_node_of.nd rfl (Or.inl rfl)) (fun _ _ _ _ _ => pts_nil) (fun _ _ _ _ _ => (pe_call GN (hr.mono (by decide)) (by rfl) gN FN.kp bN .nil pass0 (pa_cons (pv 6) (pa_cons (pv 1) pa_nil)))))
      (pss_cons (ps_if (PW.pt (pw_or (pt_cmpR op_ne (pe_ix ix_list (pv 3) pe_int (fun _ _ => rfl)) pe_str (nomark _)) (pw_or (pt_cmpR op_ne (pe_callB call_len_seq (by rfl) B.len (by decide +kernel) (pa_cons (pv 5) pa_nil)) (pe_callB call_len (by rfl) B.len (by decide +kernel) (pa_cons (pv 0) pa_nil)) (nomark _)) (pw_or1 (pt_cmpR op_in_seq pe_non (pv 5) rfl))))) (pss_one (ps_ret pe_non)) pss_nil)
      (pss_one (ps_ret (pe_op op_catN (pe_tup (pa_cons pe_str (pa_cons (pv 4) pa_nil))) (pe_callTy call_tuple_of (by rfl) B.tuple (by decide +kernel) (pa_cons (pv 5) pa_nil)))))))))))), ?_⟩
    have hz : (S line).length = line.length := SX.S_len line
    refine ⟨_, rfl, ⟨_, rfl⟩, S line, S [32], rfl, rfl, rfl, sz_le (by omega), fun p hp => ?_⟩
    rw [spl_S, map_SV]
    have s1 := same_new (o := HO.lst ((spl 32 line).map fun l => V.str (S l))) hp
    have z1 : upd H p (.lst ((spl 32 line).map fun l => V.str (S l))) p = some (.lst (txs (spl 32 line))) := upd_same
    generalize upd H p (.lst ((spl 32 line).map fun l => V.str (S l))) = H1 at s1 z1 ⊢
    have hws : LowLs (spl 32 line) := spl_low hlow
    have hwn : ∀ x ∈ spl 32 line, x.length ≤ 4000 := fun x hx => Nat.le_trans (spl_len hx) hln
    have hwm : (spl 32 line).length ≤ 4001 := Nat.le_trans (spl_many 32 line) (by omega)
    unfold readM at q
    generalize spl 32 line = ws at z1 hws hwn hwm q ⊢
    refine ⟨_, rfl, sz_le (n := 1) (by decide), fun p2 hp2 _ => ?_⟩
    have s2 := same_new (o := HO.lst [V.str "none"]) hp2
    have z2 : upd H1 p2 (.lst [V.str "none"]) p2 = some (.lst (txs [noneL])) := upd_same
    have z1 := s2 _ _ z1
    have s12 := s1.trans s2
    have hnl : LowLs [noneL] := LowLs.one (show ∀ c ∈ noneL, c < 128 by decide)
    refine ⟨_, _, .lst (SqL.of z1) (dp_txs ws), .lst (SqL.of z2) (dp_txs [noneL]), shaped_txs hws, shaped_txs hnl, _, rfl, ?_⟩
    rw [eqv_txs]
    generalize upd H1 p2 (.lst [V.str "none"]) = H2 at s12 z1 ⊢
    clear z2 s2 hp2 s1 hnl
    cases e0 : decide (ws = [noneL]) with
    | true =>
      rw [e0, if_pos rfl] at q
      refine ifT rfl ⟨sz_le (n := 1) (by decide), fun p3 hp3 => ?_⟩
      exact q _ _ (s12.trans (same_new hp3)) ⟨p3, rfl, Or.inl (Or.inl upd_same)⟩
    | false =>
      rw [e0, if_neg (by decide)] at q
      refine ifF rfl ⟨p, ws, sg, rfl, rfl, z1, hwn, fun H3 s3 => ?_⟩
      have z1 := s3 _ _ z1
      have s13 := s12.trans s3
      clear s12 s3
      match ws, q with
      | [], q => exact ifT rfl (q H3 _ s13 rfl)
      | [_], q => exact ifT rfl (q H3 _ s13 rfl)
      | w0 :: w1 :: rest, q =>
        dsimp only at q
        have h0 : atI (txs (w0 :: w1 :: rest)) 0 = some (.str (S w0)) := at_line (i := 0) rfl
        have hlen : (txs (w0 :: w1 :: rest)).length = rest.length + 2 := by rw [List.length_map, List.length_cons, List.length_cons]
        have hrl : rest.length ≤ 3999 := by
          rw [List.length_cons, List.length_cons] at hwm
          omega
        show (if (decide (w1 = []) || !okW sg w1) = true then _ else _)
        cases e1 : decide (w1 = []) with
        | true =>
          rw [e1, if_pos rfl] at q
          exact ifT rfl (q H3 _ s13 rfl)
        | false =>
          rw [e1, if_neg (by decide)] at q
          cases ew : okW sg w1 with
          | false =>
            have ew2 := ew
            rw [okW_is] at ew2
            obtain ⟨ew3, ew4⟩ := Bool.or_eq_false_iff.mp ew2
            rw [ew3, ew4] at q
            refine ifT rfl ?_
            cases e2 : decide (w0 = stopsL) with
            | true =>
              rw [e2, if_pos rfl, Bool.and_false] at q
              exact q H3 _ s13 rfl
            | false =>
              rw [e2, if_neg (by decide)] at q
              cases e3 : rdNs m rest with
              | none =>
                rw [e3] at q
                exact q H3 _ s13 rfl
              | some ts =>
                rw [e3] at q
                dsimp only at q
                rw [Bool.false_or, Bool.and_false, Bool.and_false] at q
                exact q H3 _ s13 rfl
          | true =>
            refine ifF rfl ⟨p, _, w1, rfl, z1, rfl, fun H4 s4 => ?_⟩
            have z1 := s4 _ _ z1
            have s14 := s13.trans s4
            have ew2 := ew
            rw [okW_is] at ew2
            refine ⟨_, rfl, p, _, 0, _, rfl, rfl, SqL.of z1, h0, rfl, _, rfl, ?_⟩
            rw [show decide (V.str (S w0) = V.str "stops") = decide (w0 = stopsL) from S_dec w0 stopsL]
            cases e2 : decide (w0 = stopsL) with
            | true =>
              rw [e2, if_pos rfl, stops_is2 hlet ew] at q
              refine ifT rfl ⟨_, rfl, p, _, rfl, .inl (SqL.of z1), rfl, _, rfl, ?_⟩
              have e3 : decide (V.int ((txs (w0 :: w1 :: rest)).length : Nat) = V.int 2) = decide (rest.length = 0) := by
                rw [hlen, dec_int]
                exact decide_eq_decide.mpr ⟨fun h => by omega, fun h => by omega⟩
              rw [e3]
              cases e4 : decide (rest.length = 0) with
              | false =>
                rw [e4] at q
                exact ifF rfl (ifF rfl (q H4 _ s14 rfl))
              | true =>
                rw [e4] at q
                refine ifT rfl ⟨_, rfl, rfl, _, rfl, ?_⟩
                unfold bareM
                cases e5 : decide (toldM w1 = [33]) with
                | true =>
                  rw [e5] at q
                  exact ifF rfl (q H4 _ s14 rfl)
                | false =>
                  rw [e5] at q
                  refine ifT rfl ⟨_, rfl, sz_le (n := 2) (by decide), fun p3 hp3 => ?_⟩
                  exact q _ _ (s14.trans (same_new hp3)) ⟨p3, rfl, Or.inl (Or.inl upd_same)⟩
            | false =>
              rw [e2, if_neg (by decide)] at q
              have qq : ∀ H' v, Same H H' → NodeR K H' (if ((rest.map (rdN m)).all Option.isSome && (decide (w0 = readsL) && decide (rest.length = sg.length))) = true then some (.reads (bareM (toldM w1)) (rest.map fun w => (rdN m w).getD 0)) else none) v → Q v H' := by
                intro H' v s' hv
                refine q H' v s' ?_
                unfold rdNs
                cases ea : (rest.map (rdN m)).all Option.isSome with
                | false =>
                  rw [ea] at hv
                  exact hv
                | true =>
                  rw [ea] at hv
                  rw [if_pos rfl]
                  dsimp only
                  rw [ew2, Bool.and_true, List.length_map]
                  exact hv
              clear q
              refine ifF rfl ⟨_, rfl, 2, rfl, p, _, rfl, SqL.of z1, fun L hL => ?_⟩
              have ec : cutV (txs (w0 :: w1 :: rest)) (some 2) none = txs rest := cut_from _ 2
              rw [ec]
              have s5 := same_new (o := HO.lst (txs rest)) hL
              have z5 : upd H4 L (.lst (txs rest)) L = some (.lst (txs rest)) := upd_same
              have s15 := s14.trans s5
              have z1 := s5 _ _ z1
              generalize upd H4 L (.lst (txs rest)) = H5 at z5 z1 s15 ⊢
              refine ⟨L, rfl, ⟨_, SqL.of z5⟩, fun D hD => ?_⟩
              have hD0 : H D = none := none_of s15 hD
              refine lc_yes (walk_list (a := L) (xs := txs rest)) (fun i H' => Same H5 H' ∧ H' D = some (.lst (((rest.take i).map (rdN m)).map optN))) ⟨same_new hD, upd_same⟩ (fun _ _ _ pp => SqL.of (pp.1 _ _ z5)) ?_ ?_
              · rintro j x H6 H7 hj ⟨s6, zD⟩ ⟨rfl, hx⟩
                rw [List.length_map] at hj
                rw [List.getElem?_map, List.getElem?_eq_getElem hj] at hx
                cases hx
                have hmem : rest[j] ∈ w0 :: w1 :: rest := by simp
                refine ⟨rfl, _, rfl, _, rfl, rest[j], m, rfl, Nat.le_trans (hwn _ hmem) (by decide), hws _ hmem, by omega, fun H8 s8 => ?_⟩
                refine ⟨_, s8 _ _ zD, sz_lt (by rw [List.length_map, List.length_map, List.length_take]; omega), push_same hD (s6.trans s8), ?_⟩
                rw [upd_same, List.take_add_one, List.getElem?_eq_getElem hj, List.map_append, List.map_append]
                rfl
              · rintro H6 ⟨s6, zD⟩
                rw [List.length_map, List.take_length] at zD
                have z1 := s6 _ _ z1
                have s16 := s15.trans s6
                refine ⟨_, rfl, p, _, 0, _, rfl, rfl, SqL.of z1, h0, rfl, _, rfl, ?_⟩
                rw [show decide (V.str (S w0) = V.str "reads") = decide (w0 = readsL) from S_dec w0 readsL]
                have fin := fun v => qq H6 v s16
                cases e3 : decide (w0 = readsL) with
                | false =>
                  rw [e3, Bool.false_and, Bool.and_false, if_neg (by decide)] at fin
                  exact ifT rfl (ifT rfl (fin _ rfl))
                | true =>
                  rw [e3, Bool.true_and] at fin
                  refine ifF rfl ⟨_, rfl, D, _, rfl, .inl (SqL.of zD), _, rfl, _, _, rfl, len_S (by omega), rfl, _, rfl, ?_⟩
                  have e4 : decide (V.int (((rest.map (rdN m)).map optN).length : Nat) = V.int (sg.length : Nat)) = decide (rest.length = sg.length) := by
                    rw [dec_int, List.length_map, List.length_map]
                    exact decide_eq_decide.mpr ⟨fun h => by omega, fun h => by omega⟩
                  rw [e4]
                  cases e5 : decide (rest.length = sg.length) with
                  | false =>
                    rw [e5, Bool.and_false, if_neg (by decide)] at fin
                    exact ifT rfl (ifT rfl (fin _ rfl))
                  | true =>
                    rw [e5, Bool.and_true] at fin
                    refine ifF rfl ⟨_, rfl, D, _, rfl, Or.inl (SqL.of zD), rfl, flat_opts _, _, rfl, ?_⟩
                    rw [inV_none]
                    cases ea : (rest.map (rdN m)).all Option.isSome with
                    | false =>
                      rw [ea, if_neg (by decide)] at fin
                      exact ifT rfl (fin _ rfl)
                    | true =>
                      have qq2 := fun H' v s' => qq H' v s'
                      rw [e3, e5, ea] at qq2
                      refine ifF rfl ⟨_, rfl, sz_le (n := 2) (by decide), fun p3 hp3 => ?_⟩
                      have s7 := same_new (o := HO.tup [V.str "reads", optV (bareM (toldM w1))]) hp3
                      have z7 : SqT K (upd H6 p3 (.tup [V.str "reads", optV (bareM (toldM w1))])) p3 [V.str "reads", optV (bareM (toldM w1))] := Or.inl (Or.inl upd_same)
                      have zD := s7 _ _ zD
                      have s17 := s16.trans s7
                      generalize upd H6 p3 (.tup [V.str "reads", optV (bareM (toldM w1))]) = H7 at z7 zD s17 ⊢
                      refine ⟨_, rfl, D, _, rfl, Or.inl ⟨SqL.of zD, fun p4 hp4 => ?_⟩⟩
                      rw [opts_vals ea]
                      have s8 := same_new (o := HO.tup (intsV (rest.map fun w => (rdN m w).getD 0))) hp4
                      refine ⟨p3, p4, _, _, rfl, rfl, Same.tup s8 z7, Or.inl (Or.inl upd_same), sz_le (by rw [intsV_len, List.length_map]; show 2 + _ ≤ _; omega), fun p5 H8 s9 z9 => ?_⟩
                      exact qq2 H8 _ ((s17.trans s8).trans s9) ⟨p5, rfl, z9⟩
end
end Lw

namespace Lw
open PySem PySem.Spec PyProof.Rows L2 Mq
open SX (S)
/-! ### the law's own reading of a text -/
theorem head_eq (l0 : List Nat) : headW l0 = if (decide (l0.take 7 = [114, 101, 97, 100, 101, 114, 32]) && lettersB (l0.drop 7)) = true then some (l0.drop 7) else none := by
  unfold headW
  by_cases h : (decide (l0.take 7 = [114, 101, 97, 100, 101, 114, 32]) && lettersB (l0.drop 7)) = true
  · rw [if_pos h]
    obtain ⟨h1, h2⟩ := Bool.and_eq_true_iff.mp h
    have h1 := of_decide_eq_true h1
    have e : l0 = TL.joinL [32] [readerL, l0.drop 7] := by
      have e1 : l0 = l0.take 7 ++ l0.drop 7 := (List.take_append_drop 7 l0).symm
      show l0 = readerL ++ ([32] ++ l0.drop 7)
      rw [h1] at e1
      exact e1
    have e2 : spl 32 l0 = [readerL, l0.drop 7] := by
      have e3 := spl_of (c := 32) (by decide) (ps := [readerL, l0.drop 7]) (by simp) (fun p hp => by
        simp only [List.mem_cons, List.not_mem_nil, or_false] at hp
        rcases hp with rfl | rfl
        · decide
        · intro h3
          have := alpha_low ((letters_alpha h2).2 _ h3)
          omega)
      rw [← e] at e3
      exact e3
    rw [e2]
    show (if (decide (readerL = readerL) && lettersB (l0.drop 7)) = true then some (l0.drop 7) else none) = _
    rw [h2]
    rfl
  · rw [if_neg h]
    split
    · rename_i w0 w1 e
      have j := spl_join 32 l0
      rw [e] at j
      refine if_neg fun h2 => h ?_
      obtain ⟨h3, h4⟩ := Bool.and_eq_true_iff.mp h2
      have h3 := of_decide_eq_true h3
      rw [h3] at j
      have j2 : l0 = [114, 101, 97, 100, 101, 114, 32] ++ w1 := j.symm
      rw [j2]
      show (decide ([114, 101, 97, 100, 101, 114, 32] = [114, 101, 97, 100, 101, 114, 32]) && lettersB w1) = true
      rw [h4]
      rfl
    · rfl
def oD : Option Nd → PyData
  | none => .none
  | some n => ndD n
theorem empty_len2 {α β : Type} {xs : List α} {ds : List β} (h : xs.length = ds.length) : xs.isEmpty = ds.isEmpty := by
  cases xs <;> cases ds <;> first | rfl | cases h
inductive OAll (K : PySem.W.Frag) (H : Hp) : List V → List (Option Nd) → Prop
  | nil : OAll K H [] []
  | cons {v : V} {o : Option Nd} {vs : List V} {os : List (Option Nd)} : NodeR K H o v → OAll K H vs os → OAll K H (v :: vs) (o :: os)
theorem OAll.same {K : PySem.W.Frag} {H H' : Hp} (e : Same H H') : ∀ {vs : List V} {os : List (Option Nd)}, OAll K H vs os → OAll K H' vs os
  | _, _, .nil => .nil
  | _, _, .cons a b => .cons (a.same e) (OAll.same e b)
theorem NodeR.kp {K : PySem.W.Frag} {H H' : Hp} {o : Option Nd} {v : V} (h : NodeR K H o v) (e : KpT K H H') : NodeR K H' o v := by
  cases o with
  | none => exact h
  | some n => exact NdAt.kp h e
theorem OAll.kp {K : PySem.W.Frag} {H H' : Hp} (e : KpT K H H') : ∀ {vs : List V} {os : List (Option Nd)}, OAll K H vs os → OAll K H' vs os
  | _, _, .nil => .nil
  | _, _, .cons a b => .cons (a.kp e) (OAll.kp e b)
theorem OAll.snoc {K : PySem.W.Frag} {H : Hp} {v : V} {o : Option Nd} (h : NodeR K H o v) : ∀ {vs : List V} {os : List (Option Nd)}, OAll K H vs os → OAll K H (vs ++ [v]) (os ++ [o])
  | _, _, .nil => .cons h .nil
  | _, _, .cons a b => .cons a (OAll.snoc h b)
theorem OAll.len {K : PySem.W.Frag} {H : Hp} : ∀ {vs : List V} {os : List (Option Nd)}, OAll K H vs os → vs.length = os.length
  | _, _, .nil => rfl
  | _, _, .cons a b => congrArg (· + 1) b.len
theorem OAll.dp {K : PySem.W.Frag} {H : Hp} : ∀ {vs : List V} {os : List (Option Nd)}, OAll K H vs os → DpAll K H vs (os.map oD)
  | _, _, .nil => .nil
  | _, _, .cons (o := o) a b => .cons (by
      cases o with
      | none =>
        cases (show _ = V.non from a)
        exact .non
      | some n => exact NdAt.dp a) (OAll.dp b)
theorem OAll.nds {K : PySem.W.Frag} {H : Hp} : ∀ {vs : List V} {os : List (Option Nd)} {i : Nat}, OAll K H vs os → firstN os i = none → NdAll K H vs (os.filterMap id)
  | _, _, _, .nil, _ => .nil
  | _, _, i, .cons (o := o) a b, h => by
    cases o with
    | none => cases h
    | some n => exact .cons a (OAll.nds (i := i + 1) b h)
def NdLow : Nd → Prop
  | .none => True
  | .stops w => LowL w
  | .reads b _ => ∀ w, b = some w → LowL w
theorem read_low {sg line : List Nat} {m : Nat} {n : Nd} (h : readM sg m line = some n) (hl : LowL line) : NdLow n := by
  have hw : LowLs (spl 32 line) := spl_low hl
  unfold readM at h
  split at h
  · cases h
    trivial
  · split at h
    · rename_i w0 w1 rest e
      rw [e] at hw
      have ht : LowL (toldM w1) := by
        unfold toldM
        split
        · exact fun c hc => by cases hc
        · exact hw w1 (by simp)
      split at h
      · cases h
      · split at h
        · split at h
          · cases h
            exact ht
          · cases h
        · split at h
          · cases h
          · split at h
            · cases h
              intro w hb
              unfold bareM at hb
              split at hb
              · cases hb
              · cases hb
                exact ht
            · cases h
    · cases h
theorem ints_lay : ∀ ts : List Nat, PyData.canLayAll0 (ts.map fun t => .int ((t : Nat) : Int)) = true ∧ PyData.depthAll (ts.map fun t => .int ((t : Nat) : Int)) = 0
  | [] => ⟨rfl, rfl⟩
  | t :: ts => ⟨(ints_lay ts).1, by show max 0 _ = 0; rw [(ints_lay ts).2]; rfl⟩
theorem lay_ndL {n : Nd} (h : NdLow n) : (ndD n).canLay0 = true ∧ (ndD n).depth ≤ 1 := by
  cases n with
  | none => exact ⟨by decide +kernel, by decide +kernel⟩
  | stops w =>
    refine ⟨?_, Nat.le_refl 1⟩
    show ((PyData.str "stops").canLay0 && ((PyData.str (S w)).canLay0 && true)) = true
    rw [lay_txt h, show (PyData.str "stops").canLay0 = true by decide +kernel]
    rfl
  | reads b ts =>
    have hb : (optD b).canLay0 = true ∧ (optD b).depth = 0 := by
      cases b with
      | none => exact ⟨rfl, rfl⟩
      | some w => exact ⟨lay_txt (h w rfl), rfl⟩
    obtain ⟨i1, i2⟩ := ints_lay ts
    refine ⟨?_, ?_⟩
    · show ((PyData.str "reads").canLay0 && ((optD b).canLay0 && PyData.canLayAll0 (ts.map fun t => .int ((t : Nat) : Int)))) = true
      rw [hb.1, i1, show (PyData.str "reads").canLay0 = true by decide +kernel]
      rfl
    · show max 0 (max (optD b).depth (PyData.depthAll (ts.map fun t => .int ((t : Nat) : Int)))) + 1 ≤ 1
      rw [hb.2, i2]
      exact Nat.le_refl 1
theorem lay_os : ∀ {os : List (Option Nd)}, (∀ n, some n ∈ os → NdLow n) → PyData.canLayAll0 (os.map oD) = true ∧ PyData.depthAll (os.map oD) ≤ 1
  | [], _ => ⟨rfl, Nat.zero_le _⟩
  | o :: os, h => by
    obtain ⟨a, b⟩ := lay_os fun n hn => h n (List.mem_cons_of_mem _ hn)
    have c : (oD o).canLay0 = true ∧ (oD o).depth ≤ 1 := by
      cases o with
      | none => exact ⟨rfl, Nat.zero_le _⟩
      | some n => exact lay_ndL (h n List.mem_cons_self)
    refine ⟨?_, Nat.max_le.mpr ⟨c.2, b⟩⟩
    show ((oD o).canLay0 && PyData.canLayAll0 (os.map oD)) = true
    rw [c.1, a]
    rfl
theorem shaped_os {os : List (Option Nd)} (h : ∀ n, some n ∈ os → NdLow n) : SeqAt.shaped (.list (os.map oD)) = true := by
  obtain ⟨a, b⟩ := lay_os h
  show (PyData.canLayAll0 (os.map oD) && decide (PyData.depthAll (os.map oD) + 1 ≤ 64)) = true
  rw [a, decide_eq_true (by omega)]
  rfl
theorem oD_none (o : Option Nd) : PyData.eqv (oD o) .none = o.isNone := by
  cases o with
  | none => rfl
  | some n => cases n <;> rfl
theorem any_none : ∀ (os : List (Option Nd)) (i : Nat), ((os.map oD).any fun z => PyData.eqv z .none) = (firstN os i).isSome
  | [], _ => rfl
  | none :: os, i => rfl
  | some n :: os, i => by
    rw [List.map_cons, List.any_cons, oD_none, any_none os (i + 1)]
    rfl
theorem first_at : ∀ {os : List (Option Nd)} {i k : Nat}, firstN os i = some k → ∃ j, k = i + j ∧ os[j]? = some none ∧ ∀ m z, m < j → os[m]? = some z → z ≠ none
  | [], _, _, h => by cases h
  | none :: os, i, k, h => by
    cases h
    exact ⟨0, rfl, rfl, fun m z hm => absurd hm (Nat.not_lt_zero m)⟩
  | some n :: os, i, k, h => by
    obtain ⟨j, e, h1, h2⟩ := first_at (os := os) (i := i + 1) h
    refine ⟨j + 1, by omega, h1, fun m z hm hz => ?_⟩
    cases m with
    | zero =>
      cases hz
      exact fun z => nomatch z
    | succ m => exact h2 m z (by omega) hz
def PartsR (K : PySem.W.Frag) (H : Hp) : (List Nat × List Nd) ⊕ Nat → V → Prop
  | .inr k, v => v = .int ((k : Nat) : Int)
  | .inl (sg, ns), v => ∃ T p, v = .ref T ∧ SqT K H T [.str (S sg), .ref p] ∧ NodesAt K H p ns
def spParts (K : PySem.W.Frag) : Sp := fun vs H Q _ => ∃ v : V, vs = [v] ∧
  ((NoTx K H v ∧ Q (.int 0) H) ∨ ∃ t : List Nat, v = .str (S t) ∧ t.length ≤ 4000 ∧ LowL t ∧ ∀ H' v', Same H H' → PartsR K H' (pageM t) v' → Q v' H')
section
variable {P : Program} {w : World} {K : PySem.W.Frag} {mg : Str → Option Value} {base : Heap}
theorem ok_parts {f fA fO : Addr} {fd fdA fdO : FuncData} (F : Fun K "_law_parts" "_law_parts" s__law_parts f fd) (B : Blt mg)
    (FA : Fun K "_law_are_letters" "_law_are_letters" s__law_are_letters fA fdA) (gA : mg "_law_are_letters" = some (.ref fA)) (bA : Binds K fdA ["_law_it"] []) (GA : FnOk P w K mg base CX0 1 fA fdA ["_law_it"] (spAre K))
    (FO : Fun K "_law_node_of" "_law_node_of" s__law_node_of fO fdO) (gO : mg "_law_node_of" = some (.ref fO)) (bO : Binds K fdO ["_law_signs", "_law_size", "_law_line"] []) (GO : FnOk P w K mg base CX0 2 fO fdO ["_law_signs", "_law_size", "_law_line"] (spNodeOf K)) :
    FnOk P w K mg base CX0 3 f fd ["_law_page_here"] (spParts K) := by
  refine F.ok sc__law_parts (fun vs H Q E h => ?_) (fun cdv A outer s H vs Q E hr h => ?_)
  · obtain ⟨_, rfl, _⟩ := h
    rfl
  · obtain ⟨v, rfl, h⟩ := h
    have hu : (A.deeper (envOfC "_law_parts" (defScope s__law_parts) s.heap.objs.size f cdv)).units + 65 < cLine := by
      have := hr.un
      omega
    have hu0 : (A.deeper (envOfC "_law_parts" (defScope s__law_parts) s.heap.objs.size f cdv)).units < cLine := by omega
    refine ⟨_, (pss_cons (ps_if (pt_not (pt_val (pe_callB call_isi (by rfl) B.isi (by decide +kernel) (pa_cons (pv 0) (pa_cons (pe_bltn (v := .ty "str") (by rfl) B.str (by decide +kernel) rfl) pa_nil))))) (pss_one (ps_ret pe_int)) pss_nil)
      (pss_cons (ps_set (i := 1) sc__law_parts.nd rfl (Or.inr rfl) (pe_split (pv 0) pe_str))
      (pss_cons (ps_set (i := 2) sc__law_parts.nd rfl (Or.inr rfl) (pe_slice sl_str (pe_ix ix_list (pv 1) pe_int (fun _ _ => rfl)) (po_some pe_int) po_none))
      (pss_cons (ps_if (PW.pt (pw_or (pt_cmpR op_ne (pe_slice sl_str (pe_ix ix_list (pv 1) pe_int (fun _ _ => rfl)) po_none (po_some pe_int)) pe_str (nomark _)) (pw_or1 (pt_not (pt_val (pe_call GA (hr.mono (by decide)) (by rfl) gA FA.kp bA .nil pass0 (pa_cons (pv 2) pa_nil))))))) (pss_one (ps_ret pe_int)) pss_nil)
      (pss_cons (ps_setLc (i := 3) (own := [("_law_line", 4)]) (g := gName 4) (tt := tYes) rfl sc__law_parts.nd rfl rfl (sw_true rfl rfl rfl (by decide +kernel)) (pi_list (pe_slice sl_list (pv 1) (po_some pe_int) po_none)) (blkOk_by (own := [("_law_line", 4)]) (N := ["_law_page_here", "_law_lines", "_law_signs", "_law_found", "_law_line"]) (sc := defScope s__law_parts) (by decide +kernel)) (fun _ _ _ _ _ => pg_name (i := 4) sc__law_parts.nd rfl (Or.inl rfl)) (fun _ _ _ _ _ => pts_nil) (fun _ _ _ _ _ => (pe_call GO (hr.mono (by decide)) (by rfl) gO FO.kp bO .nil pass0 (pa_cons (pv 2) (pa_cons (pe_op op_sub (pe_callB (call_lenK (K := K) rfl) (by rfl) B.len (by decide +kernel) (pa_cons (pv 1) pa_nil)) pe_int) (pa_cons (pv 4) pa_nil))))))
      (pss_cons (ps_if (pt_cmpR (op_eqNil hu0) (pv 3) (Mq.pe_ls pa_nil) (nomark _)) (pss_one (ps_ret pe_int)) pss_nil)
      (pss_one (ps_ret (pe_ifExp (pt_cmpR (op_inD hu) pe_non (pv 3) rfl) (pe_op op_add (pe_bm PySem.F.plainAttrs_list PySem.F.slot_list_index PySem.F.type_list_index (mt_indexD hu) (pv 3) (pa_cons pe_non pa_nil)) pe_int) (pe_tup (pa_cons (pv 2) (pa_cons (pe_callTy call_tuple_of (by rfl) B.tuple (by decide +kernel) (pa_cons (pv 3) pa_nil)) pa_nil)))))))))))), ?_⟩
    rcases h with ⟨⟨c, ty, kt⟩, q⟩ | ⟨t, rfl, ht, hlow, q⟩
    · exact ⟨_, rfl, _, .ty "str", _, _, false, rfl, .ty _, ty, kt, false, rfl, ifT rfl q⟩
    refine ⟨_, rfl, _, .ty "str", _, _, true, rfl, .ty _, .base (.str _), kit_self, true, rfl, ifF rfl ?_⟩
    have hz : (S t).length = t.length := SX.S_len t
    refine ⟨_, rfl, ⟨_, rfl⟩, S t, S [10], rfl, rfl, rfl, sz_le (by omega), fun p hp => ?_⟩
    rw [spl_S, map_SV]
    have s1 := same_new (o := HO.lst ((spl 10 t).map fun l => V.str (S l))) hp
    have z1 : upd H p (.lst ((spl 10 t).map fun l => V.str (S l))) p = some (.lst (txs (spl 10 t))) := upd_same
    generalize upd H p (.lst ((spl 10 t).map fun l => V.str (S l))) = H1 at s1 z1 ⊢
    have hn : ∀ x ∈ spl 10 t, x.length ≤ 4000 := fun x hx => Nat.le_trans (spl_len hx) ht
    have hw : ∀ x ∈ spl 10 t, LowL x := fun x hx c hc => hlow c (spl_mem hx hc)
    have hne := spl_ne 10 t
    have hm : (spl 10 t).length ≤ 4001 := Nat.le_trans (spl_many 10 t) (by omega)
    generalize hpg : pageM t = pg at q
    unfold pageM headM at hpg
    generalize spl 10 t = lines at z1 hn hw hne hm hpg ⊢
    match lines, hne, hpg with
    | l0 :: ls, _, hpg =>
      have hl0 := hn l0 List.mem_cons_self
      have hw0 := hw l0 List.mem_cons_self
      have hz0 : (S l0).length ≤ sizeLine := sz_le (by rw [SX.S_len]; omega)
      refine ⟨_, rfl, p, _, 0, _, rfl, rfl, SqL.of z1, at_line (i := 0) rfl, 7, rfl, S l0, rfl, hz0, ?_⟩
      rw [show cutS (S l0) (some 7) none = S (l0.drop 7) from cutS_from l0 7]
      refine ⟨_, rfl, p, _, 0, _, rfl, rfl, SqL.of z1, at_line (i := 0) rfl, 7, rfl, S l0, rfl, hz0, ?_⟩
      rw [show cutS (S l0) none (some 7) = S (l0.take 7) from cutS_to l0 7]
      refine ⟨rfl, _, rfl, ?_⟩
      rw [show decide (V.str (S (l0.take 7)) = V.str "reader ") = decide (l0.take 7 = [114, 101, 97, 100, 101, 114, 32]) from S_dec (l0.take 7) [114, 101, 97, 100, 101, 114, 32]]
      dsimp only at hpg
      rw [head_eq] at hpg
      cases c0 : decide (l0.take 7 = [114, 101, 97, 100, 101, 114, 32]) with
      | false =>
        rw [c0] at hpg
        refine ifT rfl (ifT rfl (q H1 _ s1 ?_))
        rw [← hpg]
        rfl
      | true =>
        rw [c0] at hpg
        have hld : (l0.drop 7).length ≤ 4000 := by rw [List.length_drop]; omega
        have hlwd : LowL (l0.drop 7) := fun c hc => hw0 c (List.mem_of_mem_drop hc)
        refine ifF rfl ⟨_, rfl, .str (S (l0.drop 7)), .str (S (l0.drop 7)), 4000, 0, rfl, .str _, okD_str hlwd hld, by decide, fun H2 s2 => ⟨_, rfl, ?_⟩⟩
        have s12 := s1.trans s2
        show (if (!lettersB (l0.drop 7)) = true then _ else _)
        cases c1 : lettersB (l0.drop 7) with
        | false =>
          rw [c1] at hpg
          refine ifT rfl (q H2 _ s12 ?_)
          rw [← hpg]
          rfl
        | true =>
          rw [c1] at hpg
          have hpg : (if ls.isEmpty = true then .inr 2 else match firstN (linesM (l0.drop 7) ls) 0 with
            | some k => .inr (k + 2)
            | none => .inl (l0.drop 7, (linesM (l0.drop 7) ls).filterMap id)) = pg := hpg
          generalize l0.drop 7 = sg at hpg hlwd hld c1 ⊢
          refine ifF rfl ?_
          have z1 := s2 _ _ z1
          refine ⟨_, rfl, 1, rfl, p, _, rfl, SqL.of z1, fun L hL => ?_⟩
          rw [show cutV (txs (l0 :: ls)) (some 1) none = txs ls from cut_tail _ _]
          have s3 := same_new (o := HO.lst (txs ls)) hL
          have z3 : upd H2 L (.lst (txs ls)) L = some (.lst (txs ls)) := upd_same
          have s13 := s12.trans s3
          have z1 := s3 _ _ z1
          generalize upd H2 L (.lst (txs ls)) = H3 at z3 z1 s13 ⊢
          refine ⟨L, rfl, ⟨_, SqL.of z3⟩, fun D hD => ?_⟩
          rw [List.length_cons] at hm
          have hlm : (linesM sg ls).length = ls.length := List.length_map _
          refine lc_yes (walk_list (a := L) (xs := txs ls)) (fun i H' => Same H3 H' ∧ ∃ vs, H' D = some (.lst vs) ∧ OAll K H' vs ((linesM sg ls).take i) ∧ vs.length = i) ⟨same_new hD, [], upd_same, .nil, rfl⟩ (fun _ _ _ pp => SqL.of (pp.1 _ _ z3)) ?_ ?_
          · rintro j x H4 H5 hj ⟨s4, vs, zD, ha, hvl⟩ ⟨rfl, hx⟩
            rw [List.length_map] at hj
            rw [List.getElem?_map, List.getElem?_eq_getElem hj] at hx
            cases hx
            have hmem : ls[j] ∈ l0 :: ls := List.mem_cons_of_mem _ (List.getElem_mem hj)
            have z1 := s4 _ _ z1
            have em : (((txs (l0 :: ls)).length : Nat) : Int) - 1 = ((ls.length : Nat) : Int) := by
              rw [List.length_map, List.length_cons]
              omega
            refine ⟨rfl, _, rfl, _, rfl, _, _, rfl, Or.inl ⟨_, SqL.of z1, rfl⟩, _, _, rfl, rfl, _, rfl, sg, ls[j], ls.length, ?_, c1, by omega, hn _ hmem, hw _ hmem, by omega, fun H6 v6 s6 hv6 => ?_⟩
            · show [V.str (S sg), V.int ((((txs (l0 :: ls)).length : Nat) : Int) - 1), V.str (S ls[j])] = _
              rw [em]
            · refine ⟨_, s6 _ _ zD, sz_lt (by omega), push_same hD (s4.trans s6), vs ++ [v6], upd_same, ?_, by rw [List.length_append, hvl]; rfl⟩
              have hm2 : (linesM sg ls)[j]? = some (readM sg ls.length ls[j]) := by
                unfold linesM
                rw [List.getElem?_map, List.getElem?_eq_getElem hj]
                rfl
              rw [List.take_add_one, hm2]
              exact (OAll.snoc hv6 (ha.same s6)).kp (KpT.lst (s6 _ _ zD))
          · rintro H4 ⟨s4, vs, zD, ha, hvl⟩
            rw [List.length_map] at hvl
            rw [List.length_map, List.take_of_length_le (by rw [hlm]; exact Nat.le_refl _)] at ha
            have s14 := s13.trans s4
            refine ⟨_, rfl, sz_le (n := 0) (by decide), fun p2 hp2 _ => ?_⟩
            have s5 := same_new (o := HO.lst []) hp2
            refine ⟨D, p2, vs, rfl, rfl, SqL.of (s5 _ _ zD), SqL.of upd_same, _, rfl, ?_⟩
            have zD := s5 _ _ zD
            have ha := ha.same s5
            have s15 := s14.trans s5
            generalize upd H4 p2 (.lst []) = H5 at zD ha s15 ⊢
            rw [empty_len2 hvl]
            cases he : ls.isEmpty with
            | true =>
              rw [he, if_pos rfl] at hpg
              refine ifT rfl (q H5 _ s15 ?_)
              rw [← hpg]
              rfl
            | false =>
              rw [he, if_neg (by decide)] at hpg
              refine ifF rfl ?_
              have hnl : ∀ n, some n ∈ linesM sg ls → NdLow n := fun n hn2 => by
                obtain ⟨l, hl, e⟩ := List.mem_map.mp hn2
                exact read_low e (hw l (List.mem_cons_of_mem _ hl))
              refine ⟨_, rfl, .none, (linesM sg ls).map oD, .non, .lst (SqL.of zD) ha.dp, by decide +kernel, shaped_os hnl, _, rfl, ?_⟩
              rw [any_none _ 0]
              cases hf : firstN (linesM sg ls) 0 with
              | some k =>
                rw [hf] at hpg
                obtain ⟨j, e, h1, h2⟩ := first_at hf
                refine ifT rfl ⟨_, rfl, Or.inl ⟨rfl, _, SqL.of zD⟩, D, _, .none, (linesM sg ls).map oD, j, .none, rfl, rfl, .lst (SqL.of zD) ha.dp, .non, shaped_os hnl, by decide +kernel, ?_, rfl, fun m z' hm2 hz' => ?_, _, _, rfl, rfl, q H5 _ s15 ?_⟩
                · rw [List.getElem?_map, h1]
                  rfl
                · rw [List.getElem?_map] at hz'
                  cases ho : (linesM sg ls)[m]? with
                  | none =>
                    rw [ho] at hz'
                    cases hz'
                  | some o =>
                    rw [ho] at hz'
                    cases hz'
                    rw [oD_none]
                    cases o with
                    | none => exact (h2 m _ hm2 ho rfl).elim
                    | some n => rfl
                · rw [← hpg]
                  show V.int (((j : Nat) : Int) + 2) = V.int (((k + 2 : Nat)) : Int)
                  congr 1
                  omega
              | none =>
                rw [hf] at hpg
                refine ifF rfl ⟨_, rfl, _, rfl, D, vs, rfl, Or.inl ⟨SqL.of zD, fun fa hfa => ?_⟩⟩
                have s6 := same_new (o := HO.tup vs) hfa
                have t6 : SqT K (upd H5 fa (.tup vs)) fa vs := Or.inl (Or.inl upd_same)
                have ha6 := (ha.same s6).nds hf
                generalize upd H5 fa (.tup vs) = H6 at s6 t6 ha6 ⊢
                refine ⟨sz_le (n := 2) (by decide), fun T2 hT2 => ?_⟩
                have s7 := same_new (o := HO.tup [V.str (S sg), V.ref fa]) hT2
                refine q _ _ ((s15.trans s6).trans s7) ?_
                rw [← hpg]
                exact ⟨T2, fa, rfl, Or.inl (Or.inl upd_same), vs, Same.tup s7 t6, ha6.same s7⟩
end
end Lw

namespace Lw
open PySem PySem.Spec PyProof.Rows L2 Mq
open ClX (CRead CMet)
open SX (S)
/-! ### what is heard of a text -/
def app2 {α : Type} (a b : List α) : List α := a ++ b
theorem kbn_11 {K : PySem.W.Frag} {x qual : Str} {st : Stmt} {f : Addr} {fd : FuncData} {p1 p2 : Str} (F : Fun K x qual st f fd)
    (h : ∀ (kV doc pm : Value) (an : Option Addr) (cdv ct : Value) (a b : Value), bindArgs (PySem.W.fnOf x qual (defArgs st) (defBody st) (defScope st) .none kV doc pm an cdv ct) ⟨[a], [(p2, b)]⟩ = pure [(p1, a), (p2, b)]) :
    KBn K fd [p1, p2] 1 [p2] app2 app2 := by
  obtain ⟨oc, od, kV, doc, pm, an, cdv, ct, osl, rfl, lk, hcd⟩ := F.ex
  refine ⟨fun s us ws _ h1 h2 => ?_, fun a b => a.append b⟩
  match us, ws, h1, h2 with
  | [a], [b], _, _ => exact .of_eq (h kV doc pm an cdv ct a b)
/-- what the written part says of the error -/
structure ErrL (K : PySem.W.Frag) (mg : Str → Option Value) (CT CM fB : Addr) : Prop where
  txt : MqE_line.Txt K mg "BadText" "BadText.__init__" CT fB
  xf : XfC K CT
  nt : PySem.W.findIn K (.ref CT) "line" = some none
  held : HeldC K CT
  gM : mg "MillError" = some (.ref CM)
  kit : PySem.W.kitOne K (.ref CT) (.ref CM) = some true
  exm : PySem.W.exmOne K (.ref CT) (.ref CT) = some true
def hearBad (k : Nat) (H : Hp) (Q : VK) : Prop := ∀ H' p, Same H H' → p ≠ sysModules → H' p = some (.lst [.str "bad", .int (k : Nat), .bl true]) → Q (.ref p) H'
def spHeard2 (K : PySem.W.Frag) : Sp := fun vs H Q _ => ∃ (v : V) (b : Bool), vs = [v, .bl b] ∧
  ((NoTx K H v ∧ hearBad 0 H Q) ∨ ∃ t : List Nat, v = .str (S t) ∧ t.length ≤ 4000 ∧ LowL t ∧
    match pageM t with
    | .inr k => hearBad k H Q
    | .inl (sg, ns) => ∀ H' p na, Same H H' → p ≠ sysModules → H' p = some (.lst [.str (S sg), .ref na]) → NodesAt K H' na ns → Q (.ref p) H')
section
variable {P : Program} {w : World} {K : PySem.W.Frag} {mg : Str → Option Value} {base : Heap} {C CT CM : Addr}
theorem ok_heard2 {f fR fB p0 : Addr} {fd fdR : FuncData} {mc : Value} (F : Fun K "_law_read" "_law_read" s__law_read f fd) (B : Blt mg) (T : ErrL K mg CT CM fB) (R : RdC K C) (gC : mg "Reader" = some (.ref C))
    (rd : CRead K C mc) (cm : CMet K C mc "read" p0 fR) (bR : Binds K fdR ["cls", "text"] []) (kR : KBn K fdR ["cls", "text"] 1 ["text"] app2 app2) (GR : FnOk P w K mg base (L2.CX P w) 8 fR fdR ["cls", "text"] (spRead K C CT)) :
    FnG P w K mg base CX0 10 f fd ["_law_page_here", "_law_is_named"] (spHeard2 K) := by
  refine Mq.Fun.okG F sc__law_read (fun vs H Q E h => ?_) (fun cdv A outer s H vs Q E gA hr h => ?_)
  · obtain ⟨_, _, rfl, _⟩ := h
    rfl
  · obtain ⟨v, b, rfl, h⟩ := h
    have hr8 : Room 8 (A.deeper (envOfC "_law_read" (defScope s__law_read) s.heap.objs.size f cdv)) := hr.mono (by decide)
    refine ⟨_, (pss_cons (ps_set (i := 2) sc__law_read.nd rfl (Or.inl rfl) pe_non)
      (pss_cons (ps_try_as (i := 4) (Wout := fun _ _ _ _ => False) (c := .ref CT) rfl rfl sc__law_read.nd rfl rfl ⟨rfl, by decide, Or.inl T.txt.gC⟩ takes0
        (fun W pn xe tk _ => pss_cons (ps_set (i := 3) sc__law_read.nd rfl (Or.inl rfl) (pe_ifExp (pt_val (pv 1))
            (pe_cmethK (ES := WE W) (pe_glob (v := .ref C) (by rfl) gC rfl) rd cm GR hr8 kR (fun σ => passAt tk σ) (pk_cons (pv 0) pk_nil))
            (pe_cmethS (n := 1) (ES := WE W) (pe_glob (v := .ref C) (by rfl) gC rfl) rd cm GR hr8 bR rfl (fun σ => passAt tk σ) (pa_cons (pv 0) pa_nil))))
          (pss_one (ps_set (i := 2) sc__law_read.nd rfl (Or.inl rfl) (Mq.pe_ls (pa_cons (pe_fldK (K0 := K) rfl (pv 3) rfl) (pa_cons (pe_fldK (K0 := K) rfl (pv 3) rfl) pa_nil))))))
        (fun a oe cls d pn hz hf => pss_one (ps_set (i := 2) sc__law_read.nd rfl (Or.inl rfl) (Mq.pe_ls (pa_cons pe_str (pa_cons (pe_xf T.xf T.nt hz hf (pv 4)) (pa_cons (pe_callB (call_heldX T.held hz hf) (by rfl) B.isi (by decide +kernel) (pa_cons (pv 4) (pa_cons (pe_glob (v := .ref CM) (by rfl) T.gM rfl) pa_nil))) pa_nil)))))))
      (pss_one (ps_ret (pv 2))))), ?_⟩
    have finB : ∀ k, hearBad k H Q → ∀ H1 dd, Same H H1 → H1 dd = none → ∀ p, upd H1 dd (.xd [("line", .int (k : Nat))]) p = none → p ≠ sysModules → Q (.ref p) (upd (upd H1 dd (.xd [("line", .int (k : Nat))])) p (.lst [.str "bad", .int (k : Nat), .bl true])) := by
      intro k q H1 dd s1 hdd p hp hne
      exact q _ p ((s1.trans (same_new hdd)).trans (same_new hp)) hne upd_same
    have good : ∀ (sg : List Nat) (ns : List Nd), (∀ H' p na, Same H H' → p ≠ sysModules → H' p = some (.lst [.str (S sg), .ref na]) → NodesAt K H' na ns → Q (.ref p) H') → ∀ H1 r na, Same H H1 → RdAt H1 C r sg na → NodesAt K H1 na ns →
        ∃ dx, H1 r = some (.ins C dx (rdF sg na)) ∧ ∀ p, H1 p = none → p ≠ sysModules → Q (.ref p) (upd H1 p (.lst [.str (S sg), .ref na])) := by
      intro sg ns q H1 r na s1 ⟨dx, h1⟩ h2
      refine ⟨dx, h1, fun p hp hne => ?_⟩
      have s2 := same_new (o := HO.lst [V.str (S sg), .ref na]) hp
      exact q _ p na (s1.trans s2) hne upd_same (h2.same s2)
    cases b with
    | true =>
      refine ⟨_, rfl, _, rfl, ifT rfl ?_⟩
      refine ⟨rfl, _, rfl, rfl, v, rfl, ?_⟩
      rcases h with ⟨hn, q⟩ | ⟨t, rfl, ht, hlow, q⟩
      · refine Or.inl ⟨hn, fun H1 dd s1 hdd => ?_⟩
        unfold lineD
        refine ⟨true, T.exm, fun _ a0 ha0 => ?_, fun z => nomatch z⟩
        exact ⟨_, rfl, rfl, rfl, dd, _, _, rfl, upd_same, rfl, _, rfl, rfl, dd, CM, _, true, rfl, rfl, upd_same, T.kit, sz_le (n := 3) (by decide), fun p hp hne => ⟨_, rfl, finB 0 q H1 dd s1 hdd p hp hne⟩⟩
      · refine Or.inr ⟨t, rfl, ht, hlow, ?_⟩
        cases hp : pageM t with
        | inr k =>
          rw [hp] at q
          intro H1 dd s1 hdd
          unfold lineD
          refine ⟨true, T.exm, fun _ a0 ha0 => ?_, fun z => nomatch z⟩
          exact ⟨_, rfl, rfl, rfl, dd, _, _, rfl, upd_same, rfl, _, rfl, rfl, dd, CM, _, true, rfl, rfl, upd_same, T.kit, sz_le (n := 3) (by decide), fun p hp hne => ⟨_, rfl, finB k q H1 dd s1 hdd p hp hne⟩⟩
        | inl a =>
          obtain ⟨sg, ns⟩ := a
          rw [hp] at q
          intro H1 r na s1 hb hna
          obtain ⟨dx, h1, fin⟩ := good sg ns q H1 r na s1 hb hna
          refine ⟨_, rfl, r, C, dx, _, _, rfl, h1, R.cls, R.nL, rfl, _, rfl, r, C, dx, _, _, rfl, h1, R.cls, R.nN, rfl, sz_le (n := 2) (by decide), fun p hp hne => ⟨_, rfl, fin p hp hne⟩⟩
    | false =>
      refine ⟨_, rfl, _, rfl, ifF rfl ?_⟩
      refine ⟨rfl, _, rfl, rfl, v, rfl, ?_⟩
      rcases h with ⟨hn, q⟩ | ⟨t, rfl, ht, hlow, q⟩
      · refine Or.inl ⟨hn, fun H1 dd s1 hdd => ?_⟩
        unfold lineD
        refine ⟨true, T.exm, fun _ a0 ha0 => ?_, fun z => nomatch z⟩
        exact ⟨_, rfl, rfl, rfl, dd, _, _, rfl, upd_same, rfl, _, rfl, rfl, dd, CM, _, true, rfl, rfl, upd_same, T.kit, sz_le (n := 3) (by decide), fun p hp hne => ⟨_, rfl, finB 0 q H1 dd s1 hdd p hp hne⟩⟩
      · refine Or.inr ⟨t, rfl, ht, hlow, ?_⟩
        cases hp : pageM t with
        | inr k =>
          rw [hp] at q
          intro H1 dd s1 hdd
          unfold lineD
          refine ⟨true, T.exm, fun _ a0 ha0 => ?_, fun z => nomatch z⟩
          exact ⟨_, rfl, rfl, rfl, dd, _, _, rfl, upd_same, rfl, _, rfl, rfl, dd, CM, _, true, rfl, rfl, upd_same, T.kit, sz_le (n := 3) (by decide), fun p hp hne => ⟨_, rfl, finB k q H1 dd s1 hdd p hp hne⟩⟩
        | inl a =>
          obtain ⟨sg, ns⟩ := a
          rw [hp] at q
          intro H1 r na s1 hb hna
          obtain ⟨dx, h1, fin⟩ := good sg ns q H1 r na s1 hb hna
          refine ⟨_, rfl, r, C, dx, _, _, rfl, h1, R.cls, R.nL, rfl, _, rfl, r, C, dx, _, _, rfl, h1, R.cls, R.nN, rfl, sz_le (n := 2) (by decide), fun p hp hne => ⟨_, rfl, fin p hp hne⟩⟩
end
end Lw

namespace Lw
open PySem PySem.Spec PyProof.Rows L2 Mq
open SX (S)
/-! ### a text is read, or refused, as it must be -/
theorem read_ts {sg line : List Nat} {m : Nat} {n : Nd} (h : readM sg m line = some n) : ∀ t ∈ tsOf n, t < m := by
  unfold readM at h
  split at h
  · cases h
    exact fun _ h => by cases h
  · split at h
    · split at h
      · cases h
      · split at h
        · split at h
          · cases h
            exact fun _ h => by cases h
          · cases h
        · split at h
          · cases h
          · rename_i ts e3
            split at h
            · cases h
              exact (rdNs_lt e3).2
            · cases h
    · cases h
theorem low_okD {l : List Nat} (h : LowL l) : OkD l.length 0 (.str (S l)) := okD_str h (Nat.le_refl _)
theorem ints_okR : ∀ {ts : List Nat}, (∀ t ∈ ts, t ≤ 4100) → ∃ w, LsOk w 0 (ts.map fun t => .int ((t : Nat) : Int))
  | [], _ => ⟨0, LsOk.nil⟩
  | t :: ts, h => by
    obtain ⟨w, ih⟩ := ints_okR fun x hx => h x (List.mem_cons_of_mem _ hx)
    exact ⟨_, LsOk.cons (okD_int (h t List.mem_cons_self)) ih⟩
theorem nd_okR {n : Nd} (h : NdLow n) (ht : ∀ t ∈ tsOf n, t ≤ 4100) : ∃ w, OkD w 1 (ndD n) := by
  have sW : ∀ z : Str, okB 5 0 (.str z) = true → OkD 5 0 (.str z) := fun z e => okD_of e
  cases n with
  | none => exact ⟨_, (LsOk.cons (sW "none" (by decide +kernel)) (LsOk.nil (w := 0))).tup⟩
  | stops w => exact ⟨_, (LsOk.cons (sW "stops" (by decide +kernel)) (LsOk.cons (low_okD h) (LsOk.nil (w := 0)))).tup⟩
  | reads b ts =>
    obtain ⟨w, ih⟩ := ints_okR (ts := ts) ht
    have hb : ∃ v, OkD v 0 (optD b) := by
      cases b with
      | none => exact ⟨3, okD_of (by decide +kernel)⟩
      | some w => exact ⟨_, low_okD (h w rfl)⟩
    obtain ⟨v, hb⟩ := hb
    exact ⟨_, (LsOk.cons (sW "reads" (by decide +kernel)) (LsOk.cons hb ih)).tup⟩
theorem nds_okR : ∀ {ns : List Nd}, (∀ n ∈ ns, NdLow n ∧ ∀ t ∈ tsOf n, t ≤ 4100) → ∃ w, LsOk w 1 (ns.map ndD)
  | [], _ => ⟨0, LsOk.nil⟩
  | n :: ns, h => by
    obtain ⟨w, ih⟩ := nds_okR fun x hx => h x (List.mem_cons_of_mem _ hx)
    obtain ⟨v, hn⟩ := nd_okR (h n List.mem_cons_self).1 (h n List.mem_cons_self).2
    exact ⟨_, LsOk.cons hn ih⟩
theorem firstN_lt : ∀ {ms : List (Option Nd)} {i k : Nat}, firstN ms i = some k → k < i + ms.length
  | [], _, _, h => by cases h
  | none :: ms, i, k, h => by
    cases h
    rw [List.length_cons]
    omega
  | some n :: ms, i, k, h => by
    have := firstN_lt (ms := ms) (i := i + 1) h
    rw [List.length_cons]
    omega
theorem page_bad {t : List Nat} {k : Nat} (h : pageM t = .inr k) : k ≤ t.length + 2 := by
  unfold pageM at h
  cases hh : headM t with
  | none =>
    rw [hh] at h
    cases h
    omega
  | some a =>
    obtain ⟨sg, ls⟩ := a
    rw [hh] at h
    dsimp only at h
    obtain ⟨_, _, hll, _⟩ := head_facts hh
    split at h
    · cases h
      omega
    · split at h
      · rename_i k' hf
        cases h
        have := firstN_lt hf
        rw [show (linesM sg ls).length = ls.length from List.length_map _] at this
        omega
      · cases h
theorem page_good {t sg : List Nat} {ns : List Nd} (h : pageM t = .inl (sg, ns)) (ht : t.length ≤ 4000) (hl : LowL t) : LowL sg ∧ OkD 80000 2 (.tuple (ns.map ndD)) := by
  have po := page_ok h ht
  refine ⟨fun c hc => by have := alpha_low ((letters_alpha po.let_).2 c hc); omega, ?_⟩
  have key : ∀ n ∈ ns, NdLow n ∧ ∀ t ∈ tsOf n, t ≤ 4100 := by
    intro n hn
    unfold pageM at h
    cases hh : headM t with
    | none =>
      rw [hh] at h
      cases h
    | some a =>
      obtain ⟨sg', ls⟩ := a
      rw [hh] at h
      dsimp only at h
      obtain ⟨_, _, hll, _⟩ := head_facts hh
      have hlw := head_low hh hl
      split at h
      · cases h
      · split at h
        · cases h
        · cases h
          obtain ⟨l, hlm, e⟩ := filt_mem hn
          exact ⟨read_low e (hlw l hlm), fun x hx => by have := read_ts e x hx; omega⟩
  obtain ⟨w, hw⟩ := nds_okR key
  exact LsOk.tup ⟨hw.sh, hw.de, po.wt, hw.le, hw.lo⟩
def badD (k : Nat) : PyData := .list [.str "bad", .int (k : Nat), .bool true]
def goodD (sg : List Nat) (ns : List Nd) : PyData := .list [.str (S sg), .tuple (ns.map ndD)]
theorem bad_ok {k : Nat} (h : k ≤ 4100) : OkD 100 1 (badD k) :=
  ((LsOk.cons (okD_of (by decide +kernel) : OkD 10 0 (.str "bad")) (LsOk.cons (okD_int h) (LsOk.cons (w := 0) ⟨gs_bool true, rfl⟩ (LsOk.nil (w := 0))))).mono (by decide) (Nat.le_refl _)).lst
theorem good_ok {sg : List Nat} {ns : List Nd} (h1 : LowL sg) (hl : sg.length ≤ 4000) (h2 : OkD 80000 2 (.tuple (ns.map ndD))) : OkD 85000 3 (goodD sg ns) :=
  ((LsOk.cons ((okD_str h1 hl).mono (Nat.le_refl _) (Nat.zero_le 2)) (LsOk.cons h2 (LsOk.nil (w := 0)))).mono (by decide) (Nat.le_refl _)).lst
theorem twice_ok {d : PyData} {w n : Nat} (g : OkD w n d) (hw : w ≤ 90000) (hn : n ≤ 30) : ShowOk (.list [d, d]) := two_ok g g hw hn
def RdT (K : PySem.W.Frag) (H : Hp) (v : V) : Prop := (∀ H', Same H H' → NoTx K H' v) ∨ ∃ t : List Nat, v = .str (S t) ∧ t.length ≤ 4000 ∧ LowL t
theorem RdT.same {K : PySem.W.Frag} {H H' : Hp} {v : V} (h : RdT K H v) (e : Same H H') : RdT K H' v := by
  rcases h with h | h
  · exact Or.inl fun H2 s2 => h H2 (e.trans s2)
  · exact Or.inr h
def tTail (K : PySem.W.Frag) : TE := fun σ H Q => ∃ v p D, σ[0]? = some (some v) ∧ σ[1]? = some (some (.ref p)) ∧ Dg K H (.ref p) D ∧ ShowOk (.list [D, D]) ∧
  (∀ (b : Bool) (H2 : Hp) (Q' : VK), Same H H2 → (∀ H' y, Same H2 H' → Dg K H' y D → Q' y H') → spHeard2 K [v, .bl b] H2 Q' E0) ∧ ∀ H', Same H H' → Q (.bl true) H'
def spRR (K : PySem.W.Frag) : Sp := fun vs H Q _ => ∃ v : V, vs = [v] ∧ RdT K H v ∧ ∀ H', Same H H' → Q (.bl true) H'
section
variable {P : Program} {w : World} {K : PySem.W.Frag} {mg : Str → Option Value} {base : Heap}
theorem ok_read_right {f fP fH : Addr} {fd fdP fdH : FuncData} (F : Fun K "_law_read_right" "_law_read_right" s__law_read_right f fd) (B : Blt mg)
    (FP : Fun K "_law_parts" "_law_parts" s__law_parts fP fdP) (gP : mg "_law_parts" = some (.ref fP)) (bP : Binds K fdP ["_law_page_here"] []) (GP : FnOk P w K mg base CX0 3 fP fdP ["_law_page_here"] (spParts K))
    (FH : Fun K "_law_read" "_law_read" s__law_read fH fdH) (gH : mg "_law_read" = some (.ref fH)) (bH : Binds K fdH ["_law_page_here", "_law_is_named"] []) (GH : FnG P w K mg base CX0 10 fH fdH ["_law_page_here", "_law_is_named"] (spHeard2 K)) :
    FnG P w K mg base CX0 11 f fd ["_law_page_here"] (spRR K) := by
  refine Mq.Fun.okG F sc__law_read_right (fun vs H Q E h => ?_) (fun cdv A outer s H vs Q E gA hr h => ?_)
  · obtain ⟨_, rfl, _⟩ := h
    rfl
  · obtain ⟨v, rfl, hv, q⟩ := h
    refine ⟨_, (pss_cons (ps_set (i := 1) sc__law_read_right.nd rfl (Or.inl rfl) (pe_call GP (hr.mono (by decide)) (by rfl) gP FP.kp bP .nil pass0 (pa_cons (pv 0) pa_nil)))
      (pss_cons (ps_set (i := 1) sc__law_read_right.nd rfl (Or.inl rfl) (pe_ifExp (pt_val (pe_callB call_isi (by rfl) B.isi (by decide +kernel) (pa_cons (pv 1) (pa_cons (pe_bltn (v := .ty "int") (by rfl) B.int (by decide +kernel) rfl) pa_nil)))) (Mq.pe_ls (pa_cons pe_str (pa_cons (pv 1) (pa_cons pe_bl pa_nil)))) (pe_callTy call_lsN (by rfl) B.list (by decide +kernel) (pa_cons (pv 1) pa_nil))))
      (pss_one (ps_ret (PE_imp (t' := tTail K) (pe_cmpR op_eq (pe_callB (call_rep hr gA) (by rfl) B.repr (by decide +kernel) (pa_cons (Mq.pe_ls (pa_cons (pe_callG GH gA (hr.mono (by decide)) (by rfl) gH FH.kp bH pass0 (pa_cons (pv 0) (pa_cons pe_bl pa_nil))) (pa_cons (pe_callG GH gA (hr.mono (by decide)) (by rfl) gH FH.kp bH pass0 (pa_cons (pv 0) (pa_cons pe_bl pa_nil))) pa_nil))) pa_nil)) (pe_callB (call_rep hr gA) (by rfl) B.repr (by decide +kernel) (pa_cons (Mq.pe_ls (pa_cons (pv 1) (pa_cons (pv 1) pa_nil))) pa_nil)) (nomark _)) (fun σ H Q h => by
          obtain ⟨v, p, D, h0, h1, hD, ok, hear, q⟩ := h
          refine ⟨_, h0, hear false H _ (Same.refl H) fun H2 y0 s2 d0 => ?_⟩
          refine ⟨_, h0, hear true H2 _ s2 fun H3 y1 s3 d1 => ?_⟩
          refine ⟨sz_le (n := 2) (by decide), fun pa hpa hna => ?_⟩
          have s4 := same_new (o := HO.lst [y0, y1]) hpa
          have za : upd H3 pa (.lst [y0, y1]) pa = some (.lst [y0, y1]) := upd_same
          have e0 := (d0.same s3).same s4
          have e1 := d1.same s4
          have s24 := (s2.trans s3).trans s4
          generalize upd H3 pa (.lst [y0, y1]) = H4 at za e0 e1 s24 ⊢
          refine ⟨_, .list [D, D], rfl, .lst hna (SqL.of za) (.cons e0 (.cons e1 .nil)), ok.sh, ok.de, ok.le, ?_⟩
          refine ⟨_, h1, _, h1, sz_le (n := 2) (by decide), fun pb hpb hnb => ?_⟩
          have s5 := same_new (o := HO.lst [V.ref p, V.ref p]) hpb
          have e2 := (hD.same s24).same s5
          refine ⟨_, .list [D, D], rfl, .lst hnb (SqL.of upd_same) (.cons e2 (.cons e2 .nil)), ok.sh, ok.de, ok.le, ?_⟩
          refine ⟨rfl, ?_⟩
          rw [decide_eq_true rfl]
          exact q _ (s24.trans s5))))))), ?_⟩
    rcases hv with hn | ⟨t, rfl, ht, hlow⟩
    · refine ⟨_, rfl, v, rfl, Or.inl ⟨hn H (Same.refl H), ?_⟩⟩
      refine ⟨_, rfl, _, .ty "int", _, _, true, rfl, .ty _, .base (.int _), kit_ty (by decide +kernel), true, rfl, ifT rfl ?_⟩
      refine ⟨_, rfl, sz_le (n := 3) (by decide), fun p hp hne => ?_⟩
      have s1 := same_new (o := HO.lst [V.str "bad", V.int ((0 : Nat) : Int), V.bl true]) hp
      refine ⟨v, p, badD 0, rfl, rfl, .lst hne (SqL.of upd_same) (.cons (.str _) (.cons (.int _) (.cons (.bl _) .nil))), twice_ok (bad_ok (Nat.zero_le _)) (by decide) (by decide), fun b H2 Q' s2 k => ?_, fun H' s' => q H' (s1.trans s')⟩
      exact ⟨v, b, rfl, Or.inl ⟨hn H2 (s1.trans s2), fun H' y s' hy e => k H' _ s' (.lst hy (SqL.of e) (.cons (.str _) (.cons (.int _) (.cons (.bl _) .nil))))⟩⟩
    · refine ⟨_, rfl, _, rfl, Or.inr ⟨t, rfl, ht, hlow, fun H1 u s1 hu => ?_⟩⟩
      cases hp : pageM t with
      | inr k =>
        rw [hp] at hu
        have hk := page_bad hp
        cases (show u = .int (k : Nat) from hu)
        refine ⟨_, rfl, _, .ty "int", _, _, true, rfl, .ty _, .base (.int _), kit_ty (by decide +kernel), true, rfl, ifT rfl ?_⟩
        refine ⟨_, rfl, sz_le (n := 3) (by decide), fun p hpp hne => ?_⟩
        have s2 := s1.trans (same_new (o := HO.lst [V.str "bad", V.int ((k : Nat) : Int), V.bl true]) hpp)
        refine ⟨_, p, badD k, rfl, rfl, .lst hne (SqL.of upd_same) (.cons (.str _) (.cons (.int _) (.cons (.bl _) .nil))), twice_ok (bad_ok (by omega)) (by decide) (by decide), fun b H2 Q' s3 kk => ?_, fun H' s' => q H' (s2.trans s')⟩
        refine ⟨_, b, rfl, Or.inr ⟨t, rfl, ht, hlow, ?_⟩⟩
        rw [hp]
        exact fun H' y s' hy e => kk H' _ s' (.lst hy (SqL.of e) (.cons (.str _) (.cons (.int _) (.cons (.bl _) .nil))))
      | inl a =>
        obtain ⟨sg, ns⟩ := a
        rw [hp] at hu
        have po := page_ok hp ht
        obtain ⟨hlo, okn⟩ := page_good hp ht hlow
        obtain ⟨p, na, rfl, hpt, hna⟩ := hu
        have dg : ∀ H' na, NodesAt K H' na ns → Dg K H' (.ref na) (.tuple (ns.map ndD)) := fun H' na ⟨vs, h1, h2⟩ => .tup h1 (nds_dg h2)
        refine ⟨_, rfl, _, .ty "int", _, _, false, rfl, .ty _, ty_tup hpt, kit_ty (by decide +kernel), false, rfl, ifF rfl ?_⟩
        refine ⟨_, rfl, p, _, rfl, hpt, fun p2 hpp hne => ?_⟩
        have s2 := same_new (o := HO.lst [V.str (S sg), V.ref na]) hpp
        refine ⟨_, p2, goodD sg ns, rfl, rfl, .lst hne (SqL.of upd_same) (.cons (.str _) (.cons (dg _ na (hna.same s2)) .nil)), twice_ok (good_ok hlo po.sgl okn) (by decide) (by decide), fun b H2 Q' s3 kk => ?_, fun H' s' => q H' ((s1.trans s2).trans s')⟩
        refine ⟨_, b, rfl, Or.inr ⟨t, rfl, ht, hlow, ?_⟩⟩
        rw [hp]
        exact fun H' y na' s' hy e h1 => kk H' _ s' (.lst hy (SqL.of e) (.cons (.str _) (.cons (dg H' na' h1) .nil)))
end
end Lw

namespace Lw
open PySem PySem.Spec PyProof.Rows L2 Mq
open SX (S)
/-! ### texts with something otherwise: lines and words -/
def cutL (c : Nat) : List Nat → List (List Nat)
  | [] => [[]]
  | d :: r => if d = c then [] :: cutL c r else match cutL c r with
    | [] => [[d]]
    | p :: ps => (d :: p) :: ps
theorem joinL_two (sep p q : List Nat) (r : List (List Nat)) : TL.joinL sep (p :: q :: r) = p ++ (sep ++ TL.joinL sep (q :: r)) := rfl
theorem cutL_ok (c : Nat) : ∀ a : List Nat, TL.joinL [c] (cutL c a) = a ∧ cutL c a ≠ [] ∧ ∀ p ∈ cutL c a, c ∉ p
  | [] => ⟨rfl, by simp [cutL], fun p hp => by rw [List.mem_singleton.mp hp]; exact fun h => by cases h⟩
  | d :: r => by
    obtain ⟨h1, h2, h3⟩ := cutL_ok c r
    unfold cutL
    by_cases e : d = c
    · rw [if_pos e]
      refine ⟨?_, by simp, fun p hp => ?_⟩
      · cases e2 : cutL c r with
        | nil => exact (h2 e2).elim
        | cons p ps =>
          rw [e2] at h1
          rw [joinL_two, h1, e]
          rfl
      · rcases List.mem_cons.mp hp with e3 | hp
        · rw [e3]
          exact fun h => by cases h
        · exact h3 p hp
    · rw [if_neg e]
      cases e2 : cutL c r with
      | nil => exact (h2 e2).elim
      | cons p ps =>
        rw [e2] at h1 h3
        refine ⟨?_, by simp, fun q hq => ?_⟩
        · cases ps with
          | nil => show d :: p = d :: r; rw [show p = r from h1]
          | cons q qs =>
            rw [joinL_two] at h1 ⊢
            rw [← h1]
            rfl
        · rcases List.mem_cons.mp hq with e3 | hq
          · rw [e3]
            intro h
            rcases List.mem_cons.mp h with h | h
            · exact e h.symm
            · exact h3 p List.mem_cons_self h
          · exact h3 q (List.mem_cons_of_mem _ hq)
theorem spl_free {c : Nat} (hc : c < 256) (a : List Nat) : ∀ p ∈ spl c a, c ∉ p := by
  obtain ⟨h1, h2, h3⟩ := cutL_ok c a
  have e := spl_of hc h2 h3
  rw [h1] at e
  rw [e]
  exact h3
def WOk (_ : List Nat) : Prop := True
structure LnOk (b : Nat) (l : List Nat) : Prop where
  low : LowL l
  wds : (spl 32 l).length ≤ b
  wok : ∀ w ∈ spl 32 l, WOk w
  nl : 10 ∉ l
/-- a page by its lines -/
structure Pg (a b c : Nat) (t : List Nat) : Prop where
  lns : (spl 10 t).length ≤ a
  len : t.length + 1 ≤ c
  ok : ∀ l ∈ spl 10 t, LnOk b l
theorem LnOk.mono {b b' : Nat} {l : List Nat} (h : LnOk b l) (hb : b ≤ b') : LnOk b' l := ⟨h.low, Nat.le_trans h.wds hb, h.wok, h.nl⟩
theorem pg_join {a b c : Nat} {ws : List (List Nat)} (h1 : ws.length ≤ a) (h2 : sumL ws ≤ c) (h3 : ∀ l ∈ ws, LnOk b l) (ha : 1 ≤ a) (hb : 1 ≤ b) (hc : 1 ≤ c) : Pg a b c (TL.joinL [10] ws) := by
  by_cases e : ws = []
  · subst e
    have e2 : spl 10 (TL.joinL [10] []) = [[]] := by decide +kernel
    refine ⟨by rw [e2]; exact ha, hc, fun l hl => ?_⟩
    rw [e2] at hl
    rw [List.mem_singleton.mp hl]
    have e3 : spl 32 [] = [[]] := by decide +kernel
    refine ⟨(fun c hc => by cases hc), (by rw [e3]; exact hb), fun w hw => ?_, fun h => by cases h⟩
    trivial
  · have e2 := spl_of (c := 10) (by decide) e fun l hl => (h3 l hl).nl
    have e3 := join_len 10 ws e
    refine ⟨by rw [e2]; exact h1, ?_, fun l hl => ?_⟩
    · rw [e3]
      exact h2
    · rw [e2] at hl
      exact h3 l hl
theorem ln_join {b : Nat} {ws : List (List Nat)} (hn : ws ≠ []) (h1 : ws.length ≤ b) (h2 : ∀ w ∈ ws, LowL w ∧ 10 ∉ w ∧ 32 ∉ w ∧ WOk w) : LnOk b (TL.joinL [32] ws) := by
  have e := spl_of (c := 32) (by decide) hn fun l hl => (h2 l hl).2.2.1
  refine ⟨joinL_low (by decide) fun w hw => (h2 w hw).1, by rw [e]; exact h1, fun w hw => ?_, fun h => ?_⟩
  · rw [e] at hw
    exact (h2 w hw).2.2.2
  · rcases join_in 32 h with h | ⟨p, hp, h⟩
    · cases h
    · exact (h2 p hp).2.1 h
theorem ln_words {b : Nat} {l : List Nat} (h : LnOk b l) : ∀ w ∈ spl 32 l, LowL w ∧ 10 ∉ w ∧ 32 ∉ w ∧ WOk w := fun w hw =>
  ⟨fun c hc => h.low c (spl_mem hw hc), fun h2 => h.nl (spl_mem hw h2), spl_free (by decide) l w hw, h.wok w hw⟩
def lowB (w : List Nat) : Bool := w.all (fun c => decide (c < 128) && (decide (c ≠ 10) && decide (c ≠ 32)))
def wordB (w : List Nat) : Bool := lowB w && decide (w.length ≤ 5)
theorem word_ok {w : List Nat} (h : wordB w = true) : (LowL w ∧ 10 ∉ w ∧ 32 ∉ w ∧ WOk w) ∧ w.length ≤ 5 := by
  unfold wordB lowB at h
  obtain ⟨h1, h4⟩ := Bool.and_eq_true_iff.mp h
  have h1 : ∀ c ∈ w, c < 128 ∧ c ≠ 10 ∧ c ≠ 32 := fun c hc => by
    have := List.all_eq_true.mp h1 c hc
    obtain ⟨a, b⟩ := Bool.and_eq_true_iff.mp this
    obtain ⟨b, d⟩ := Bool.and_eq_true_iff.mp b
    exact ⟨of_decide_eq_true a, of_decide_eq_true b, of_decide_eq_true d⟩
  exact ⟨⟨fun c hc => (h1 c hc).1, fun h => (h1 _ h).2.1 rfl, fun h => (h1 _ h).2.2 rfl, trivial⟩, of_decide_eq_true h4⟩
def pool : List (List Nat) := [[97], [45], [33], [], [48], [49], [57], [48, 49], [45, 49], noneL, stopsL, readsL, [98], [65]]
theorem pool_ok : ∀ w ∈ pool, (LowL w ∧ 10 ∉ w ∧ 32 ∉ w ∧ WOk w) ∧ w.length ≤ 5 := by
  have h : pool.all wordB = true := by decide +kernel
  exact fun w hw => word_ok (List.all_eq_true.mp h w hw)
def dbl : List (List Nat) → List (List Nat)
  | [] => []
  | [x] => [x]
  | x :: y :: r => x :: [] :: dbl (y :: r)
theorem dbl_cons (y : List Nat) (r : List (List Nat)) : ∃ z zs, dbl (y :: r) = z :: zs := by
  cases r with
  | nil => exact ⟨_, _, rfl⟩
  | cons a b => exact ⟨_, _, rfl⟩
theorem dbl_join : ∀ ws : List (List Nat), TL.joinL [32, 32] ws = TL.joinL [32] (dbl ws)
  | [] => rfl
  | [x] => rfl
  | x :: y :: r => by
    have ih := dbl_join (y :: r)
    obtain ⟨z, zs, e⟩ := dbl_cons y r
    rw [joinL_two, ih]
    show _ = TL.joinL [32] (x :: [] :: dbl (y :: r))
    rw [e, joinL_two, joinL_two]
    rfl
theorem dbl_len : ∀ ws : List (List Nat), (dbl ws).length ≤ 2 * ws.length
  | [] => Nat.le_refl _
  | [x] => by show 1 ≤ 2 * 1; decide
  | x :: y :: r => by
    have ih := dbl_len (y :: r)
    show (dbl (y :: r)).length + 1 + 1 ≤ 2 * ((y :: r).length + 1)
    omega
theorem dbl_mem : ∀ {ws : List (List Nat)} {w : List Nat}, w ∈ dbl ws → w = [] ∨ w ∈ ws
  | [], w, h => by cases h
  | [x], w, h => Or.inr h
  | x :: y :: r, w, h => by
    rcases List.mem_cons.mp (show w ∈ x :: [] :: dbl (y :: r) from h) with h | h
    · exact Or.inr (by rw [h]; exact List.mem_cons_self)
    · rcases List.mem_cons.mp h with h | h
      · exact Or.inl h
      · exact (dbl_mem h).imp id fun h => List.mem_cons_of_mem _ h
theorem dbl_sum : ∀ ws : List (List Nat), sumL (dbl ws) ≤ 2 * sumL ws
  | [] => Nat.le_refl _
  | [x] => by show x.length + 1 + 0 ≤ 2 * (x.length + 1 + 0); omega
  | x :: y :: r => by
    have ih := dbl_sum (y :: r)
    show (x.length + 1) + ((0 + 1) + sumL (dbl (y :: r))) ≤ 2 * ((x.length + 1) + sumL (y :: r))
    omega
theorem empty_ok : LowL [] ∧ 10 ∉ ([] : List Nat) ∧ 32 ∉ ([] : List Nat) ∧ WOk [] := (word_ok (w := []) (by decide +kernel)).1
theorem repl_ok {b : Nat} {l : List Nat} (h : LnOk b l) (hb : 1 ≤ b) : ∃ r, Txt.replace (S l) (S [32]) (S [32, 32]) = S r ∧ LnOk (2 * b) r ∧ r.length ≤ 2 * l.length + 2 := by
  have hw := ln_words h
  have hne := spl_ne 32 l
  unfold Txt.replace
  split
  · exact ⟨l, rfl, h.mono (by omega), by omega⟩
  · rename_i hc
    by_cases hl : l = []
    · subst hl
      exact (hc (by decide +kernel)).elim
    · refine ⟨TL.joinL [32, 32] (spl 32 l), ?_, ?_, ?_⟩
      · rw [← SX.join_S, ← spl_S]
        unfold Txt.join Txt.split
        have h1 : decide ((S l).length < (S [32]).length) = false := by
          rw [SX.S_len, SX.S_len]
          have := pos_of hl
          exact decide_eq_false (by show ¬ l.length < 1; omega)
        have h2 : decide (Builtin.Str.strKind (S l) < Builtin.Str.strKind (S [32])) = false := by
          rw [kind_low h.low, kind_low (l := [32]) (fun c hc => by rw [List.mem_singleton.mp hc]; decide)]
          rfl
        rw [h1, h2]
        have h3 : ¬ (Builtin.Str.occurrences (S l) (S [32]) 0 (S l).length ((S l).length + 1)).isEmpty = true := fun e => hc (by rw [e]; rfl)
        rw [if_neg (by decide), if_neg h3]
      · rw [dbl_join]
        refine ln_join ?_ (Nat.le_trans (dbl_len _) (by have := h.wds; omega)) fun w hw2 => ?_
        · cases e : spl 32 l with
          | nil => exact (hne e).elim
          | cons y r =>
            obtain ⟨z, zs, e2⟩ := dbl_cons y r
            rw [e2]
            simp
        · rcases dbl_mem hw2 with e | e
          · rw [e]
            exact empty_ok
          · exact hw w e
      · rw [dbl_join]
        have h1 := joinL_le 32 (dbl (spl 32 l))
        have h2 := dbl_sum (spl 32 l)
        have h3 : sumL (spl 32 l) = l.length + 1 := spl_sum 32 l
        omega
theorem join_snoc (ws : List (List Nat)) (w : List Nat) (h : ws ≠ []) : TL.joinL [32] (ws ++ [w]) = TL.joinL [32] ws ++ ([32] ++ w) := by
  induction ws with
  | nil => exact (h rfl).elim
  | cons x r ih =>
    cases r with
    | nil => rfl
    | cons y r =>
      show TL.joinL [32] (x :: y :: (r ++ [w])) = _
      rw [joinL_two, joinL_two]
      have := ih (by simp)
      rw [show y :: (r ++ [w]) = (y :: r) ++ [w] from rfl, this]
      simp
theorem ln_snoc {b : Nat} {l w : List Nat} (h : LnOk b l) (hw : LowL w ∧ 10 ∉ w ∧ 32 ∉ w ∧ WOk w) : LnOk (b + 1) (l ++ ([32] ++ w)) := by
  have e := join_snoc (spl 32 l) w (spl_ne 32 l)
  rw [spl_join] at e
  rw [← e]
  refine ln_join (by simp) (by rw [List.length_append]; have := h.wds; show _ + 1 ≤ _; omega) fun u hu => ?_
  rcases List.mem_append.mp hu with hu | hu
  · exact ln_words h u hu
  · rw [List.mem_singleton.mp hu]
    exact hw
theorem ln_front {b : Nat} {l : List Nat} (h : LnOk b l) : LnOk (b + 1) ([32] ++ l) := by
  have e : TL.joinL [32] ([] :: spl 32 l) = [32] ++ l := by
    cases e : spl 32 l with
    | nil => exact (spl_ne 32 l e).elim
    | cons y r =>
      rw [joinL_two, ← e, spl_join]
      rfl
  rw [← e]
  refine ln_join (by simp) (by rw [List.length_cons]; have := h.wds; omega) fun u hu => ?_
  rcases List.mem_cons.mp hu with hu | hu
  · rw [hu]
    exact empty_ok
  · exact ln_words h u hu
theorem ln_set {b : Nat} {l w : List Nat} {k : Nat} (h : LnOk b l) (hw : LowL w ∧ 10 ∉ w ∧ 32 ∉ w ∧ WOk w) : LnOk b (TL.joinL [32] ((spl 32 l).set k w)) := by
  refine ln_join ?_ (by rw [List.length_set]; exact h.wds) fun u hu => ?_
  · intro e
    have := congrArg List.length e
    rw [List.length_set] at this
    exact spl_ne 32 l (List.length_eq_zero_iff.mp this)
  · rcases List.mem_or_eq_of_mem_set hu with hu | hu
    · exact ln_words h u hu
    · rw [hu]
      exact hw
theorem ln_nil {b : Nat} (hb : 1 ≤ b) : LnOk b [] := by
  have := ln_join (b := b) (ws := [[]]) (by simp) hb fun w hw => by rw [List.mem_singleton.mp hw]; exact empty_ok
  exact this
end Lw

namespace Mq
open PySem PySem.Spec PyProof.Rows L2
/-! ### e.replace(c, d) of two written texts, e any expression, behind a first item that gives out a token -/
section
variable {X : Cx}
def tRepE (te : TE) (y z : Str) : TE := fun σ H Q => te σ H fun v H1 => ∃ x, v = .str x ∧ x.length + (x.length + 1) * z.length ≤ 16777216 ∧ Q (.str (Txt.replace x y z)) H1
theorem pet_repE {e : Expr} {te : TE} {j0 j1 : Nat} {y z : Str} {c0 c1 apos pos : Pos} (he : PE X e te) (hyz : (y == z) = false)
    (hst : starEach [.Constant (.str y) j0 c0, .Constant (.str z) j1 c1] X.env = [(false, eval (.Constant (.str y) j0 c0) X.env), (false, eval (.Constant (.str z) j1 c1) X.env)] := by rfl)
    (hbase : attributeBase e "replace" X.env (eval e X.env) = eval e X.env := by rfl) (hline : (apos.endLine == pos.line) = true := by rfl) :
    PET X (.Call (.Attribute e "replace" apos) [.Constant (.str y) j0 c0, .Constant (.str z) j1 c1] [] pos) (tRepE te y z) := by
  intro pins s σ H Q h0 I h
  refine PySem.Call_method2 hbase hst hline ?_
  refine wpAny_mono (PySem.wpAny_toks (he.run pins s σ H _ I h)) (fun v s1 hq => ?_) fun _ _ z => z.2
  obtain ⟨hk, y0, H1, I1, r1, x, rfl, hb, q⟩ := hq
  obtain ⟨tx, e⟩ := r1
  subst e
  have hk' : s.toks ≤ s1.toks := hk
  refine ⟨"str", _, F.plainAttrs_str, F.slot_str_replace, F.type_str_replace, typeIs_str _ _ _, (fun _ e => nomatch e), Calls.callWith_builtin rfl (Calls.evalArgs_plain (Calls.spliced_cons ?_))⟩
  refine Calls.Constant_str (Calls.spliced_cons (Calls.Constant_str (Calls.spliced_nil ?_)))
  exact PySem.SC.replace (show s1.toks ≠ 0 by omega) (show s1.toks + 1 ≠ 0 by omega) (show s1.toks ≠ s1.toks + 1 by omega) hyz hb fun t' k => ⟨.str (Txt.replace x y z), H1, I1.tok k, ⟨t', rfl⟩, q⟩
end
end Mq

namespace Lw
open PySem PySem.Spec PyProof.Rows L2 Mq
open SX (S)
/-! ### a text with something otherwise: the def -/
theorem joinS (sep : List Nat) (ws : List (List Nat)) (w : List Nat) (h : ws ≠ []) : TL.joinL sep (ws ++ [w]) = TL.joinL sep ws ++ (sep ++ w) := by
  induction ws with
  | nil => exact (h rfl).elim
  | cons x r ih =>
    cases r with
    | nil => rfl
    | cons y r =>
      show TL.joinL sep (x :: y :: (r ++ [w])) = _
      rw [joinL_two, joinL_two]
      have := ih (by simp)
      rw [show y :: (r ++ [w]) = (y :: r) ++ [w] from rfl, this]
      simp
theorem Pg.mono {a b c a' b' c' : Nat} {t : List Nat} (h : Pg a b c t) (ha : a ≤ a') (hb : b ≤ b') (hc : c ≤ c') : Pg a' b' c' t := ⟨Nat.le_trans h.lns ha, Nat.le_trans h.len hc, fun l hl => (h.ok l hl).mono hb⟩
theorem pool_is : ([V.str "a", V.str "-", V.str "!", V.str "", V.str "0", V.str "1", V.str "9", V.str "01", V.str "-1", V.str "none", V.str "stops", V.str "reads", V.str "b", V.str "A"] : List V) = txs pool := by decide +kernel
def tEnd : TE := fun σ H Q => ∃ (W : Addr) (ps : List (List Nat)) (way a b c : Nat), σ[2]? = some (some (.ref W)) ∧ σ[3]? = some (some (.int ((way : Nat) : Int))) ∧ H W = some (.lst (txs ps)) ∧ (∀ l ∈ ps, LnOk b l) ∧ ps.length ≤ a ∧ sumL ps ≤ c ∧ c ≤ 100000 ∧ 1 ≤ b ∧ 1 ≤ a ∧ 1 ≤ c ∧ (ps ≠ [] ∨ way ≠ 7) ∧
  ∀ l, Pg (a + 1) b (c + 1) l → Q (.str (S l)) H
def spBentPage : Sp := fun vs H Q _ => ∃ (D C : Addr) (T : Nat) (t : List Nat) (a b c : Nat), vs = [.ref D, .str (S t)] ∧ DeckAt D C T H ∧ T ≤ 890000 ∧ Pg a b c t ∧ a ≤ 50 ∧ b ≤ 100 ∧ c ≤ 4000 ∧ 1 ≤ b ∧
  ∀ H' l, Pg (a + 2) (2 * b + 2) (2 * c + 20) l → DeckAt D C (T + 6) H' → Off D C H H' → Q (.str (S l)) H'
section
variable {P : Program} {w : World} {K : PySem.W.Frag} {mg : Str → Option Value} {base : Heap}
theorem ok_bent_page {f fD fP : Addr} {fd fdD fdP : FuncData} (F : Fun K "_law_bent_page" "_law_bent_page" s__law_bent_page f fd) (B : Blt mg)
    (FD : Fun K "_law_draw" "_law_draw" s__law_draw fD fdD) (gD : mg "_law_draw" = some (.ref fD)) (bD : Binds K fdD ["_law_deck_here", "_law_below"] []) (GD : FnOk P w K mg base CX0 1 fD fdD ["_law_deck_here", "_law_below"] spDraw)
    (FP : Fun K "_law_pick" "_law_pick" s__law_pick fP fdP) (gP : mg "_law_pick" = some (.ref fP)) (bP : Binds K fdP ["_law_deck_here", "_law_some"] []) (GP : FnOk P w K mg base CX0 2 fP fdP ["_law_deck_here", "_law_some"] spPick) :
    FnOk P w K mg base CX0 3 f fd ["_law_deck_here", "_law_page_here"] spBentPage := by
  refine F.ok sc__law_bent_page (fun vs H Q E h => ?_) (fun cdv A outer s H vs Q E hr h => ?_)
  · obtain ⟨_, _, _, _, _, _, _, rfl, _⟩ := h
    rfl
  · obtain ⟨D, C, T, t, a, b, c, rfl, hdk, hT, hpg, ha12, hb100, hc4, hb1, q⟩ := h
    refine ⟨_, (pss_cons (ps_par (i := 2) (j := 3) rfl sc__law_bent_page.nd rfl rfl (by decide) rfl rfl (pa_cons (pe_split (pv 1) pe_str) (pa_cons (pe_call GD (hr.mono (by decide)) (by rfl) gD FD.kp bD .nil pass0 (pa_cons (pv 0) (pa_cons pe_int pa_nil))) pa_nil)) (by rfl))
      (pss_cons (ps_par (i := 4) (j := 5) rfl sc__law_bent_page.nd rfl rfl (by decide) rfl rfl (pa_cons (pe_call GD (hr.mono (by decide)) (by rfl) gD FD.kp bD .nil pass0 (pa_cons (pv 0) (pa_cons (pe_callB call_len_seq (by rfl) B.len (by decide +kernel) (pa_cons (pv 2) pa_nil)) pa_nil))) (pa_cons (pe_call GD (hr.mono (by decide)) (by rfl) gD FD.kp bD .nil pass0 (pa_cons (pv 0) (pa_cons (pe_callB call_len_seq (by rfl) B.len (by decide +kernel) (pa_cons (pv 2) pa_nil)) pa_nil))) pa_nil)) (by rfl))
      (pss_cons (ps_set (i := 6) sc__law_bent_page.nd rfl (Or.inl rfl) (pe_split (pe_ix ix_list (pv 2) (pv 4) (fun _ _ => rfl)) pe_str))
      (pss_cons (ps_set (i := 7) sc__law_bent_page.nd rfl (Or.inl rfl) (pe_call GD (hr.mono (by decide)) (by rfl) gD FD.kp bD .nil pass0 (pa_cons (pv 0) (pa_cons (pe_callB call_len_seq (by rfl) B.len (by decide +kernel) (pa_cons (pv 6) pa_nil)) pa_nil))))
      (pss_cons (ps_if (pt_cmpR op_lt (pv 3) pe_int (nomark _))
          (pss_cons (ps_set (i := 8) sc__law_bent_page.nd rfl (Or.inl rfl) (Mq.pe_ls (pa_cons pe_str (pa_cons pe_str (pa_cons pe_str (pa_cons pe_str (pa_cons pe_str (pa_cons pe_str (pa_cons pe_str (pa_cons pe_str (pa_cons pe_str (pa_cons pe_str (pa_cons pe_str (pa_cons pe_str (pa_cons pe_str (pa_cons pe_str pa_nil))))))))))))))))
          (pss_cons (ps_asg (pe_call GP (hr.mono (by decide)) (by rfl) gP FP.kp bP .nil pass0 (pa_cons (pv 0) (pa_cons (pv 8) pa_nil))) (pg_sub (pv 6) (pv 7) set_list))
          (pss_one (ps_asg (pe_join pe_str (pv 6)) (pg_sub (pv 2) (pv 4) set_list)))))
        (pss_one (ps_if (pt_cmpR op_eq (pv 3) pe_int (nomark _)) (pss_one (ps_set (i := 2) sc__law_bent_page.nd rfl (Or.inl rfl) (pe_op op_cat (pe_slice sl_list (pv 2) po_none (po_some (pv 4))) (pe_slice sl_list (pv 2) (po_some (pe_op op_add (pv 4) pe_int)) po_none))))
        (pss_one (ps_if (pt_cmpR op_eq (pv 3) pe_int (nomark _)) (pss_one (ps_asg (pe_tup (pa_cons (pe_ix ix_list (pv 2) (pv 5) (fun _ _ => rfl)) (pa_cons (pe_ix ix_list (pv 2) (pv 4) (fun _ _ => rfl)) pa_nil))) (pg_tup rfl (pgs_cons (pg_sub (pv 2) (pv 4) set_list) (pgs_cons (pg_sub (pv 2) (pv 5) set_list) pgs_nil)))))
        (pss_one (ps_if (pt_cmpR op_eq (pv 3) pe_int (nomark _))
          (pss_cons (ps_set (i := 8) sc__law_bent_page.nd rfl (Or.inl rfl) (Mq.pe_ls (pa_consT op_add_str (pe_ix ix_list (pv 2) (pv 4) (fun _ _ => rfl)) (L2.pat_cons (pet_of (pe_op op_add_str pe_str (pe_ix ix_list (pv 2) (pv 4) (fun _ _ => rfl)))) (L2.pat_cons (pet_repE (pe_ix ix_list (pv 2) (pv 4) (fun _ _ => rfl)) (by decide +kernel)) (L2.pat_cons (pet_of pe_str) (L2.pat_cons (pet_of (pe_op op_add_str (pe_ix ix_list (pv 2) (pv 4) (fun _ _ => rfl)) pe_str)) L2.pat_nil)))))))
          (pss_one (ps_asg (pe_call GP (hr.mono (by decide)) (by rfl) gP FP.kp bP .nil pass0 (pa_cons (pv 0) (pa_cons (pv 8) pa_nil))) (pg_sub (pv 2) (pv 4) set_list))))
        (pss_one (ps_if (pt_cmpR op_eq (pv 3) pe_int (nomark _)) (pss_one (ps_set (i := 2) sc__law_bent_page.nd rfl (Or.inl rfl) (pe_op op_cat (pe_op op_cat (pe_slice sl_list (pv 2) po_none (po_some (pv 4))) (Mq.pe_ls (pa_cons (pe_ix ix_list (pv 2) (pv 4) (fun _ _ => rfl)) pa_nil))) (pe_slice sl_list (pv 2) (po_some (pv 4)) po_none)))) pss_nil)))))))))
      (pss_one (ps_ret (PE_imp (t' := tEnd) (pe_op op_add_str (pe_join pe_str (pv 2)) (pe_ifExp (pt_cmpR op_eq (pv 3) pe_int (nomark _)) pe_str pe_str)) (fun σ H Q h => by
        obtain ⟨W, ps, way, a, b, c, h2, h3, hW, hok, hla, hsc, hc, hb1, ha1, hc1, hne, q⟩ := h
        refine ⟨⟨_, rfl⟩, _, h2, S [10], W, ps.map S, rfl, rfl, Or.inl (SqL.of (hW.trans (by rw [map_SV]))), by rw [join_bound]; omega, ?_⟩
        rw [SX.join_S]
        have h1 := joinL_le 10 ps
        refine ⟨_, h3, rfl, _, rfl, ite2 (fun hy => ?_) (fun _ => ?_)⟩
        · refine ⟨S (TL.joinL [10] ps), S [10], rfl, rfl, sz_le (by rw [SX.S_len, SX.S_len]; show _ + 1 ≤ _; omega), ?_⟩
          rw [SX.S_cat]
          have hn : ps ≠ [] := hne.resolve_right fun e => e (by have := V.int.inj (of_decide_eq_true hy); omega)
          have e := joinS [10] ps [] hn
          rw [List.append_nil] at e
          rw [← e]
          refine q _ (pg_join (by rw [List.length_append]; show _ + 1 ≤ _; omega) (by rw [sumL_app, sumL_one]; show _ + (0 + 1) ≤ _; omega) (fun l hl => ?_) (by omega) hb1 (by omega))
          rcases List.mem_append.mp hl with hl | hl
          · exact hok l hl
          · rw [List.mem_singleton.mp hl]
            exact ln_nil hb1
        · refine ⟨S (TL.joinL [10] ps), S [], rfl, rfl, sz_le (by rw [SX.S_len, SX.S_len]; show _ + 0 ≤ _; omega), ?_⟩
          rw [SX.S_cat, List.append_nil]
          exact q _ (pg_join (by omega) (by omega) hok (by omega) hb1 (by omega))))))))))), ?_⟩
    have hz : (S t).length = t.length := SX.S_len t
    have htl := hpg.len
    refine ⟨_, rfl, ⟨_, rfl⟩, S t, S [10], rfl, rfl, rfl, sz_le (by omega), fun W hW => ?_⟩
    rw [spl_S, map_SV]
    obtain ⟨nD, nC⟩ := new_ne hdk hW
    have s1 := same_new (o := HO.lst (txs (spl 10 t))) hW
    have z1 : upd H W (.lst (txs (spl 10 t))) W = some (.lst (txs (spl 10 t))) := upd_same
    have dk1 := hdk.same s1
    have off1 : Off D C H (upd H W (.lst (txs (spl 10 t)))) := Off.same s1
    generalize upd H W (.lst (txs (spl 10 t))) = H1 at s1 z1 dk1 off1 ⊢
    have hsum : sumL (spl 10 t) = t.length + 1 := spl_sum 10 t
    have hwo := hpg.ok
    have hla := hpg.lns
    have hnn := spl_ne 10 t
    have hne := pos_of hnn
    generalize spl 10 t = ws at z1 hwo hla hsum hne hnn ⊢
    refine ⟨_, rfl, D, C, T, 8, rfl, dk1, by omega, by decide, by decide, fun H2 way hway dk2 off2 => ?_⟩
    have z2 := off2 W _ nD nC z1
    refine ⟨_, _, rfl, ?_⟩
    refine ⟨_, rfl, _, rfl, W, _, rfl, .inl (SqL.of z2), D, C, T + 1, ws.length, ?_, dk2, by omega, hne, by omega, fun H3 at_ hat dk3 off3 => ?_⟩
    · rw [List.length_map]
      rfl
    have z3 := off3 W _ nD nC z2
    refine ⟨_, rfl, _, rfl, W, _, rfl, .inl (SqL.of z3), D, C, T + 2, ws.length, ?_, dk3, by omega, hne, by omega, fun H4 to hto dk4 off4 => ?_⟩
    · rw [List.length_map]
      rfl
    have z4 := off4 W _ nD nC z3
    have off14 := ((off1.trans off2).trans off3).trans off4
    refine ⟨_, _, rfl, ?_⟩
    have len1 : ∀ {k : Nat} (h : k < ws.length), (ws[k]).length ≤ t.length := by
      intro k h
      have h1 := sum_ge (List.getElem_mem h)
      have h2 : (ws.map fun p => p.length + 1).sum = t.length + 1 := hsum
      omega
    have hlk := hwo _ (List.getElem_mem hat)
    have hll := len1 hat
    refine ⟨_, rfl, _, rfl, W, _, _, _, rfl, rfl, SqL.of z4, txs_at hat, ⟨_, rfl⟩, S ws[at_], S [32], rfl, rfl, rfl, sz_le (by rw [SX.S_len]; omega), fun V2 hV2 => ?_⟩
    rw [spl_S, map_SV]
    obtain ⟨vD, vC⟩ := new_ne dk4 hV2
    have hVW : V2 ≠ W := by
      rintro rfl
      rw [z4] at hV2
      cases hV2
    have s5 := same_new (o := HO.lst (txs (spl 32 ws[at_]))) hV2
    have v5 : upd H4 V2 (.lst (txs (spl 32 ws[at_]))) V2 = some (.lst (txs (spl 32 ws[at_]))) := upd_same
    have z5 := s5 _ _ z4
    have dk5 := dk4.same s5
    have off15 := off14.trans (Off.same s5)
    have hV0 : H V2 = none := by
      cases e : H V2 with
      | none => rfl
      | some o =>
        rw [off14 V2 o vD vC e] at hV2
        cases hV2
    generalize upd H4 V2 (.lst (txs (spl 32 ws[at_]))) = H5 at s5 v5 z5 dk5 off15 ⊢
    have hwc := hlk.wds
    have hwp := pos_of (spl_ne 32 ws[at_])
    refine ⟨_, rfl, _, rfl, V2, _, rfl, .inl (SqL.of v5), D, C, T + 3, (spl 32 ws[at_]).length, ?_, dk5, by omega, hwp, by omega, fun H6 sp hsp dk6 off6 => ?_⟩
    · rw [List.length_map]
      rfl
    have z6 := off6 W _ nD nC z5
    have v6 := off6 V2 _ vD vC v5
    have off16 := off15.trans off6
    have ea : ((at_ : Nat) : Int) + 1 = ((at_ + 1 : Nat) : Int) := by omega
    have hcut := sumL_cut ws at_
    have hdr := sumL_drop ws at_
    have hsz : ∀ (ps qs : List (List Nat)), ps.length ≤ 2000 → qs.length ≤ 2000 → (txs ps).length + (txs qs).length ≤ sizeLine := fun ps qs h1 h2 => sz_le (by rw [List.length_map, List.length_map]; omega)
    have htk : (ws.take at_).length ≤ at_ := by rw [List.length_take]; omega
    have hdp : (ws.drop at_).length = ws.length - at_ := List.length_drop ..
    have hdp1 : (ws.drop (at_ + 1)).length = ws.length - (at_ + 1) := List.length_drop ..
    have set1 : ∀ (k : Nat) (u : List Nat), (txs ws).set k (V.str (S u)) = txs (ws.set k u) := fun k u => List.map_set.symm
    have okT : ∀ n, ∀ l ∈ ws.take n, LnOk b l := fun n l hl => hwo l (List.mem_of_mem_take hl)
    have okD : ∀ n, ∀ l ∈ ws.drop n, LnOk b l := fun n l hl => hwo l (List.mem_of_mem_drop hl)
    have okS : ∀ (k : Nat) (u : List Nat) (b' : Nat), b ≤ b' → LnOk b' u → ∀ l ∈ ws.set k u, LnOk b' l := fun k u b' hb' hu l hl => (List.mem_or_eq_of_mem_set hl).elim (fun h => (hwo l h).mono hb') fun h => by rw [h]; exact hu
    have setN : ∀ (k : Nat) (u : List Nat), ws.set k u ≠ [] := fun k u e => hnn (List.length_eq_zero_iff.mp (by have := congrArg List.length e; rw [List.length_set] at this; exact this))
    refine ⟨_, rfl, _, _, rfl, rfl, _, rfl, ite2 (fun hc => ?_) (fun hc => ?_)⟩
    · refine ⟨sz_le (n := 14) (by decide), fun p hp _ => ?_⟩
      rw [pool_is]
      have t13 := same_new (o := HO.lst (txs pool)) hp
      have dk7 := dk6.same t13
      obtain ⟨pD, pC⟩ := new_ne dk6 hp
      refine ⟨_, rfl, _, rfl, D, C, T + 4, .ref p, rfl, dk7, by omega, Or.inr ⟨p, _, rfl, upd_same, pC, by decide, by decide, fun H9 v hv dk9 off9 => ?_⟩⟩
      obtain ⟨w, hwl, rfl⟩ := List.mem_map.mp hv
      obtain ⟨wok, wn⟩ := pool_ok w hwl
      have z9 := off9 W _ nD nC (t13 _ _ z6)
      have v9 := off9 V2 _ vD vC (t13 _ _ v6)
      refine ⟨_, rfl, _, rfl, V2, _, _, sp, rfl, rfl, v9, ixN_at (by rw [List.length_map]; exact hsp), ?_⟩
      rw [show (txs (spl 32 ws[at_])).set sp (V.str (S w)) = txs ((spl 32 ws[at_]).set sp w) from List.map_set.symm]
      have e2 := sumL_set (spl 32 ws[at_]) sp w
      have e3 : sumL (spl 32 ws[at_]) = (ws[at_]).length + 1 := spl_sum 32 ws[at_]
      have e4 := joinL_le 32 ((spl 32 ws[at_]).set sp w)
      have nl := ln_set (k := sp) hlk wok
      refine ⟨⟨_, rfl⟩, _, rfl, S [32], V2, ((spl 32 ws[at_]).set sp w).map S, rfl, rfl, Or.inl (SqL.of (upd_same.trans (by rw [map_SV]))), by rw [join_bound]; omega, ?_⟩
      rw [SX.join_S]
      generalize TL.joinL [32] ((spl 32 ws[at_]).set sp w) = l' at e4 nl ⊢
      refine ⟨_, rfl, _, rfl, W, _, _, at_, rfl, rfl, (upd_ne (Ne.symm hVW)).trans z9, ixN_at (by rw [List.length_map]; exact hat), ?_⟩
      rw [set1]
      have e5 := sumL_set_eq hat l'
      exact ⟨W, ws.set at_ l', way, a, b, c + 20, rfl, rfl, upd_same, okS at_ l' b (Nat.le_refl _) nl, by rw [List.length_set]; exact hla, by omega, by omega, hb1, by omega, by omega, Or.inl (setN _ _),
        fun l hl => q _ l (hl.mono (by omega) (by omega) (by omega)) ((deck_lst (deck_lst dk9 vD vC) nD nC).mono (by omega)) (off_lst (off_lst ((off16.trans (Off.same t13)).trans off9) hV0) hW)⟩
    refine ⟨_, rfl, rfl, _, rfl, ite2 (fun hc4 => ?_) (fun hc4 => ?_)⟩
    · refine ⟨_, rfl, _, rfl, _, rfl, W, _, rfl, SqL.of z6, fun p1 hp1 => ?_⟩
      rw [txs_to]
      have t1 := same_new (o := HO.lst (txs (ws.take at_))) hp1
      have y1 : upd H6 p1 (.lst (txs (ws.take at_))) p1 = some (.lst (txs (ws.take at_))) := upd_same
      have w1 := t1 _ _ z6
      generalize upd H6 p1 (.lst (txs (ws.take at_))) = G1 at t1 y1 w1 ⊢
      refine ⟨_, rfl, _, rfl, _, _, rfl, rfl, _, rfl, W, _, rfl, SqL.of w1, fun p2 hp2 => ?_⟩
      rw [ea, txs_from]
      have t2 := same_new (o := HO.lst (txs (ws.drop (at_ + 1)))) hp2
      refine ⟨p1, p2, _, _, rfl, rfl, t2 _ _ y1, upd_same, hsz _ _ (by omega) (by omega), fun p3 hp3 => ?_⟩
      rw [show txs (ws.take at_) ++ txs (ws.drop (at_ + 1)) = txs (ws.take at_ ++ ws.drop (at_ + 1)) from List.map_append.symm]
      have t3 := same_new (o := HO.lst (txs (ws.take at_ ++ ws.drop (at_ + 1)))) hp3
      have t13 := (t1.trans t2).trans t3
      have e5 := sumL_app (ws.take at_) (ws.drop (at_ + 1))
      have w8 : way ≠ 7 := by have := V.int.inj (of_decide_eq_true hc4); omega
      exact ⟨p3, ws.take at_ ++ ws.drop (at_ + 1), way, a, b, c, rfl, rfl, upd_same, fun l hl => (List.mem_append.mp hl).elim (okT _ l) (okD _ l), by rw [List.length_append]; omega, by omega, by omega, hb1, by omega, by omega, Or.inr w8, fun l hl => q _ l (hl.mono (by omega) (by omega) (by omega)) ((dk6.same t13).mono (by omega)) (off16.trans (Off.same t13))⟩
    refine ⟨_, rfl, rfl, _, rfl, ite2 (fun _ => ?_) (fun _ => ?_)⟩
    · refine ⟨_, rfl, _, rfl, W, _, _, _, rfl, rfl, SqL.of z6, txs_at hto, _, rfl, _, rfl, W, _, _, _, rfl, rfl, SqL.of z6, txs_at hat, sz_le (n := 2) (by decide), fun p hp => ?_⟩
      have t1 := same_new (o := HO.tup [V.str (S ws[to]), V.str (S ws[at_])]) hp
      have w1 := t1 _ _ z6
      have dk7 := dk6.same t1
      have off7 := off16.trans (Off.same t1)
      refine ⟨p, _, rfl, Or.inl (Or.inl upd_same), rfl, _, _, rfl, _, rfl, _, rfl, W, _, _, at_, rfl, rfl, w1, ixN_at (by rw [List.length_map]; exact hat), ?_⟩
      rw [set1]
      have e1 := sumL_set_eq hat ws[to]
      have hto2 : to < (ws.set at_ ws[to]).length := by rw [List.length_set]; exact hto
      have e2 := sumL_set_eq hto2 ws[at_]
      have e3 : ((ws.set at_ ws[to])[to]).length = (ws[to]).length := by
        rw [List.getElem_set]
        split
        · rfl
        · rfl
      refine ⟨_, _, rfl, _, rfl, _, rfl, W, _, _, to, rfl, rfl, upd_same, ixN_at (by rw [List.length_map, List.length_set]; exact hto), rfl, ?_⟩
      rw [show (txs (ws.set at_ ws[to])).set to (V.str (S ws[at_])) = txs ((ws.set at_ ws[to]).set to ws[at_]) from List.map_set.symm]
      exact ⟨W, (ws.set at_ ws[to]).set to ws[at_], way, a, b, c, rfl, rfl, upd_same, fun l hl => (List.mem_or_eq_of_mem_set hl).elim (okS at_ _ b (Nat.le_refl _) (hwo _ (List.getElem_mem hto)) l) fun e => by rw [e]; exact hlk, by rw [List.length_set, List.length_set]; exact hla, by omega, by omega, hb1, by omega, by omega,
        Or.inl (fun e => setN at_ ws[to] (List.length_eq_zero_iff.mp (by have := congrArg List.length e; rw [List.length_set] at this; exact this))), fun l hl => q _ l (hl.mono (by omega) (by omega) (by omega)) ((deck_lst (deck_lst dk7 nD nC) nD nC).mono (by omega)) (off_lst (off_lst off7 hW) hW)⟩
    refine ⟨_, rfl, rfl, _, rfl, ite2 (fun _ => ?_) (fun _ => ?_)⟩
    · have hlz : (S ws[at_]).length = (ws[at_]).length := SX.S_len _
      obtain ⟨r, er, rok, rn⟩ := repl_ok hlk hb1
      have n1 : (" " : Str).length = 1 := by decide +kernel
      have n2 : (" 0" : Str).length = 2 := by decide +kernel
      have n4 : ("  " : Str).length = 2 := by decide +kernel
      have e1 : (S ws[at_] ++ " " : Str) = S (ws[at_] ++ ([32] ++ [])) := by rw [show (" " : Str) = S [32] by decide +kernel, SX.S_cat]; rfl
      have e2 : (" " ++ S ws[at_] : Str) = S ([32] ++ ws[at_]) := by rw [show (" " : Str) = S [32] by decide +kernel, SX.S_cat]
      have e3 : (S ws[at_] ++ " 0" : Str) = S (ws[at_] ++ ([32] ++ [48])) := by rw [show (" 0" : Str) = S [32, 48] by decide +kernel, SX.S_cat]; rfl
      refine ⟨_, rfl, _, rfl, W, _, _, _, rfl, rfl, SqL.of z6, txs_at hat, S ws[at_], " ", rfl, rfl, sz_le (by omega), ?_⟩
      rw [e1]
      refine ⟨_, rfl, _, rfl, W, _, _, _, rfl, rfl, SqL.of z6, txs_at hat, " ", S ws[at_], rfl, rfl, sz_le (by omega), ?_⟩
      rw [e2]
      refine ⟨_, rfl, _, rfl, W, _, _, _, rfl, rfl, SqL.of z6, txs_at hat, S ws[at_], rfl, by rw [n4]; omega, ?_⟩
      rw [show Txt.replace (S ws[at_]) " " "  " = S r from er]
      refine ⟨_, rfl, _, rfl, W, _, _, _, rfl, rfl, SqL.of z6, txs_at hat, S ws[at_], " 0", rfl, rfl, sz_le (by omega), ?_⟩
      rw [e3]
      refine ⟨sz_le (n := 5) (by decide), fun p hp _ => ?_⟩
      have six : ∀ u ∈ [ws[at_] ++ ([32] ++ []), [32] ++ ws[at_], r, [], ws[at_] ++ ([32] ++ [48])], LnOk (2 * b + 2) u ∧ u.length ≤ 2 * (ws[at_]).length + 2 := by
        intro u hu
        simp only [List.mem_cons, List.not_mem_nil, or_false] at hu
        rcases hu with rfl | rfl | rfl | rfl | rfl
        · exact ⟨(ln_snoc hlk empty_ok).mono (by omega), by rw [List.length_append]; show _ + 1 ≤ _; omega⟩
        · exact ⟨(ln_front hlk).mono (by omega), by rw [List.length_append]; show 1 + _ ≤ _; omega⟩
        · exact ⟨rok.mono (by omega), rn⟩
        · exact ⟨ln_nil (by omega), Nat.zero_le _⟩
        · exact ⟨(ln_snoc hlk (word_ok (w := [48]) (by decide +kernel)).1).mono (by omega), by rw [List.length_append]; show _ + 2 ≤ _; omega⟩
      generalize hgs : [ws[at_] ++ ([32] ++ []), [32] ++ ws[at_], r, [], ws[at_] ++ ([32] ++ [48])] = gs at six
      have hgl : gs.length = 5 := by rw [← hgs]; rfl
      have egs : [V.str (S (ws[at_] ++ ([32] ++ []))), V.str (S ([32] ++ ws[at_])), V.str (S r), V.str "", V.str (S (ws[at_] ++ ([32] ++ [48])))] = txs gs := by rw [← hgs]; rfl
      rw [egs]
      have t1 := same_new (o := HO.lst (txs gs)) hp
      have dk7 := dk6.same t1
      obtain ⟨pD, pC⟩ := new_ne dk6 hp
      refine ⟨_, rfl, _, rfl, D, C, T + 4, .ref p, rfl, dk7, by omega, Or.inr ⟨p, _, rfl, upd_same, pC, by rw [List.length_map, hgl]; decide, by rw [List.length_map, hgl]; decide, fun H9 v hv dk9 off9 => ?_⟩⟩
      obtain ⟨u, hu, rfl⟩ := List.mem_map.mp hv
      obtain ⟨uok, un⟩ := six u hu
      have z9 := off9 W _ nD nC (t1 _ _ z6)
      refine ⟨_, rfl, _, rfl, W, _, _, at_, rfl, rfl, z9, ixN_at (by rw [List.length_map]; exact hat), ?_⟩
      rw [set1]
      have e5 := sumL_set_eq hat u
      exact ⟨W, ws.set at_ u, way, a, 2 * b + 2, 2 * c + 10, rfl, rfl, upd_same, okS at_ u _ (by omega) uok, by rw [List.length_set]; exact hla, by omega, by omega, by omega, by omega, by omega, Or.inl (setN _ _),
        fun l hl => q _ l (hl.mono (by omega) (by omega) (by omega)) ((deck_lst dk9 nD nC).mono (by omega)) (off_lst ((off16.trans (Off.same t1)).trans off9) hW)⟩
    refine ⟨_, rfl, rfl, _, rfl, ite2 (fun _ => ?_) (fun _ => ?_)⟩
    · refine ⟨_, rfl, _, rfl, _, rfl, W, _, rfl, SqL.of z6, fun p1 hp1 => ?_⟩
      rw [txs_to]
      have t1 := same_new (o := HO.lst (txs (ws.take at_))) hp1
      have y1 : upd H6 p1 (.lst (txs (ws.take at_))) p1 = some (.lst (txs (ws.take at_))) := upd_same
      have w1 := t1 _ _ z6
      generalize upd H6 p1 (.lst (txs (ws.take at_))) = G1 at t1 y1 w1 ⊢
      refine ⟨_, rfl, _, rfl, W, _, _, _, rfl, rfl, SqL.of w1, txs_at hat, sz_le (n := 1) (by decide), fun p2 hp2 _ => ?_⟩
      have t2 := same_new (o := HO.lst [V.str (S ws[at_])]) hp2
      have y2 := t2 _ _ y1
      have w2 := t2 _ _ w1
      have x2 : upd G1 p2 (.lst [V.str (S ws[at_])]) p2 = some (.lst (txs [ws[at_]])) := upd_same
      have t12 := t1.trans t2
      generalize upd G1 p2 (.lst [V.str (S ws[at_])]) = G2 at t12 y2 w2 x2 ⊢
      refine ⟨p1, p2, _, _, rfl, rfl, y2, x2, hsz _ _ (by omega) (by show 1 ≤ 2000; decide), fun p3 hp3 => ?_⟩
      rw [show txs (ws.take at_) ++ txs [ws[at_]] = txs (ws.take at_ ++ [ws[at_]]) from List.map_append.symm]
      have t3 := same_new (o := HO.lst (txs (ws.take at_ ++ [ws[at_]]))) hp3
      have y3 : upd G2 p3 (.lst (txs (ws.take at_ ++ [ws[at_]]))) p3 = some (.lst (txs (ws.take at_ ++ [ws[at_]]))) := upd_same
      have w3 := t3 _ _ w2
      have t13 := t12.trans t3
      generalize upd G2 p3 (.lst (txs (ws.take at_ ++ [ws[at_]]))) = G3 at t13 y3 w3 ⊢
      refine ⟨_, rfl, _, rfl, _, rfl, W, _, rfl, SqL.of w3, fun p4 hp4 => ?_⟩
      rw [txs_from]
      have t4 := same_new (o := HO.lst (txs (ws.drop at_))) hp4
      have lt1 : (ws.take at_ ++ [ws[at_]]).length ≤ at_ + 1 := by rw [List.length_append]; show _ + 1 ≤ _; omega
      refine ⟨p3, p4, _, _, rfl, rfl, t4 _ _ y3, upd_same, hsz _ _ (by omega) (by omega), fun p5 hp5 => ?_⟩
      rw [show txs (ws.take at_ ++ [ws[at_]]) ++ txs (ws.drop at_) = txs (ws.take at_ ++ [ws[at_]] ++ ws.drop at_) from List.map_append.symm]
      have t5 := same_new (o := HO.lst (txs (ws.take at_ ++ [ws[at_]] ++ ws.drop at_))) hp5
      have t15 := (t13.trans t4).trans t5
      have e5 : sumL (ws.take at_ ++ [ws[at_]] ++ ws.drop at_) = sumL (ws.take at_) + ((ws[at_]).length + 1) + sumL (ws.drop at_) := by rw [sumL_app, sumL_app, sumL_one]
      exact ⟨p5, ws.take at_ ++ [ws[at_]] ++ ws.drop at_, way, a + 1, b, 2 * c, rfl, rfl, upd_same, fun l hl => (List.mem_append.mp hl).elim (fun hl => (List.mem_append.mp hl).elim (okT _ l) fun e => by rw [List.mem_singleton.mp e]; exact hlk) (okD _ l),
        by rw [List.length_append]; omega, by omega, by omega, hb1, by omega, by omega, Or.inl (fun e => by have := congrArg List.length e; rw [List.length_append, List.length_append] at this; simp at this), fun l hl => q _ l (hl.mono (by omega) (by omega) (by omega)) ((dk6.same t15).mono (by omega)) (off16.trans (Off.same t15))⟩
    · exact ⟨W, ws, way, a, b, c, rfl, rfl, z6, hwo, hla, by omega, by omega, hb1, by omega, by omega, Or.inl hnn, fun l hl => q _ l (hl.mono (by omega) (by omega) (by omega)) (dk6.mono (by omega)) off16⟩
end
end Lw

namespace Lw
open PySem PySem.Spec PyProof.Rows L2 Mq
open SX (S)
/-! ### a reader is equal to readers with its parts alone -/
theorem Pts.sz {K : PySem.W.Frag} {H : Hp} {sg : List Nat} {ns : List Nd} {na : Addr} (p : Pts K H sg ns na) : ∀ n ∈ ns, NdSz n := fun n hn => nd_sz (p.ok.2.2 n hn) (by have := p.short; omega) (by have := p.few; omega)
def tOddV (K : PySem.W.Frag) (C : Addr) : TT := fun σ H Q => ∃ x v dx T sg na d, σ[3]? = some (some (.ref x)) ∧ σ[6]? = some (some v) ∧ H x = some (.ins C dx (rdF sg na)) ∧ KindV K H v T ∧ Rd K C H x sg na d ∧ Q false H
def spEqR (K : PySem.W.Frag) : Sp := fun vs H Q _ => ∃ (sg : List Nat) (ns ms : List Nd) (na nb : Addr), vs = [.str (S sg), .ref na, .ref nb] ∧ Pts K H sg ns na ∧ Pts K H sg ms nb ∧ ∀ H', Same H H' → Q (.bl true) H'
section
variable {P : Program} {w : World} {K : PySem.W.Frag} {mg : Str → Option Value} {base : Heap} {C CT : Addr}
theorem ok_equal {f fI fE fS : Addr} {fd fdI fdE fdS : FuncData} (F : Fun K "_law_equal_right" "_law_equal_right" s__law_equal_right f fd) (B : Blt mg) (R : RdC K C) (T : EqT K mg C)
    (MK : Mk K C fI) (bI : Binds K fdI ["self", "letters", "nodes"] []) (GI : FnOk P w K mg base (L2.CX P w) 6 fI fdI ["self", "letters", "nodes"] (spInitA K C CT))
    (mE : Meth K C "__eq__" fE) (bE : Binds K fdE ["self", "other"] []) (GE : FnOk P w K mg base CX0 3 fE fdE ["self", "other"] (spEqA K C))
    (mS : Meth K C "__str__" fS) (bS : Binds K fdS ["self"] []) (GS : FnOk P w K mg base CX0 2 fS fdS ["self"] (spStr K C)) :
    FnG P w K mg base CX0 9 f fd ["_law_signs", "_law_nodes_here", "_law_more"] (spEqR K) := by
  refine Mq.Fun.okG F sc__law_equal_right (fun vs H Q E h => ?_) (fun cdv A outer s H vs Q E gA hr h => ?_)
  · obtain ⟨_, _, _, _, _, rfl, _⟩ := h
    rfl
  · obtain ⟨sg, ns, ms, na, nb, rfl, p1, p2, q⟩ := h
    have hr7 : Room 7 (A.deeper (envOfC "_law_equal_right" (defScope s__law_equal_right) s.heap.objs.size f cdv)) := hr.mono (by decide)
    have hr4 : Room 4 (A.deeper (envOfC "_law_equal_right" (defScope s__law_equal_right) s.heap.objs.size f cdv)) := hr.mono (by decide)
    have hr3 : Room 3 (A.deeper (envOfC "_law_equal_right" (defScope s__law_equal_right) s.heap.objs.size f cdv)) := hr.mono (by decide)
    have hu64 : (A.deeper (envOfC "_law_equal_right" (defScope s__law_equal_right) s.heap.objs.size f cdv)).units + 64 < cLine := by
      have := hr.un
      omega
    have hu0 : (A.deeper (envOfC "_law_equal_right" (defScope s__law_equal_right) s.heap.objs.size f cdv)).units < cLine := by omega
    refine ⟨_, (pss_cons (ps_asg (pe_tup (pa_cons (pe_makeS (m := 2) (ES := WE (fun _ _ _ _ => False)) MK GI hr7 (by rfl) T.gC bI rfl (fun σ => passAt takes0 σ) (pa_cons (pv 0) (pa_cons (pv 1) pa_nil))) (pa_cons (pe_makeS (m := 2) (ES := WE (fun _ _ _ _ => False)) MK GI hr7 (by rfl) T.gC bI rfl (fun σ => passAt takes0 σ) (pa_cons (pv 0) (pa_cons (pv 2) pa_nil))) pa_nil))) (pg_tup rfl (pgs_cons (pg_name (i := 3) sc__law_equal_right.nd rfl (Or.inr rfl)) (pgs_cons (pg_name (i := 4) sc__law_equal_right.nd rfl (Or.inl rfl)) pgs_nil))))
      (pss_cons (ps_if (pt_cmpR (op_neD hu64) (Mq.pe_ls (pa_cons (pe_cmpR (op_eqO (E := fun _ _ _ => False) mE GE hr3 bE pass0) (pv 3) (pv 4) (nomark _)) (pa_cons (pe_cmpR (op_eqO (E := fun _ _ _ => False) mE GE hr3 bE pass0) (pv 4) (pv 3) (nomark _)) (pa_cons (pe_cmpR (op_neOO (E := fun _ _ _ => False) T.own.own mE GE hr4 bE pass0) (pv 3) (pv 4) (nomark _)) pa_nil)))) (Mq.pe_ls (pa_cons (pe_cmpR (op_eqD hu64) (pv 1) (pv 2) (nomark _)) (pa_cons (pe_cmpR (op_eqD hu64) (pv 1) (pv 2) (nomark _)) (pa_cons (pe_cmpR (op_neD hu64) (pv 1) (pv 2) (nomark _)) pa_nil)))) (nomark _)) (pss_one ps_dead) pss_nil)
      (pss_cons (ps_set (i := 5) sc__law_equal_right.nd rfl (Or.inl rfl) (Mq.pe_ls (pa_cons pe_non (pa_cons (pv 0) (pa_cons (pv 1) (pa_cons (pe_tup (pa_cons (pv 0) (pa_cons (pv 1) pa_nil))) (pa_cons pe_int (pa_cons pe_dnewK (pa_cons (pe_callTy (call_strO (E := fun _ _ _ => False) mS GS hr4 bS pass0) (by rfl) B.str (by decide +kernel) (pa_cons (pv 3) pa_nil)) pa_nil)))))))))
      (pss_one (ps_ret (pe_and (pe_cmpR (op_eqNil hu0) (pe_lc (own := [("_law_it", 6)]) (g := gName 6) rfl sc__law_equal_right.nd (pi_list (pv 5)) (blkOk_by (own := [("_law_it", 6)]) (N := ["_law_signs", "_law_nodes_here", "_law_more", "_law_code", "_law_other", "_law_odd_here", "_law_it"]) (sc := defScope s__law_equal_right) (by decide +kernel)) (fun _ _ _ _ _ => pg_name (i := 6) sc__law_equal_right.nd rfl (Or.inl rfl)) (fun _ _ _ _ _ => pts_one (PT_imp (t' := tOddV K C) (PW.pt (pw_or (pt_cmpR (op_eqOV (E := fun _ _ _ => False) mE GE hr3 bE pass0) (pv 3) (pv 6) (nomark _)) (pw_or1 (pt_cmpR (op_eqVO (E := fun _ _ _ => False) T.own.own mE GE hr3 bE pass0) (pv 6) (pv 3) (nomark _))))) (fun σ H Q h => by
          obtain ⟨x, v, dx, T1, sg, na, d, h3, h6, ii, kd, bb, q⟩ := h
          refine ⟨_, h3, _, h6, x, dx, _, T1, rfl, ii, kd, x, v, sg, na, d, rfl, bb, Or.inr ⟨T1, kd, _, rfl, _, rfl, ifF rfl ?_⟩⟩
          exact ⟨_, h6, _, h3, x, dx, _, T1, rfl, ii, kd, x, v, sg, na, d, rfl, bb, Or.inr ⟨T1, kd, _, rfl, _, rfl, q⟩⟩))) (fun _ _ _ _ _ => (pv 6))) (Mq.pe_ls pa_nil) (nomark _)) (pe_one (pe_cmpR (op_eqO (E := fun _ _ _ => False) mE GE hr3 bE pass0) (pv 3) (pe_makeS (m := 2) (ES := WE (fun _ _ _ _ => False)) MK GI hr7 (by rfl) T.gC bI rfl (fun σ => passAt takes0 σ) (pa_cons (pv 0) (pa_cons (pv 1) pa_nil))) (nomark _))))))))), ?_⟩
    refine ⟨_, rfl, _, rfl, rfl, fun x dx hx hdx hne => ?_⟩
    refine mk_right p1 hx hdx hne fun H1 s1 b1 => ⟨rfl, ?_⟩
    refine ⟨_, rfl, _, rfl, rfl, fun y dy hy hdy hny => ?_⟩
    refine mk_right (p2.same s1) hy hdy hny fun H2 s2 b2 => ⟨rfl, ?_⟩
    refine ⟨sz_le (n := 2) (by decide), fun tp htp => ?_⟩
    have s3 := same_new (o := HO.tup [V.ref x, V.ref y]) htp
    have ztp : SqT K (upd H2 tp (.tup [V.ref x, V.ref y])) tp [V.ref x, V.ref y] := Or.inl (Or.inl upd_same)
    have s03 := (s1.trans s2).trans s3
    have b1 := (b1.same s2).same s3
    have b2 := b2.same s3
    have p1 := p1.same s03
    have p2 := p2.same s03
    generalize upd H2 tp (.tup [V.ref x, V.ref y]) = H3 at ztp s03 b1 b2 p1 p2 ⊢
    clear s1 s2 s3
    refine ⟨tp, _, rfl, ztp, rfl, _, _, rfl, _, _, rfl, rfl, ?_⟩
    have r1 := p1.rd b1
    have r2 := p2.rd b2
    obtain ⟨dx1, i1⟩ := b1
    obtain ⟨dy1, i2⟩ := b2
    have ec : PyData.eqv (.tuple (ms.map ndD)) (.tuple (ns.map ndD)) = PyData.eqv (.tuple (ns.map ndD)) (.tuple (ms.map ndD)) := PySem.W.eqv_comm _ _
    refine ⟨_, rfl, _, rfl, x, y, dx1, dy1, _, _, rfl, rfl, i1, i2, x, .ref y, sg, na, _, rfl, r1, Or.inl ⟨y, sg, nb, _, rfl, r2, fun H8 s8 => ⟨_, rfl, ?_⟩⟩⟩
    refine ⟨_, rfl, _, rfl, y, x, dy1, dx1, _, _, rfl, rfl, s8 _ _ i2, s8 _ _ i1, y, .ref x, sg, nb, _, rfl, r2.same s8, Or.inl ⟨x, sg, na, _, rfl, r1.same s8, fun H9 s9 => ⟨_, rfl, ?_⟩⟩⟩
    have s89 := Same.trans s8 s9
    refine ⟨_, rfl, _, rfl, x, y, dx1, dy1, _, _, rfl, rfl, s89 _ _ i1, s89 _ _ i2, x, .ref y, sg, na, _, rfl, r1.same s89, Or.inl ⟨y, sg, nb, _, rfl, r2.same s89, fun H10 s10 => ⟨_, rfl, ?_⟩⟩⟩
    rw [ec, decide_eq_true rfl, Bool.true_and]
    have s010 := s89.trans s10
    have r1 := r1.same s010
    have r2 := r2.same s010
    have i1 := s010 _ _ i1
    have p1 := p1.same s010
    have s0 := s03.trans s010
    clear s8 s9 s89 s10 s010 i2 ec p2 s03
    generalize hL : PyData.eqv (.tuple (ns.map ndD)) (.tuple (ms.map ndD)) = L
    refine ⟨sz_le (n := 3) (by decide), fun pa hpa _ => ?_⟩
    have t11 := same_new (o := HO.lst [V.bl L, .bl L, .bl (!L)]) hpa
    have za : upd H10 pa (.lst [V.bl L, .bl L, .bl (!L)]) pa = some (.lst [V.bl L, .bl L, .bl (!L)]) := upd_same
    have q1 := r1.tn.same t11
    have q2 := r2.tn.same t11
    have s011 := s0.trans t11
    have r1 := r1.same t11
    have i1 := t11 _ _ i1
    have p1 := p1.same t11
    generalize upd H10 pa (.lst [V.bl L, .bl L, .bl (!L)]) = H11 at za q1 q2 s011 r1 i1 p1 ⊢
    clear t11 hpa s0
    refine ⟨_, rfl, _, rfl, _, _, q1.dp, q2.dp, r1.sh, r2.sh, ?_⟩
    rw [hL]
    refine ⟨_, rfl, _, rfl, _, _, q1.dp, q2.dp, r1.sh, r2.sh, ?_⟩
    rw [hL]
    refine ⟨_, rfl, _, rfl, _, _, q1.dp, q2.dp, r1.sh, r2.sh, ?_⟩
    rw [hL]
    refine ⟨sz_le (n := 3) (by decide), fun pb hpb _ => ?_⟩
    have t12 := same_new (o := HO.lst [V.bl L, .bl L, .bl (!L)]) hpb
    refine ⟨.list [.bool L, .bool L, .bool (!L)], .list [.bool L, .bool L, .bool (!L)], .lst (SqL.of (t12 _ _ za)) (.cons (.bl _) (.cons (.bl _) (.cons (.bl _) .nil))), .lst (SqL.of upd_same) (.cons (.bl _) (.cons (.bl _) (.cons (.bl _) .nil))), rfl, rfl, ?_⟩
    refine ⟨_, rfl, ifF (by cases L <;> rfl) ?_⟩
    have s012 := s011.trans t12
    have r1 := r1.same t12
    have i1 := t12 _ _ i1
    have p1 := p1.same t12
    generalize upd H11 pb (.lst [V.bl L, .bl L, .bl (!L)]) = H12 at s012 r1 i1 p1 ⊢
    clear t12 hpb za q1 q2 s011 hL L r2
    -- other things
    refine ⟨_, rfl, _, rfl, _, rfl, _, rfl, sz_le (n := 2) (by decide), fun t4 ht4 => ?_⟩
    have u1 := same_new (o := HO.tup [V.str (S sg), V.ref na]) ht4
    have k4 : SqT K (upd H12 t4 (.tup [V.str (S sg), V.ref na])) t4 [V.str (S sg), V.ref na] := Or.inl (Or.inl upd_same)
    generalize upd H12 t4 (.tup [V.str (S sg), V.ref na]) = G1 at u1 k4 ⊢
    refine fun d6 hd6 => ?_
    have u3 := same_new (o := HO.dK []) hd6
    have k6 : upd G1 d6 (.dK []) d6 = some (.dK []) := upd_same
    generalize upd G1 d6 (.dK []) = G3 at u3 k6 ⊢
    have u13 := Same.trans u1 u3
    have pp := p1.same u13
    refine ⟨_, rfl, x, dx1, _, rfl, u13 _ _ i1, x, na, sg, ns, rfl, ⟨dx1, u13 _ _ i1⟩, pp.at_, pp.sz, by have := p1.few; omega, by have := p1.short; omega, fun G4 u4 => ⟨_, rfl, ?_⟩⟩
    refine ⟨sz_le (n := 7) (by decide), fun t8 ht8 _ => ?_⟩
    have kinds : ∀ v ∈ [V.non, .str (S sg), .ref na, .ref t4, .int 0, .ref d6, .str (S (pageT sg ns))], ∃ T, KindV K G4 v T := by
      intro v hv
      simp only [List.mem_cons, List.not_mem_nil, or_false] at hv
      rcases hv with rfl | rfl | rfl | rfl | rfl | rfl | rfl
      · exact ⟨_, .non⟩
      · exact ⟨_, .str _⟩
      · obtain ⟨vs, hz, _⟩ := (pp.same u4).at_
        exact ⟨_, .tup hz⟩
      · exact ⟨_, .tup (Same.tup (u3.trans u4) k4)⟩
      · exact ⟨_, .int _⟩
      · exact ⟨_, .dct (u4 _ _ k6)⟩
      · exact ⟨_, .str _⟩
    have hil : [V.non, .str (S sg), .ref na, .ref t4, .int 0, .ref d6, .str (S (pageT sg ns))].length = 7 := rfl
    generalize [V.non, .str (S sg), .ref na, .ref t4, .int 0, .ref d6, .str (S (pageT sg ns))] = its at kinds hil ⊢
    have u5 := same_new (o := HO.lst its) ht8
    have k8 : upd G4 t8 (.lst its) t8 = some (.lst its) := upd_same
    have u15 := (u13.trans u4).trans u5
    have kinds : ∀ v ∈ its, ∃ T, KindV K (upd G4 t8 (.lst its)) v T := fun v hv => let ⟨T, h⟩ := kinds v hv; ⟨T, h.same u5⟩
    generalize upd G4 t8 (.lst its) = G5 at u15 k8 kinds ⊢
    have r1 := r1.same u15
    have p1 := p1.same u15
    have s017 := s012.trans u15
    have i1 := u15 _ _ i1
    clear u5 u4 u13 u3 u1 k4 k6 pp u15 s012
    refine ⟨_, rfl, t8, rfl, ⟨_, SqL.of k8⟩, fun D hD => ?_⟩
    refine lc_it (walk_list (a := t8) (xs := its)) (fun i H' => Same G5 H' ∧ H' D = some (.lst [])) ⟨same_new hD, upd_same⟩ (fun i H' _ p => SqL.of (p.1 _ _ k8)) ?_ ?_
    · rintro i v H4 H4' hi ⟨s4, zD⟩ ⟨rfl, hv⟩
      obtain ⟨T1, kd⟩ := kinds v (List.mem_of_getElem? hv)
      exact ⟨rfl, x, v, dx1, T1, sg, na, _, rfl, rfl, s4 _ _ i1, kd.same s4, r1.same s4, ifF rfl ⟨s4, zD⟩⟩
    · rintro H4 ⟨s4, zD⟩
      refine ⟨sz_le (n := 0) (by decide), fun p0 hp0 _ => ?_⟩
      have t0 := same_new (o := HO.lst []) hp0
      refine ⟨D, p0, [], rfl, rfl, SqL.of (t0 _ _ zD), SqL.of upd_same, true, rfl, ifT rfl ?_⟩
      have t04 := s4.trans t0
      have r1 := r1.same t04
      have p1 := p1.same t04
      have i1 := t04 _ _ i1
      have s018 := s017.trans t04
      generalize upd H4 p0 (.lst []) = H5 at r1 p1 i1 s018 ⊢
      refine ⟨_, rfl, _, rfl, _, rfl, rfl, fun z dz hz hdz hnz => ?_⟩
      refine mk_right p1 hz hdz hnz fun H13 s13 b3 => ⟨rfl, ?_⟩
      have r3 := (p1.same s13).rd b3
      obtain ⟨dz1, i3⟩ := b3
      refine ⟨x, z, dx1, dz1, _, _, rfl, rfl, s13 _ _ i1, i3, x, .ref z, sg, na, _, rfl, r1.same s13, Or.inl ⟨z, sg, na, _, rfl, r3, fun H14 s14 => ?_⟩⟩
      rw [tn_eqv r1.tn, decide_eq_true rfl]
      exact ⟨_, rfl, q _ (s018.trans (s13.trans s14))⟩
end
end Lw

namespace Lw
open PySem PySem.Spec PyProof.Rows L2 Mq
open SX (S)
open TL (numL)
/-! ### the texts of right readers, as pages -/
def WordOk (w : List Nat) : Prop := LowL w ∧ 10 ∉ w ∧ 32 ∉ w ∧ WOk w
theorem alpha_word {l : List Nat} (h : ∀ c ∈ l, c ∈ alpha) : WordOk l :=
  ⟨fun c hc => by have := alpha_low (h c hc); omega, fun hc => by have := alpha_low (h 10 hc); omega, fun hc => by have := alpha_low (h 32 hc); omega, trivial⟩
theorem num_word (k : Nat) : WordOk (numL k) := by
  have key : ∀ c ∈ numL k, 48 ≤ c ∧ c ≤ 57 := fun c hc => by
    by_cases h : c < 48 ∨ 57 < c
    · exact (TL.numL_free h hc).elim
    · omega
  exact ⟨fun c hc => by have := key c hc; omega, fun hc => by have := key 10 hc; omega, fun hc => by have := key 32 hc; omega, trivial⟩
theorem lit_word {w : List Nat} (h : wordB w = true) : WordOk w := (word_ok h).1
theorem dash_word {l : List Nat} (h : ∀ c ∈ l, c ∈ alpha) : WordOk (orDash l) := by
  unfold orDash
  split
  · exact lit_word (by decide +kernel)
  · exact alpha_word h
theorem sg_alpha {sg : List Nat} (h : lettersB sg = true) : ∀ c ∈ sg, c ∈ alpha := (letters_alpha h).2
theorem nodeW_words {sg : List Nat} {m : Nat} {n : Nd} (hs : lettersB sg = true) (h : ndOk sg m n) : ∀ w ∈ nodeW n, WordOk w := by
  have ha := sg_alpha hs
  cases n with
  | none =>
    intro w hw
    rw [List.mem_singleton.mp hw]
    exact lit_word (by decide +kernel)
  | stops w =>
    intro u hu
    rcases List.mem_cons.mp hu with rfl | hu
    · exact lit_word (by decide +kernel)
    · rw [List.mem_singleton.mp hu]
      exact dash_word fun c hc => ha c (h.1 c hc)
  | reads b ts =>
    intro u hu
    rcases List.mem_cons.mp hu with rfl | hu
    · exact lit_word (by decide +kernel)
    · rcases List.mem_cons.mp hu with rfl | hu
      · cases b with
        | none => exact lit_word (by decide +kernel)
        | some w => exact dash_word fun c hc => ha c ((h.2.2 w rfl).1 c hc)
      · obtain ⟨t, _, rfl⟩ := List.mem_map.mp hu
        exact num_word t
theorem nodeW_len {sg : List Nat} {m : Nat} {n : Nd} (h : ndOk sg m n) : (nodeW n).length ≤ sg.length + 2 ∧ nodeW n ≠ [] := by
  cases n with
  | none => exact ⟨by show 1 ≤ _; omega, fun e => by cases e⟩
  | stops w => exact ⟨by show 2 ≤ _; omega, fun e => by cases e⟩
  | reads b ts =>
    refine ⟨?_, fun e => by cases e⟩
    show ((ts.map numL).length + 1) + 1 ≤ _
    rw [List.length_map]
    have := h.1
    omega
theorem nums_sum2 {ts : List Nat} (h : ∀ t ∈ ts, t < 100) : sumL (ts.map numL) ≤ 3 * ts.length := by
  induction ts with
  | nil => exact Nat.zero_le _
  | cons t ts ih =>
    have h1 := ih fun x hx => h x (List.mem_cons_of_mem _ hx)
    have h2 : (numL t).length ≤ 2 := TL.numL_len (by decide) (h t List.mem_cons_self)
    show ((numL t).length + 1) + sumL (ts.map numL) ≤ _
    rw [List.length_cons]
    omega
theorem nodeT_short {sg : List Nat} {m : Nat} {n : Nd} (h : ndOk sg m n) (hm : m ≤ 100) : (nodeT n).length ≤ 10 + 3 * sg.length := by
  refine Nat.le_trans (joinL_le 32 _) ?_
  cases n with
  | none => show (4 + 1) + 0 ≤ _; omega
  | stops w =>
    have := orDash_len h.2
    show (5 + 1) + (((orDash w).length + 1) + 0) ≤ _
    omega
  | reads b ts =>
    have h1 := nums_sum2 fun t ht => Nat.lt_of_lt_of_le (h.2.1 t ht) hm
    have h2 := optL_len (b := b) fun w e => (h.2.2 w e).2
    have h3 := h.1
    show (5 + 1) + (((optL b).length + 1) + sumL (ts.map numL)) ≤ _
    omega
theorem lines_short {sg : List Nat} {m : Nat} {ns : List Nd} (h : ∀ n ∈ ns, ndOk sg m n) (hm : m ≤ 100) : sumL (ns.map nodeT) ≤ (11 + 3 * sg.length) * ns.length := by
  induction ns with
  | nil => exact Nat.zero_le _
  | cons n ns ih =>
    have h1 := ih fun x hx => h x (List.mem_cons_of_mem _ hx)
    have h2 := nodeT_short (h n List.mem_cons_self) hm
    show ((nodeT n).length + 1) + sumL (ns.map nodeT) ≤ _
    rw [List.length_cons, Nat.mul_succ]
    omega
theorem page_pg {sg : List Nat} {m : Nat} {ns : List Nd} (hs : lettersB sg = true) (h : ∀ n ∈ ns, ndOk sg m n) (hm : m ≤ 100) (hl : sg.length ≤ 26) (hn : ns.length ≤ 12) : Pg 13 30 (40 + (11 + 3 * sg.length) * ns.length) (pageT sg ns) := by
  have e1 : readerL ++ [32] ++ sg = TL.joinL [32] [readerL, sg] := by
    rw [joinL_two]
    show _ = readerL ++ ([32] ++ sg)
    rw [List.append_assoc]
  refine pg_join ?_ ?_ (fun l hl2 => ?_) (by decide) (by decide) (by omega)
  · rw [List.length_cons, List.length_map]
    omega
  · have h1 := lines_short h hm
    show ((readerL ++ [32] ++ sg).length + 1) + sumL (ns.map nodeT) ≤ _
    rw [List.length_append, List.length_append]
    show (6 + 1 + sg.length + 1) + _ ≤ _
    omega
  · rcases List.mem_cons.mp hl2 with rfl | hl2
    · rw [e1]
      refine ln_join (fun e => by cases e) (by show 2 ≤ 30; decide) fun w hw => ?_
      simp only [List.mem_cons, List.not_mem_nil, or_false] at hw
      rcases hw with rfl | rfl
      · exact lit_word2
      · exact alpha_word (sg_alpha hs)
    · obtain ⟨n, hn2, rfl⟩ := List.mem_map.mp hl2
      obtain ⟨a, b⟩ := nodeW_len (h n hn2)
      exact ln_join b (by omega) (nodeW_words hs (h n hn2))
where
  lit_word2 : WordOk readerL := ⟨show ∀ c ∈ readerL, c < 128 by decide, by decide, by decide, trivial⟩
theorem Pg.rd {K : PySem.W.Frag} {H : Hp} {a b c : Nat} {t : List Nat} (h : Pg a b c t) (hc : c ≤ 4000) : RdT K H (.str (S t)) := by
  refine Or.inr ⟨t, rfl, by have := h.len; omega, ?_⟩
  have := joinL_low (c := 10) (by decide) (ps := spl 10 t) fun l hl => (h.ok l hl).low
  rw [spl_join] at this
  exact this
def menu6 : List (List Nat) := [[97, 98], [97, 98], [97, 109], [97, 98, 120], [97], [97, 98, 99, 100]]
theorem menu_is : ([V.str "ab", V.str "ab", V.str "am", V.str "abx", V.str "a", V.str "abcd"] : List V) = txs menu6 := rfl
theorem menu_ok : ∀ sg ∈ menu6, lettersB sg = true ∧ sg.length ≤ 4 := by
  have h : (menu6.all fun sg => lettersB sg && decide (sg.length ≤ 4)) = true := by decide +kernel
  exact fun sg hsg => by
    have h2 := List.all_eq_true.mp h sg hsg
    obtain ⟨a, b⟩ := Bool.and_eq_true_iff.mp h2
    exact ⟨a, of_decide_eq_true b⟩
theorem sg_ok {sg : List Nat} (h : lettersB sg = true) (hl : sg.length ≤ 4) : SgOk sg :=
  ⟨pos_of (letters_alpha h).1, by omega, fun c hc => by have := alpha_low ((letters_alpha h).2 c hc); omega, h⟩
theorem two_of {K : PySem.W.Frag} {H : Hp} {ys : List V} {ds : List PyData} (h : ys.length = 2) (k : DgAll K H ys ds) : ∃ y1 y2 e1 e2, ys = [y1, y2] ∧ ds = [e1, e2] ∧ Dg K H y1 e1 ∧ Dg K H y2 e2 := by
  match ys, ds, h, k with
  | [y1, y2], _, _, .cons (d := e1) g1 (.cons (d := e2) g2 .nil) => exact ⟨y1, y2, e1, e2, rfl, rfl, g1, g2⟩
end Lw

namespace Lw
open PySem PySem.Spec PyProof.Rows L2 Mq
open SX (S)
/-! ### the law -/
def spLaw (K : PySem.W.Frag) : Sp := fun vs H Q _ => ∃ (a : Addr) (ns : List Int), vs = [.ref a] ∧ SqL K H a (ns.map V.int) ∧ ns.length ≤ 63 ∧ ∀ H', Q (.bl true) H'
def tRR (K : PySem.W.Frag) : TT := fun σ H Q => ∃ v, σ[12]? = some (some v) ∧ RdT K H v ∧ ∀ H', Same H H' → Q false H'
def rdB (x : Str) : Bool := decide (x.cps.toList.length ≤ 4000) && x.cps.toList.all (fun c => decide (c < 128))
theorem rd_lit {K : PySem.W.Frag} {H : Hp} {x : Str} (h : rdB x = true) : RdT K H (.str x) := by
  obtain ⟨a, b⟩ := Bool.and_eq_true_iff.mp h
  exact Or.inr ⟨x.cps.toList, by rw [S_of], of_decide_eq_true a, fun c hc => of_decide_eq_true (List.all_eq_true.mp b c hc)⟩
def nearA : Nd := .reads (some [122]) (1 :: List.replicate 25 0)
def nearB : Nd := .reads none (List.replicate 25 1 ++ [0])
def farN (k : Nat) : Nd := .reads (some [97, 98]) [(k + 1) % 12, 11]
def farL : List Nd := (List.range 12).map farN
theorem alpha_let : lettersB alpha = true := by decide +kernel
theorem ab_let : lettersB [97, 98] = true := by decide +kernel
theorem near_ok : ∀ n ∈ [nearA, nearB], ndOk alpha 2 n := by
  intro n hn
  simp only [List.mem_cons, List.not_mem_nil, or_false] at hn
  rcases hn with rfl | rfl
  · refine ⟨by decide, by decide, fun w hw => ?_⟩
    cases hw
    exact ⟨by decide, by decide⟩
  · exact ⟨by decide, by decide, fun w hw => by cases hw⟩
theorem far_ok : ∀ n ∈ farL, ndOk [97, 98] 12 n := by
  intro n hn
  obtain ⟨k, hk, rfl⟩ := List.mem_map.mp hn
  refine ⟨rfl, fun t ht => ?_, fun w hw => ?_⟩
  · simp only [List.mem_cons, List.not_mem_nil, or_false] at ht
    rcases ht with rfl | rfl
    · exact Nat.mod_lt _ (by decide)
    · decide
  · cases hw
    exact ⟨by decide, by decide⟩
theorem NdAll.take {K : PySem.W.Frag} {H : Hp} : ∀ {vs : List V} {ns : List Nd} (k : Nat), NdAll K H vs ns → NdAll K H (vs.take k) (ns.take k)
  | _, _, 0, _ => .nil
  | _, _, _ + 1, .nil => .nil
  | _, _, k + 1, .cons a b => .cons a (NdAll.take k b)
def nearD : PyData := .tuple [ndD nearA, ndD nearB, .tuple [.str "stops", .str "{"]]
theorem nearD_ok : OkD 400 3 nearD := okD_of (by decide +kernel)
theorem abc_ok : OkD 400 3 (.str "abcdefghijklmnopqrstuvwxyz") := okD_of (by decide +kernel)
def tBentT (K : PySem.W.Frag) : TT := fun σ H Q => ∃ u d w n, σ[6]? = some (some u) ∧ Dg K H u d ∧ OkD w n d ∧ w ≤ 4000 ∧ n ≤ 20 ∧ ∀ H', Same H H' → Q false H'
section
variable {P : Program} {w : World} {K : PySem.W.Frag} {mg : Str → Option Value} {base : Heap} {C CT : Addr}
theorem ok_law {f fD fP fN fM fE fB fA fR fQ fI fS : Addr} {fd fdE fdP fdN fdM fdQ fdB fdA fdR fdW fdI fdS : FuncData} (F : Fun K "law" "law" s_law f fd) (B : Blt mg) (R : RdC K C) (gC : mg "Reader" = some (.ref C))
    (MK : Mk K C fI) (bI : Binds K fdI ["self", "letters", "nodes"] []) (GI : FnOk P w K mg base (L2.CX P w) 6 fI fdI ["self", "letters", "nodes"] (spInitA K C CT))
    (mS : Meth K C "__str__" fS) (bS : Binds K fdS ["self"] []) (GS : FnOk P w K mg base CX0 2 fS fdS ["self"] (spStr K C))
    (FD : Fun K "_law_deck" "_law_deck" s__law_deck fD fdE) (gD : mg "_law_deck" = some (.ref fD)) (bD : Binds K fdE ["_law_script"] []) (GD : FnOk P w K mg base CX0 1 fD fdE ["_law_script"] (spDeck K))
    (FP : Fun K "_law_pick" "_law_pick" s__law_pick fP fdP) (gP : mg "_law_pick" = some (.ref fP)) (bP : Binds K fdP ["_law_deck_here", "_law_some"] []) (GP : FnOk P w K mg base CX0 2 fP fdP ["_law_deck_here", "_law_some"] spPick)
    (FN : Fun K "_law_nodes" "_law_nodes" s__law_nodes fN fdN) (gN : mg "_law_nodes" = some (.ref fN)) (bN : Binds K fdN ["_law_deck_here", "_law_signs", "_law_top"] []) (GN : FnOk P w K mg base CX0 4 fN fdN ["_law_deck_here", "_law_signs", "_law_top"] (spNodes K))
    (FM : Fun K "_law_made_right" "_law_made_right" s__law_made_right fM fdM) (gM : mg "_law_made_right" = some (.ref fM)) (bM : Binds K fdM ["_law_signs", "_law_nodes_here"] []) (GM : FnG P w K mg base CX0 10 fM fdM ["_law_signs", "_law_nodes_here"] (spMade K))
    (FE : Fun K "_law_equal_right" "_law_equal_right" s__law_equal_right fE fdQ) (gE : mg "_law_equal_right" = some (.ref fE)) (bE : Binds K fdQ ["_law_signs", "_law_nodes_here", "_law_more"] []) (GE : FnG P w K mg base CX0 9 fE fdQ ["_law_signs", "_law_nodes_here", "_law_more"] (spEqR K))
    (FB : Fun K "_law_bent" "_law_bent" s__law_bent fB fdB) (gB : mg "_law_bent" = some (.ref fB)) (bB : Binds K fdB ["_law_deck_here", "_law_it"] []) (GB : ∀ k : Nat, FnOk P w K mg base CX0 (4 + k) fB fdB ["_law_deck_here", "_law_it"] (spBent K k))
    (FA : Fun K "_law_page" "_law_page" s__law_page fA fdA) (gA2 : mg "_law_page" = some (.ref fA)) (bA : Binds K fdA ["_law_signs", "_law_nodes_here"] []) (GA : FnOk P w K mg base CX0 1 fA fdA ["_law_signs", "_law_nodes_here"] (spPage K))
    (FR : Fun K "_law_read_right" "_law_read_right" s__law_read_right fR fdR) (gR : mg "_law_read_right" = some (.ref fR)) (bR : Binds K fdR ["_law_page_here"] []) (GR : FnG P w K mg base CX0 11 fR fdR ["_law_page_here"] (spRR K))
    (FQ : Fun K "_law_bent_page" "_law_bent_page" s__law_bent_page fQ fdW) (gQ : mg "_law_bent_page" = some (.ref fQ)) (bQ : Binds K fdW ["_law_deck_here", "_law_page_here"] []) (GQ : FnOk P w K mg base CX0 3 fQ fdW ["_law_deck_here", "_law_page_here"] spBentPage) :
    FnG P w K mg base CX0 12 f fd ["_law_script"] (spLaw K) := by
  refine Mq.Fun.okG F sc_law (fun vs H Q E h => ?_) (fun cdv A outer s H vs Q E gA hr h => ?_)
  · obtain ⟨_, _, rfl, _⟩ := h
    rfl
  · obtain ⟨a, ns0, rfl, ha, hn0, q⟩ := h
    have GB3 : FnOk P w K mg base CX0 7 fB fdB ["_law_deck_here", "_law_it"] (spBent K 3) := GB 3
    have GB2 : FnOk P w K mg base CX0 6 fB fdB ["_law_deck_here", "_law_it"] (spBent K 2) := GB 2
    have hr7 : Room 7 (A.deeper (envOfC "law" (defScope s_law) s.heap.objs.size f cdv)) := hr.mono (by decide)
    have hr4 : Room 4 (A.deeper (envOfC "law" (defScope s_law) s.heap.objs.size f cdv)) := hr.mono (by decide)
    have hu0 : (A.deeper (envOfC "law" (defScope s_law) s.heap.objs.size f cdv)).units < cLine := by
      have := hr.un
      omega
    refine ⟨_, (pss_cons (ps_set (i := 1) sc_law.nd rfl (Or.inl rfl) (pe_call GD (hr.mono (by decide)) (by rfl) gD FD.kp bD .nil pass0 (pa_cons (pv 0) pa_nil)))
      (pss_cons (ps_for (passes_of rfl) rfl (pi_range1 (by rfl) B.range (pa_cons pe_int pa_nil)) (pg_name (i := 2) sc_law.nd rfl (Or.inl rfl))
      (pss_cons (ps_set (i := 3) sc_law.nd rfl (Or.inl rfl) (pe_call GP (hr.mono (by decide)) (by rfl) gP FP.kp bP .nil pass0 (pa_cons (pv 1) (pa_cons (Mq.pe_ls (pa_cons pe_str (pa_cons pe_str (pa_cons pe_str (pa_cons pe_str (pa_cons pe_str (pa_cons pe_str pa_nil))))))) pa_nil))))
      (pss_cons (ps_set (i := 4) sc_law.nd rfl (Or.inl rfl) (pe_call GN (hr.mono (by decide)) (by rfl) gN FN.kp bN .nil pass0 (pa_cons (pv 1) (pa_cons (pv 3) (pa_cons (pe_call GP (hr.mono (by decide)) (by rfl) gP FP.kp bP .nil pass0 (pa_cons (pv 1) (pa_cons (Mq.pe_ls (pa_cons pe_int (pa_cons pe_int (pa_cons pe_int (pa_cons pe_int pa_nil))))) pa_nil))) pa_nil)))))
      (pss_cons (ps_if (PW.pt (pw_or (pt_not (pt_val (pe_callG GM gA (hr.mono (by decide)) (by rfl) gM FM.kp bM pass0 (pa_cons (pv 3) (pa_cons (pv 4) pa_nil))))) (pw_or1 (pt_not (pt_val (pe_callG GE gA (hr.mono (by decide)) (by rfl) gE FE.kp bE pass0 (pa_cons (pv 3) (pa_cons (pv 4) (pa_cons (pe_call GN (hr.mono (by decide)) (by rfl) gN FN.kp bN .nil pass0 (pa_cons (pv 1) (pa_cons (pv 3) (pa_cons pe_int pa_nil)))) pa_nil))))))))) (pss_one ps_dead) pss_nil)
      (pss_cons (ps_for (passes_of rfl) rfl (pi_range1 (by rfl) B.range (pa_cons pe_int pa_nil)) (pg_name (i := 5) sc_law.nd rfl (Or.inl rfl))
      (pss_cons (ps_set (i := 6) sc_law.nd rfl (Or.inl rfl) (pe_call GB3 (hr.mono (by decide)) (by rfl) gB FB.kp bB .nil pass0 (pa_cons (pv 1) (pa_cons (pe_tup (pa_cons (pv 3) (pa_cons (pv 4) pa_nil))) pa_nil))))
      (pss_cons (ps_if (PT_imp (t' := tBentT K) (PW.pt (pw_and (pt_val (pe_callB call_isi (by rfl) B.isi (by decide +kernel) (pa_cons (pv 6) (pa_cons (pe_bltn (v := .ty "tuple") (by rfl) B.tuple (by decide +kernel) rfl) pa_nil)))) (pw_and (pt_cmpR op_eq (pe_callB call_len_seq (by rfl) B.len (by decide +kernel) (pa_cons (pv 6) pa_nil)) pe_int (nomark _)) (pw_and1 (pt_not (pt_val (pe_callG GM gA (hr.mono (by decide)) (by rfl) gM FM.kp bM pass0 (pa_cons (pe_ix ix_tup (pv 6) pe_int (fun _ _ => rfl)) (pa_cons (pe_ix ix_tup (pv 6) pe_int (fun _ _ => rfl)) pa_nil))))))))) (fun σ H Q h => by
          obtain ⟨u, d, w, n, h6, hdg, ok, hw, hn, q⟩ := h
          rcases dg_tup hdg with ⟨pt, ys, ds, rfl, rfl, hpt, hda⟩ | ⟨⟨b, tb, mb, nb⟩, nx⟩
          rotate_left
          · exact ⟨_, h6, _, .ty "tuple", _, _, false, rfl, .ty _, tb, kit_noT mb nb, false, rfl, ifF rfl (q H (Same.refl H))⟩
          refine ⟨_, h6, _, .ty "tuple", _, _, true, rfl, .ty _, ty_tup hpt, kit_ty (by decide +kernel), true, rfl, ifT rfl ?_⟩
          refine ⟨_, h6, _, _, rfl, Or.inr hpt, rfl, _, rfl, ?_⟩
          by_cases h2 : ys.length = 2
          rotate_left
          · refine ifF (decide_eq_false fun z => h2 ?_) (q H (Same.refl H))
            have z2 : ((ys.length : Nat) : Int) = 2 := V.int.inj z
            omega
          refine ifT (by rw [h2]; rfl) ?_
          obtain ⟨y1, y2, e1, e2, rfl, rfl, g1, g2⟩ := two_of h2 hda
          obtain ⟨m6, em6, lo⟩ := ok.tup
          have o1 := lo.mem (d := e1) (by simp)
          have o2' := lo.mem (d := e2) (by simp)
          exact ⟨_, h6, pt, _, 0, _, rfl, rfl, hpt, atI_nat (j := 0) rfl, _, h6, pt, _, 1, _, rfl, rfl, hpt, atI_nat (j := 1) rfl, y1, y2, e1, e2, w, m6, rfl, g1, g2, o1, o2', hw, by omega, fun H10 s10 => ⟨_, rfl, q H10 s10⟩⟩)) (pss_one ps_dead) pss_nil)
      (pss_one (ps_if (pt_not (pt_val (pe_callG GM gA (hr.mono (by decide)) (by rfl) gM FM.kp bM pass0 (pa_cons (pv 3) (pa_cons (pe_call GB2 (hr.mono (by decide)) (by rfl) gB FB.kp bB .nil pass0 (pa_cons (pv 1) (pa_cons (pv 4) pa_nil))) pa_nil))))) (pss_one ps_dead) pss_nil)))))
      (pss_cons (ps_set (i := 7) sc_law.nd rfl (Or.inl rfl) (pe_call GA (hr.mono (by decide)) (by rfl) gA2 FA.kp bA .nil pass0 (pa_cons (pv 3) (pa_cons (pv 4) pa_nil))))
      (pss_cons (ps_if (PW.pt (pw_or (pt_cmpR op_ne (pe_callTy (call_strO (E := fun _ _ _ => False) mS GS hr4 bS pass0) (by rfl) B.str (by decide +kernel) (pa_cons (pe_makeS (m := 2) (ES := WE (fun _ _ _ _ => False)) MK GI hr7 (by rfl) gC bI rfl (fun σ => passAt takes0 σ) (pa_cons (pv 3) (pa_cons (pv 4) pa_nil))) pa_nil)) (pv 7) (nomark _)) (pw_or1 (pt_not (pt_val (pe_callG GR gA (hr.mono (by decide)) (by rfl) gR FR.kp bR pass0 (pa_cons (pv 7) pa_nil))))))) (pss_one ps_dead) pss_nil)
      (pss_one (ps_for (passes_of rfl) rfl (pi_range1 (by rfl) B.range (pa_cons pe_int pa_nil)) (pg_name (i := 5) sc_law.nd rfl (Or.inl rfl))
      (pss_cons (ps_set (i := 8) sc_law.nd rfl (Or.inl rfl) (pe_call GQ (hr.mono (by decide)) (by rfl) gQ FQ.kp bQ .nil pass0 (pa_cons (pv 1) (pa_cons (pv 7) pa_nil))))
      (pss_one (ps_if (PW.pt (pw_or (pt_not (pt_val (pe_callG GR gA (hr.mono (by decide)) (by rfl) gR FR.kp bR pass0 (pa_cons (pv 8) pa_nil)))) (pw_or1 (pt_not (pt_val (pe_callG GR gA (hr.mono (by decide)) (by rfl) gR FR.kp bR pass0 (pa_cons (pe_call GQ (hr.mono (by decide)) (by rfl) gQ FQ.kp bQ .nil pass0 (pa_cons (pv 1) (pa_cons (pv 8) pa_nil))) pa_nil))))))) (pss_one ps_dead) pss_nil))))))))))))
      (pss_cons (ps_set (i := 9) sc_law.nd rfl (Or.inl rfl) (Mq.pe_ls (pa_cons pe_non (pa_cons pe_int (pa_cons pe_bl (pa_cons (Mq.pe_ls pa_nil) (pa_cons (pe_tup (pa_cons pe_str pa_nil)) (pa_cons pe_str (pa_cons pe_str (pa_cons pe_str (pa_cons pe_str (pa_cons pe_str (pa_cons pe_str pa_nil)))))))))))))
      (pss_cons (ps_if (pt_cmpR (op_neNil hu0) (pe_lc (own := [("_law_it", 12)]) (g := gName 12) rfl sc_law.nd (pi_list (pv 9)) (blkOk_by (own := [("_law_it", 12)]) (N := ["_law_script", "_law_deck_here", "_law_go", "_law_signs", "_law_nodes_here", "_law_turn", "_law_bent_here", "_law_page_here", "_law_far", "_law_odd_here", "_law_wide", "_law_near", "_law_it", "_law_k"]) (sc := defScope s_law) (by decide +kernel)) (fun _ _ _ _ _ => pg_name (i := 12) sc_law.nd rfl (Or.inl rfl)) (fun _ _ _ _ _ => pts_one (PT_imp (t' := tRR K) (pt_not (pt_val (pe_callG GR gA (hr.mono (by decide)) (by rfl) gR FR.kp bR pass0 (pa_cons (pv 12) pa_nil)))) (fun σ H Q h => by
          obtain ⟨v, h1, hv, q⟩ := h
          exact ⟨_, h1, v, rfl, hv, fun H1 s1 => ⟨_, rfl, q H1 s1⟩⟩))) (fun _ _ _ _ _ => (pv 12))) (Mq.pe_ls pa_nil) (nomark _)) (pss_one ps_dead) pss_nil)
      (pss_cons (ps_set (i := 10) sc_law.nd rfl (Or.inl rfl) pe_str)
      (pss_cons (ps_set (i := 11) sc_law.nd rfl (Or.inl rfl) (pe_tup (pa_cons (pe_op op_catN (pe_tup (pa_cons pe_str (pa_cons pe_str (pa_cons pe_int pa_nil)))) (pe_op op_repT (pe_tup (pa_cons pe_int pa_nil)) pe_int)) (pa_cons (pe_op op_catN (pe_op op_catN (pe_tup (pa_cons pe_str (pa_cons pe_non pa_nil))) (pe_op op_repT (pe_tup (pa_cons pe_int pa_nil)) pe_int)) (pe_tup (pa_cons pe_int pa_nil))) pa_nil))))
      (pss_cons (ps_set (i := 8) sc_law.nd rfl (Or.inl rfl) (pe_callTy call_tuple_of (by rfl) B.tuple (by decide +kernel) (pa_cons (pe_lc (own := [("_law_k", 13)]) (g := gName 13) (tt := tYes) rfl sc_law.nd (pi_range1 (by rfl) B.range (pa_cons pe_int pa_nil)) (blkOk_by (own := [("_law_k", 13)]) (N := ["_law_script", "_law_deck_here", "_law_go", "_law_signs", "_law_nodes_here", "_law_turn", "_law_bent_here", "_law_page_here", "_law_far", "_law_odd_here", "_law_wide", "_law_near", "_law_it", "_law_k"]) (sc := defScope s_law) (by decide +kernel)) (fun _ _ _ _ _ => pg_name (i := 13) sc_law.nd rfl (Or.inl rfl)) (fun _ _ _ _ _ => pts_nil) (fun _ _ _ _ _ => (pe_tup (pa_cons pe_str (pa_cons pe_str (pa_cons (pe_op op_modN (pe_callTy call_int1 (by rfl) B.int (by decide +kernel) (pa_cons (pe_op op_add (pv 13) pe_int) pa_nil)) pe_int) (pa_cons pe_int pa_nil))))))) pa_nil)))
      (pss_cons (ps_if (PW.pt (pw_or (pt_not (pt_val (pe_callG GR gA (hr.mono (by decide)) (by rfl) gR FR.kp bR pass0 (pa_cons (pe_call GA (hr.mono (by decide)) (by rfl) gA2 FA.kp bA .nil pass0 (pa_cons (pv 10) (pa_cons (pv 11) pa_nil))) pa_nil)))) (pw_or1 (pt_not (pt_val (pe_callG GM gA (hr.mono (by decide)) (by rfl) gM FM.kp bM pass0 (pa_cons (pv 10) (pa_cons (pe_op op_catN (pv 11) (pe_tup (pa_cons (pe_tup (pa_cons pe_str (pa_cons pe_str pa_nil))) pa_nil))) pa_nil)))))))) (pss_one ps_dead) pss_nil)
      (pss_cons (ps_if (PW.pt (pw_or (pt_cmpR op_ne (pe_callTy (call_strO (E := fun _ _ _ => False) mS GS hr4 bS pass0) (by rfl) B.str (by decide +kernel) (pa_cons (pe_makeS (m := 2) (ES := WE (fun _ _ _ _ => False)) MK GI hr7 (by rfl) gC bI rfl (fun σ => passAt takes0 σ) (pa_cons pe_str (pa_cons (pv 8) pa_nil))) pa_nil)) (pe_call GA (hr.mono (by decide)) (by rfl) gA2 FA.kp bA .nil pass0 (pa_cons pe_str (pa_cons (pv 8) pa_nil))) (nomark _)) (pw_or1 (pt_not (pt_val (pe_callG GR gA (hr.mono (by decide)) (by rfl) gR FR.kp bR pass0 (pa_cons (pe_call GA (hr.mono (by decide)) (by rfl) gA2 FA.kp bA .nil pass0 (pa_cons pe_str (pa_cons (pv 8) pa_nil))) pa_nil))))))) (pss_one ps_dead) pss_nil)
      (pss_one (ps_ret (pe_and (pe_callG GR gA (hr.mono (by decide)) (by rfl) gR FR.kp bR pass0 (pa_cons (pe_slice sl_str (pe_call GA (hr.mono (by decide)) (by rfl) gA2 FA.kp bA .nil pass0 (pa_cons pe_str (pa_cons (pv 8) pa_nil))) po_none (po_some (pe_un un_neg pe_int))) pa_nil)) (pe_one (pe_callG GR gA (hr.mono (by decide)) (by rfl) gR FR.kp bR pass0 (pa_cons (pe_call GA (hr.mono (by decide)) (by rfl) gA2 FA.kp bA .nil pass0 (pa_cons pe_str (pa_cons (pe_slice sl_tup (pv 8) po_none (po_some pe_int)) pa_nil))) pa_nil))))))))))))))), ?_⟩
    refine ⟨_, rfl, a, ns0, rfl, ha, hn0, fun H1 D Cc s1 dk1 => ?_⟩
    refine ⟨3, rfl, by decide, by decide, ?_⟩
    refine for_it (walk_rng (n := 3)) (fun go σ H' => DeckAt D Cc (11000 * go) H' ∧ ∃ o2 o3 o4 o5 o6 o7 o8, σ = [some (.ref a), some (.ref D), o2, o3, o4, o5, o6, o7, o8, none, none, none, none, none]) ⟨dk1, _, _, _, _, _, _, _, rfl⟩ (fun _ _ _ _ _ => trivial) ?_ ?_
    · rintro go x0 σ H2 H2' hgo ⟨dk2, o2, o3, o4, o5, o6, o7, o8, rfl⟩ ⟨rfl, rfl⟩
      refine ⟨_, rfl, sz_le (n := 6) (by decide), fun p hp _ => ?_⟩
      have t3 := same_new (o := HO.lst (txs menu6)) hp
      obtain ⟨pD, pC⟩ := new_ne dk2 hp
      rw [menu_is]
      refine ⟨D, Cc, 11000 * go, .ref p, rfl, dk2.same t3, by omega, Or.inr ⟨p, _, rfl, upd_same, pC, by decide, by decide, fun H3 v hv dk3 off3 => ?_⟩⟩
      obtain ⟨sg, hsg, rfl⟩ := List.mem_map.mp hv
      obtain ⟨hlet, h4⟩ := menu_ok sg hsg
      have hs := sg_ok hlet h4
      refine ⟨_, rfl, _, rfl, _, rfl, sz_le (n := 4) (by decide), fun p2 hp2 _ => ?_⟩
      have t4 := same_new (o := HO.lst [V.int 5, .int 5, .int 5, .int 12]) hp2
      obtain ⟨qD, qC⟩ := new_ne dk3 hp2
      refine ⟨D, Cc, _, .ref p2, rfl, dk3.same t4, by omega, Or.inr ⟨p2, _, rfl, upd_same, qC, by decide, by decide, fun H4 v hv dk4 off4 => ?_⟩⟩
      obtain ⟨top, ht0, ht1, rfl⟩ : ∃ top : Nat, 0 < top ∧ top ≤ 12 ∧ v = .int (top : Nat) := by
        simp only [List.mem_cons, List.not_mem_nil, or_false] at hv
        rcases hv with rfl | rfl | rfl | rfl
        · exact ⟨5, by decide, by decide, rfl⟩
        · exact ⟨5, by decide, by decide, rfl⟩
        · exact ⟨5, by decide, by decide, rfl⟩
        · exact ⟨12, by decide, by decide, rfl⟩
      refine ⟨D, Cc, _, top, sg, rfl, dk4, by omega, hs, ht0, by omega, fun H5 na ns hna hok hfl dk5 off5 => ?_⟩
      have p1 : Pts K H5 sg ns na := ⟨hna, hok, hs, by omega, h4⟩
      clear off3 off4 off5 t3 t4 hna hv
      have okS : OkD 372 2 (.str (S sg)) := p1.okS.mono (by decide) (by decide)
      refine ⟨_, rfl, _, rfl, .str (S sg), .ref na, _, _, 372, 2, rfl, .str _, p1.tn.dg, okS, p1.okF, by decide, by decide, fun H6 s6 => ⟨_, rfl, ifF rfl ?_⟩⟩
      have p1 := p1.same s6
      have dk6 := dk5.same s6
      refine ⟨_, rfl, _, rfl, _, rfl, _, rfl, ?_⟩
      dsimp only [tNil, tCons, tC]
      show spNodes K [.ref D, .str (S sg), .int 2] _ _ _
      refine ⟨D, Cc, _, 2, sg, rfl, dk6, by omega, hs, by decide, by decide, fun H7 nb ms hnb hokb hflb dk7 off7 => ?_⟩
      have p1 := p1.kp (KpT.off off7 dk6)
      have p2 : Pts K H7 sg ms nb := ⟨hnb, hokb, hs, by omega, h4⟩
      refine ⟨sg, ns, ms, na, nb, rfl, p1, p2, fun H8 s8 => ⟨_, rfl, ifF rfl ?_⟩⟩
      have p1 := p1.same s8
      have dk8 := dk7.same s8
      clear p2 hnb off7 dk7 dk6 s6 s8
      refine ⟨5, rfl, by decide, by decide, ?_⟩
      refine for_it (walk_rng (n := 5)) (fun tn σ H' => DeckAt D Cc (11000 * go + 10100 + 40 * tn) H' ∧ Pts K H' sg ns na ∧ ∃ o5 o6, σ = [some (.ref a), some (.ref D), some (.int (go : Nat)), some (.str (S sg)), some (.ref na), o5, o6, o7, o8, none, none, none, none, none]) ⟨dk8.mono (by omega), p1, _, _, rfl⟩ (fun _ _ _ _ _ => trivial) ?_ ?_
      · rintro tn x1 σ H8 H8' htn ⟨dk12, p1, o5, o6, rfl⟩ ⟨rfl, rfl⟩
        refine ⟨_, rfl, _, rfl, _, rfl, sz_le (n := 2) (by decide), fun pp hpp => ?_⟩
        have u1 := same_new (o := HO.tup [V.str (S sg), V.ref na]) hpp
        have k1 : SqT K (upd H8' pp (.tup [V.str (S sg), V.ref na])) pp [V.str (S sg), V.ref na] := Or.inl (Or.inl upd_same)
        have p1 := p1.same u1
        have okP : OkD 800 3 (.tuple [.str (S sg), .tuple (ns.map ndD)]) := ((LsOk.cons (p1.okS.mono (Nat.le_refl _) (Nat.zero_le 2)) (LsOk.cons p1.okF (LsOk.nil (w := 0)))).tup).mono (by decide) (by decide)
        have hwP : (PyData.tuple [.str (S sg), .tuple (ns.map ndD)]).weight ≤ 800 := okP.gs.we
        refine ⟨D, Cc, _, .ref pp, .tuple [.str (S sg), .tuple (ns.map ndD)], rfl, dk12.same u1, by omega, Tn.two' k1 (.str _) p1.tn, okP.exact, by omega, by decide, fun H9 u T9 hT9 dk13 off13 od => ?_⟩
        have p1 := p1.kp (KpT.off off13 (dk12.same u1))
        obtain ⟨d', dv, oku⟩ := od
        refine ⟨u, d', 2600, 6, rfl, dv.dg, oku.mono (by omega) (by decide), by decide, by decide, fun H10 s10 => ifF rfl ?_⟩
        have p1 := p1.same s10
        have dk14 := dk13.same s10
        have hwF : (PyData.tuple (ns.map ndD)).weight ≤ 372 := p1.okF.gs.we
        refine ⟨_, rfl, _, rfl, _, rfl, D, Cc, _, .ref na, _, rfl, dk14, by omega, p1.tn, p1.okF.exact, by omega, by decide, fun H11 u2 T11 hT11 dk15 off15 od2 => ?_⟩
        have p1 := p1.kp (KpT.off off15 dk14)
        obtain ⟨d2, dv2, oku2⟩ := od2
        refine ⟨.str (S sg), u2, _, d2, 1400, 6, rfl, .str _, dv2.dg, okS.mono (by decide) (by decide), oku2.mono (by omega) (by decide), by decide, by decide, fun H12 s12 => ⟨_, rfl, ifF rfl ?_⟩⟩
        exact ⟨(dk15.same s12).mono (by omega), p1.same s12, _, _, rfl⟩
      · rintro σ H8 ⟨dk12, p1, o5, o6, rfl⟩
        have hfew := p1.few
        refine ⟨_, rfl, _, rfl, na, sg, ns, rfl, p1.at_, p1.sz, by omega, by omega, fun H9 s9 => ?_⟩
        have p1 := p1.same s9
        have dk9 := dk12.same s9
        refine ⟨_, rfl, _, rfl, rfl, fun x dx hx hdx hne => ?_⟩
        refine mk_right p1 hx hdx hne fun H10 s10 b1 => ⟨rfl, ?_⟩
        have b1' := b1
        obtain ⟨dx1, i1⟩ := b1'
        have p1 := p1.same s10
        have dk10 := dk9.same s10
        refine ⟨x, dx1, _, rfl, i1, x, na, sg, ns, rfl, b1, p1.at_, p1.sz, by omega, by omega, fun H11 s11 => ⟨_, rfl, _, rfl, rfl, _, rfl, ifF (by rw [decide_eq_true rfl]; rfl) ?_⟩⟩
        have pg : Pg 13 30 320 (pageT sg ns) := (page_pg hlet p1.ok.2.2 (by omega) (by omega) hfew).mono (Nat.le_refl _) (Nat.le_refl _) (by
          have := Nat.mul_le_mul (show 11 + 3 * sg.length ≤ 23 by omega) hfew
          omega)
        refine ⟨_, rfl, _, rfl, pg.rd (by decide), fun H12 s12 => ⟨_, rfl, ifF rfl ?_⟩⟩
        have dk12 := (dk10.same s11).same s12
        clear i1 b1 p1 dk10 s10 s11 s12 dk9
        refine ⟨5, rfl, by decide, by decide, ?_⟩
        refine for_it (walk_rng (n := 5)) (fun tn σ H' => DeckAt D Cc (11000 * go + 10400 + 20 * tn) H' ∧ ∃ o5 o8, σ = [some (.ref a), some (.ref D), some (.int (go : Nat)), some (.str (S sg)), some (.ref na), o5, o6, some (.str (S (pageT sg ns))), o8, none, none, none, none, none]) ⟨dk12.mono (by omega), _, _, rfl⟩ (fun _ _ _ _ _ => trivial) ?_ ?_
        · rintro tn x1 σ H13 H13' htn ⟨dk13, o5, o8, rfl⟩ ⟨rfl, rfl⟩
          refine ⟨_, rfl, _, rfl, D, Cc, _, pageT sg ns, 13, 30, 320, rfl, dk13, by omega, pg, by decide, by decide, by decide, by decide, fun H14 l pl dk14 off14 => ?_⟩
          refine ⟨_, rfl, _, rfl, pl.rd (by decide), fun H15 s15 => ⟨_, rfl, ifF rfl ?_⟩⟩
          refine ⟨_, rfl, _, rfl, D, Cc, _, l, _, _, _, rfl, dk14.same s15, by omega, pl, by decide, by decide, by decide, by decide, fun H16 l2 pl2 dk16 off16 => ?_⟩
          refine ⟨_, rfl, pl2.rd (by decide), fun H17 s17 => ⟨_, rfl, ifF rfl ?_⟩⟩
          exact ⟨(dk16.same s17).mono (by omega), _, _, rfl⟩
        · rintro σ H13 ⟨dk13, o5, o8, rfl⟩
          exact ⟨dk13.mono (by omega), _, _, _, _, _, _, _, rfl⟩
    · rintro σ H2 ⟨dk2, o2, o3, o4, o5, o6, o7, o8, rfl⟩
      clear dk2
      refine ⟨sz_le (n := 0) (by decide), fun p1 hp1 _ => ?_⟩
      have z1 : upd H2 p1 (.lst []) p1 = some (.lst []) := upd_same
      generalize upd H2 p1 (.lst []) = G1 at z1 ⊢
      refine ⟨sz_le (n := 1) (by decide), fun p2 hp2 => ?_⟩
      have u2 := same_new (o := HO.tup [V.str "reader ab\nnone"]) hp2
      have z2 : SqT K (upd G1 p2 (.tup [V.str "reader ab\nnone"])) p2 [V.str "reader ab\nnone"] := Or.inl (Or.inl upd_same)
      have z1 := u2 _ _ z1
      generalize upd G1 p2 (.tup [V.str "reader ab\nnone"]) = G2 at z1 z2 ⊢
      refine ⟨sz_le (n := 11) (by decide), fun p3 hp3 _ => ?_⟩
      have u3 := same_new (o := HO.lst [V.non, .int 0, .bl true, .ref p1, .ref p2, .str "", .str "\n", .str "reader", .str "reader ab", .str "reader ab\n", .str "reader ba\nnone"]) hp3
      have all : ∀ v ∈ [V.non, .int 0, .bl true, .ref p1, .ref p2, .str "", .str "\n", .str "reader", .str "reader ab", .str "reader ab\n", .str "reader ba\nnone"], RdT K G2 v := by
        intro v hv
        simp only [List.mem_cons, List.not_mem_nil, or_false] at hv
        rcases hv with rfl | rfl | rfl | rfl | rfl | rfl | rfl | rfl | rfl | rfl | rfl
        · exact Or.inl fun _ _ => ⟨_, .base .non, kit_ty (by decide +kernel)⟩
        · exact Or.inl fun _ _ => ⟨_, .base (.int _), kit_ty (by decide +kernel)⟩
        · exact Or.inl fun _ _ => ⟨_, .base (.bl _), kit_ty (by decide +kernel)⟩
        · exact Or.inl fun H' e => ⟨_, ty_list (SqL.of (e _ _ z1)), kit_ty (by decide +kernel)⟩
        · exact Or.inl fun H' e => ⟨_, ty_tup (Same.tup e z2), kit_ty (by decide +kernel)⟩
        · exact rd_lit (by decide +kernel)
        · exact rd_lit (by decide +kernel)
        · exact rd_lit (by decide +kernel)
        · exact rd_lit (by decide +kernel)
        · exact rd_lit (by decide +kernel)
        · exact rd_lit (by decide +kernel)
      have z3 : upd G2 p3 (.lst [V.non, .int 0, .bl true, .ref p1, .ref p2, .str "", .str "\n", .str "reader", .str "reader ab", .str "reader ab\n", .str "reader ba\nnone"]) p3 = some (.lst [V.non, .int 0, .bl true, .ref p1, .ref p2, .str "", .str "\n", .str "reader", .str "reader ab", .str "reader ab\n", .str "reader ba\nnone"]) := upd_same
      have all := fun v hv => (all v hv).same u3
      generalize upd G2 p3 (.lst [V.non, .int 0, .bl true, .ref p1, .ref p2, .str "", .str "\n", .str "reader", .str "reader ab", .str "reader ab\n", .str "reader ba\nnone"]) = G3 at z3 all ⊢
      generalize [V.non, .int 0, .bl true, .ref p1, .ref p2, .str "", .str "\n", .str "reader", .str "reader ab", .str "reader ab\n", .str "reader ba\nnone"] = its at z3 all
      clear u2 u3 z1 z2 hp1 hp2 hp3
      refine ⟨_, rfl, p3, rfl, ⟨_, SqL.of z3⟩, fun D1 hD1 => ?_⟩
      refine lc_it (walk_list (a := p3) (xs := its)) (fun i H' => Same G3 H' ∧ H' D1 = some (.lst [])) ⟨same_new hD1, upd_same⟩ (fun i H' _ p => SqL.of (p.1 _ _ z3)) ?_ ?_
      · rintro i v H4 H4' hi ⟨s4, zD⟩ ⟨rfl, hv⟩
        exact ⟨rfl, v, rfl, (all v (List.mem_of_getElem? hv)).same s4, fun H5 s5 => ifF rfl ⟨s4.trans s5, s5 _ _ zD⟩⟩
      · rintro H4 ⟨s4, zD⟩
        refine ⟨sz_le (n := 0) (by decide), fun p0 hp0 _ => ?_⟩
        have t0 := same_new (o := HO.lst []) hp0
        refine ⟨D1, p0, [], rfl, rfl, SqL.of (t0 _ _ zD), SqL.of upd_same, _, rfl, ifF rfl ?_⟩
        generalize upd H4 p0 (.lst []) = H5
        clear t0 zD s4 hp0 z3 all hD1
        -- near
        refine ⟨sz_le (n := 3) (by decide), fun a1 h1 => ?_⟩
        have k1 : SqT K (upd H5 a1 (.tup [V.str "reads", .str "z", .int 1])) a1 [V.str "reads", .str "z", .int 1] := Or.inl (Or.inl upd_same)
        generalize upd H5 a1 (.tup [V.str "reads", .str "z", .int 1]) = G1 at k1 ⊢
        refine ⟨sz_le (n := 1) (by decide), fun a2 h2 => ?_⟩
        have u2 := same_new (o := HO.tup [V.int 0]) h2
        have k2 : SqT K (upd G1 a2 (.tup [V.int 0])) a2 [V.int 0] := Or.inl (Or.inl upd_same)
        have k1 := Same.tup u2 k1
        generalize upd G1 a2 (.tup [V.int 0]) = G2 at k1 k2 ⊢
        refine ⟨a2, 25, _, rfl, rfl, k2, (fun z => nomatch z), by decide, by decide, by decide, fun a3 h3 => ?_⟩
        have u3 := same_new (o := HO.tup (List.replicate (25 : Int).toNat [V.int 0]).flatten) h3
        refine ⟨a1, a3, _, _, rfl, rfl, Same.tup u3 k1, Or.inl (Or.inl upd_same), sz_le (by decide), fun b1 G4 t4 kb1 => ?_⟩
        have kb1 : SqT K G4 b1 (ndV nearA) := kb1
        clear u2 u3 k1 k2 h1 h2 h3 t4
        refine ⟨sz_le (n := 2) (by decide), fun a1 h1 => ?_⟩
        have u1 := same_new (o := HO.tup [V.str "reads", .non]) h1
        have k1 : SqT K (upd G4 a1 (.tup [V.str "reads", .non])) a1 [V.str "reads", .non] := Or.inl (Or.inl upd_same)
        have kb1 := Same.tup u1 kb1
        generalize upd G4 a1 (.tup [V.str "reads", .non]) = G5 at k1 kb1 ⊢
        refine ⟨sz_le (n := 1) (by decide), fun a2 h2 => ?_⟩
        have u2 := same_new (o := HO.tup [V.int 1]) h2
        have k2 : SqT K (upd G5 a2 (.tup [V.int 1])) a2 [V.int 1] := Or.inl (Or.inl upd_same)
        have k1 := Same.tup u2 k1
        have kb1 := Same.tup u2 kb1
        generalize upd G5 a2 (.tup [V.int 1]) = G6 at k1 k2 kb1 ⊢
        refine ⟨a2, 25, _, rfl, rfl, k2, (fun z => nomatch z), by decide, by decide, by decide, fun a3 h3 => ?_⟩
        have u3 := same_new (o := HO.tup (List.replicate (25 : Int).toNat [V.int 1]).flatten) h3
        have kb1 := Same.tup u3 kb1
        refine ⟨a1, a3, _, _, rfl, rfl, Same.tup u3 k1, Or.inl (Or.inl upd_same), sz_le (by decide), fun a4 G7 t7 k4 => ?_⟩
        have kb1 := Same.tup t7 kb1
        refine ⟨sz_le (n := 1) (by decide), fun a5 h5 => ?_⟩
        have u5 := same_new (o := HO.tup [V.int 0]) h5
        have k5 : SqT K (upd G7 a5 (.tup [V.int 0])) a5 [V.int 0] := Or.inl (Or.inl upd_same)
        have kb1 := Same.tup u5 kb1
        refine ⟨a4, a5, _, _, rfl, rfl, Same.tup u5 k4, k5, sz_le (by decide), fun b2 G8 t8 kb2 => ?_⟩
        have kb1 := Same.tup t8 kb1
        have kb2 : SqT K G8 b2 (ndV nearB) := kb2
        clear u1 u2 u3 u5 k1 k2 k4 k5 h1 h2 h3 h5 t7 t8
        refine ⟨sz_le (n := 2) (by decide), fun nr hnr => ?_⟩
        have u1 := same_new (o := HO.tup [V.ref b1, .ref b2]) hnr
        have knr : SqT K (upd G8 nr (.tup [V.ref b1, .ref b2])) nr [V.ref b1, .ref b2] := Or.inl (Or.inl upd_same)
        have near : NdAll K (upd G8 nr (.tup [V.ref b1, .ref b2])) [V.ref b1, .ref b2] [nearA, nearB] := .cons ⟨b1, rfl, Same.tup u1 kb1⟩ (.cons ⟨b2, rfl, Same.tup u1 kb2⟩ .nil)
        generalize upd G8 nr (.tup [V.ref b1, .ref b2]) = G9 at knr near ⊢
        clear kb1 kb2 u1 hnr
        refine ⟨_, rfl, by decide, by decide, fun D2 hD2 => ?_⟩
        refine lc_yes (walk_rng (n := 12)) (fun i H' => Same G9 H' ∧ ∃ vs, H' D2 = some (.lst vs) ∧ NdAll K H' vs ((List.range i).map farN) ∧ vs.length = i) ⟨same_new hD2, [], upd_same, .nil, rfl⟩ (fun _ _ _ _ => trivial) ?_ ?_
        · rintro j x H6 H7 hj ⟨s6, vs, zD, ha, hvl⟩ ⟨rfl, rfl⟩
          refine ⟨rfl, _, rfl, _, _, rfl, rfl, Or.inl ⟨_, rfl, _, _, rfl, rfl, (show (12 : Int) ≠ 0 by decide), ?_⟩⟩
          have em : (((j : Nat) : Int) + 1).fmod 12 = (((j + 1) % 12 : Nat) : Int) := by
            rw [Int.fmod_eq_emod_of_nonneg _ (by decide)]
            omega
          refine ⟨sz_le (n := 4) (by decide), fun p hp => ?_⟩
          dsimp only
          rw [em]
          have u1 := same_new (o := HO.tup [V.str "reads", .str "ab", .int (((j + 1) % 12 : Nat) : Int), .int 11]) hp
          have kp : SqT K (upd H7 p (.tup [V.str "reads", .str "ab", .int (((j + 1) % 12 : Nat) : Int), .int 11])) p (ndV (farN j)) := Or.inl (Or.inl upd_same)
          have zD := u1 _ _ zD
          have ha := NdAll.same u1 ha
          have s6 := s6.trans u1
          generalize upd H7 p (.tup [V.str "reads", .str "ab", .int (((j + 1) % 12 : Nat) : Int), .int 11]) = G8 at kp zD ha s6 ⊢
          refine ⟨_, zD, sz_lt (by omega), push_same hD2 s6, _, upd_same, ?_, by rw [List.length_append, hvl]; rfl⟩
          rw [List.range_succ, List.map_append]
          exact (NdAll.app1 ha ⟨p, rfl, kp⟩).kp (KpT.lst zD)
        · rintro H6 ⟨s6, vs, zD, ha, hvl⟩
          refine ⟨D2, _, rfl, Or.inl ⟨SqL.of zD, fun fa hfa => ?_⟩⟩
          have u1 := same_new (o := HO.tup vs) hfa
          have kfa : SqT K (upd H6 fa (.tup vs)) fa vs := Or.inl (Or.inl upd_same)
          have far := NdAll.same u1 ha
          have near := NdAll.same (s6.trans u1) near
          have knr := Same.tup (s6.trans u1) knr
          generalize upd H6 fa (.tup vs) = H8 at kfa far near knr ⊢
          clear u1 zD ha s6 hfa hD2
          have far : NdAll K H8 vs farL := far
          -- the wide reader's page
          have nsz : ∀ n ∈ [nearA, nearB], NdSz n := fun n hn => nd_sz (near_ok n hn) (by decide) (by decide)
          refine ⟨_, rfl, _, rfl, nr, alpha, [nearA, nearB], by rw [alpha_is]; rfl, ⟨_, knr, near⟩, nsz, by decide, by decide, fun H9 s9 => ?_⟩
          have pgN : Pg 13 30 300 (pageT alpha [nearA, nearB]) := (page_pg alpha_let near_ok (by decide) (by decide) (by decide)).mono (Nat.le_refl _) (Nat.le_refl _) (by decide)
          refine ⟨_, rfl, pgN.rd (by decide), fun H10 s10 => ⟨_, rfl, ifF rfl ?_⟩⟩
          have s90 := Same.trans s9 s10
          have near := NdAll.same s90 near
          have knr := Same.tup s90 knr
          have far := NdAll.same s90 far
          have kfa := Same.tup s90 kfa
          clear s9 s10 s90
          refine ⟨_, rfl, _, rfl, sz_le (n := 2) (by decide), fun a6 h6 => ?_⟩
          have u1 := same_new (o := HO.tup [V.str "stops", .str "{"]) h6
          have k6 : SqT K (upd H10 a6 (.tup [V.str "stops", .str "{"])) a6 [V.str "stops", .str "{"] := Or.inl (Or.inl upd_same)
          have near := NdAll.same u1 near
          have knr := Same.tup u1 knr
          have far := NdAll.same u1 far
          have kfa := Same.tup u1 kfa
          generalize upd H10 a6 (.tup [V.str "stops", .str "{"]) = G1 at k6 near knr far kfa ⊢
          refine ⟨sz_le (n := 1) (by decide), fun a7 h7 => ?_⟩
          have u2 := same_new (o := HO.tup [V.ref a6]) h7
          refine ⟨nr, a7, _, _, rfl, rfl, Same.tup u2 knr, Or.inl (Or.inl upd_same), sz_le (n := 3) (by decide), fun a8 G3 t3 k8 => ?_⟩
          have u3 := u2.trans t3
          have dgn : Dg K G3 (.ref a8) nearD := by
            have h1 := nds_dg (NdAll.same u3 near)
            cases h1 with
            | cons g1 h1 =>
              cases h1 with
              | cons g2 h1 => exact .tup k8 (.cons g1 (.cons g2 (.cons (.tup (Same.tup u3 k6) (.cons (.str _) (.cons (.str _) .nil))) .nil)))
          have far := NdAll.same u3 far
          have kfa := Same.tup u3 kfa
          refine ⟨.str "abcdefghijklmnopqrstuvwxyz", .ref a8, _, nearD, 400, 3, rfl, .str _, dgn, abc_ok, nearD_ok, by decide, by decide, fun H11 s11 => ⟨_, rfl, ifF rfl ?_⟩⟩
          have far := NdAll.same s11 far
          have kfa := Same.tup s11 kfa
          clear dgn k8 k6 u1 u2 u3 t3 near knr s11 h6 h7
          have pF : Pts K H11 [97, 98] farL fa := ⟨⟨_, kfa, far⟩, ⟨(fun e => by cases e), by decide, far_ok⟩, sg_ok ab_let (by decide), by decide, by decide⟩
          have pgF : Pg 13 30 300 (pageT [97, 98] farL) := (page_pg ab_let far_ok (by decide) (by decide) (by decide)).mono (Nat.le_refl _) (Nat.le_refl _) (by decide)
          refine ⟨_, rfl, rfl, fun x dx hx hdx hne => ?_⟩
          show spInitA K C CT [.ref x, .str "ab", .ref fa] _ _ _
          refine mk_right (sg := [97, 98]) pF hx hdx hne fun H12 s12 b1 => ⟨rfl, ?_⟩
          have b1' := b1
          obtain ⟨dx1, i1⟩ := b1'
          have pF := pF.same s12
          refine ⟨x, dx1, _, rfl, i1, x, fa, [97, 98], farL, rfl, b1, pF.at_, pF.sz, by decide, by decide, fun H13 s13 => ⟨_, rfl, ?_⟩⟩
          have pF := pF.same s13
          refine ⟨_, rfl, fa, [97, 98], farL, rfl, pF.at_, pF.sz, by decide, by decide, fun H14 s14 => ⟨rfl, _, rfl, ifF (by rw [decide_eq_true rfl]; rfl) ?_⟩⟩
          have pF := pF.same s14
          clear i1 b1 s12 s13 s14
          refine ⟨_, rfl, fa, [97, 98], farL, rfl, pF.at_, pF.sz, by decide, by decide, fun H15 s15 => ⟨_, rfl, pgF.rd (by decide), fun H16 s16 => ⟨_, rfl, ifF rfl ?_⟩⟩⟩
          have pF := pF.same (Same.trans s15 s16)
          clear s15 s16
          refine ⟨_, rfl, fa, [97, 98], farL, rfl, pF.at_, pF.sz, by decide, by decide, fun H17 s17 => ?_⟩
          have pF := pF.same s17
          have pll := pgF.len
          refine ⟨_, rfl, _, rfl, S (pageT [97, 98] farL), rfl, sz_le (by rw [SX.S_len]; omega), ?_⟩
          refine ⟨_, rfl, ?_, fun H18 s18 => ⟨_, rfl, ifT rfl ?_⟩⟩
          · rw [cutS_eq]
            refine Or.inr ⟨_, rfl, ?_, fun c hc => ?_⟩
            · rw [List.length_take, List.length_drop]
              omega
            · have hlow := joinL_low (c := 10) (by decide) (ps := spl 10 (pageT [97, 98] farL)) fun l hl => (pgF.ok l hl).low
              rw [spl_join] at hlow
              exact hlow c (List.mem_of_mem_drop (List.mem_of_mem_take hc))
          · have pF := pF.same s18
            obtain ⟨ws, kw, nw⟩ := pF.at_
            have hwl : ws.length = 12 := nw.len
            refine ⟨_, rfl, 11, rfl, fa, _, rfl, kw, ?_, fun p11 hp11 => ?_⟩
            · rw [hwl]
              exact fun z => absurd z.2 (by decide)
            · rw [show cutV ws none (some 11) = ws.take 11 from cut_front ws 11]
              have u1 := same_new (o := HO.tup (ws.take 11)) hp11
              refine ⟨p11, [97, 98], farL.take 11, rfl, ⟨_, Or.inl (Or.inl upd_same), NdAll.take 11 (NdAll.same u1 nw)⟩, fun n hn => pF.sz n (List.mem_of_mem_take hn), by decide, by decide, fun H19 s19 => ?_⟩
              have pgT : Pg 13 30 300 (pageT [97, 98] (farL.take 11)) := (page_pg ab_let (fun n hn => far_ok n (List.mem_of_mem_take hn)) (by decide) (by decide) (by decide)).mono (Nat.le_refl _) (Nat.le_refl _) (by decide)
              exact ⟨_, rfl, pgT.rd (by decide), fun H20 s20 => q _⟩
end
end Lw

namespace Mq
open PySem PySem.Spec PyProof.Rows L2
/-! ### properties among the head's facts; whole numbers and kinds at the top -/
/-- where the getter of the property m of the class x stands -/
def pgA (K : PySem.W.Frag) (x m : Str) : Addr :=
  match PySem.W.recIn K (He.ma K (He.ga K x) m) "property" with
  | some (.ref g :: _) => g
  | _ => 0
def fnRd (K : PySem.W.Frag) (f : Addr) : He.FnV :=
  match K.lookup f with
  | some ⟨_, _, .func fd, _⟩ => some (fd.name, fd.qualname, fd.params, fd.body, fd.scope, fd.globals, fd.closure, fd.defaults, fd.builtins)
  | _ => none
def prObs (K : PySem.W.Frag) (p : Str × Option Str) : He.FnV :=
  match p.2 with
  | some m => fnRd K (pgA K p.1 m)
  | none => none
theorem fnRd_ok {K : PySem.W.Frag} {f : Addr} {nm q : Str} {a : Arguments} {b : List Stmt} {s : Scope} (h : fnRd K f = some (nm, q, a, FuncBody.stmts b, s, mainGlobals, [], Value.none, builtinsNs)) :
    ∃ (oc : Value) (od : Option Addr) (osl : Array (Option Value)) (kV doc pm : Value) (an : Option Addr) (cdv ct : Value), K.lookup f = some ⟨oc, od, .func (PySem.W.fnOf nm q a b s .none kV doc pm an cdv ct), osl⟩ := by
  unfold fnRd at h
  split at h
  · rename_i oc od fd osl e
    obtain ⟨n1, n2, n3, n4, n5, n6, n7, n8, n9, n10, n11, n12, n13, n14, n15⟩ := fd
    simp only [Option.some.injEq, Prod.mk.injEq] at h
    obtain ⟨rfl, rfl, rfl, rfl, rfl, rfl, rfl, rfl, rfl⟩ := h
    exact ⟨oc, od, osl, _, _, _, _, _, _, e⟩
  · cases h
theorem prop_def {K : PySem.W.Frag} {pr : List He.FnD} (h : pr.map (fun d => prObs K d.at_) = pr.map He.FnD.val) (i : Nat) {x m nm q : Str} {a : Arguments} {b : List Stmt} {s : Scope} (e : pr[i]? = some ⟨(x, some m), nm, q, a, b, s⟩) :
    ∃ (oc : Value) (od : Option Addr) (osl : Array (Option Value)) (kV doc pm : Value) (an : Option Addr) (cdv ct : Value), K.lookup (pgA K x m) = some ⟨oc, od, .func (PySem.W.fnOf nm q a b s .none kV doc pm an cdv ct), osl⟩ := by
  have h1 := congrArg (fun l => l[i]?) h
  simp only [List.getElem?_map, e, Option.map_some, Option.some.injEq] at h1
  exact fnRd_ok h1
def recB (K : PySem.W.Frag) (p : Addr) : Bool :=
  match PySem.W.recIn K p "property" with
  | some (.ref _ :: _) => true
  | _ => false
def fProp (x m : Str) : PySem.W.Frag → Bool := fun K => He.eqO (PySem.W.findIn K (.ref (He.ga K x)) m) (some (some (.ref (He.ma K (He.ga K x) m)))) &&
  (He.eqO (PySem.W.specialIn K (.ref (He.ma K (He.ga K x) m)) "__get__") (some (some (.builtin "property.__get__"))) && (decide (PySem.W.takesIn K (.ref (He.ma K (He.ga K x) m)) = some true) && recB K (He.ma K (He.ga K x) m)))
theorem prop_of {K : PySem.W.Frag} {x m : Str} (h : fProp x m K = true) : PropOf K (He.ga K x) m (He.ma K (He.ga K x) m) (pgA K x m) := by
  obtain ⟨a, h⟩ := Bool.and_eq_true_iff.mp h
  obtain ⟨b, h⟩ := Bool.and_eq_true_iff.mp h
  obtain ⟨c, d⟩ := Bool.and_eq_true_iff.mp h
  refine ⟨He.eqO_ok a, He.eqO_ok b, of_decide_eq_true c, ?_⟩
  unfold recB at d
  unfold pgA
  split at d
  · rename_i g rest e
    rw [e]
    exact ⟨rest, rfl⟩
  · cases d
def fPrc (x m q : Str) : PySem.W.Frag → Bool := fun K =>
  match K.lookup (pgA K x m) with
  | some ⟨_, _, .func fd, _⟩ => PySem.W.codeIn K fd.code q
  | _ => false
theorem prc_of {K : PySem.W.Frag} {x m q : Str} {oc : Value} {od : Option Addr} {fd : FuncData} {osl : Array (Option Value)} (h : fPrc x m q K = true) (e : K.lookup (pgA K x m) = some ⟨oc, od, .func fd, osl⟩) : PySem.W.codeIn K fd.code q = true := by
  unfold fPrc at h
  rw [e] at h
  exact h
def fInt (x : Str) (v : Int) : PySem.W.Frag → Bool := fun K => match PySem.W.nsIn K mainGlobals x with
  | some (some (.int y _)) => decide (y = v)
  | _ => false
theorem int_of {K : PySem.W.Frag} {x : Str} {v : Int} (h : fInt x v K = true) : ∃ t, PySem.W.nsIn K mainGlobals x = some (some (.int v t)) := by
  unfold fInt at h
  split at h
  · rename_i y t e
    have := of_decide_eq_true h
    subst this
    exact ⟨t, e⟩
  · cases h
def fKitT (x : Str) (T : String) (b : Bool) : PySem.W.Frag → Bool := fun K => decide (PySem.W.kitOne K (.ref (He.ga K x)) (.type T) = some b)
theorem kitT_of {K : PySem.W.Frag} {x : Str} {T : String} {b : Bool} (h : fKitT x T b K = true) : PySem.W.kitOne K (.ref (He.ga K x)) (.type T) = some b := of_decide_eq_true h
abbrev AlP := (He.Al × Bool) × List He.FnV
def obsP (n : Nat) (fn pr : List He.FnD) (fs : List (PySem.W.Frag → Bool)) (g : Addr → Option Obj) : AlP :=
  (obsM n fn fs g, pr.map fun d => prObs (He.frG g (He.asG g n)) d.at_)
def hookP (n : Nat) (fn pr : List He.FnD) (fs : List (PySem.W.Frag → Bool)) : PySem.W.Hook where
  α := (He.Al × Bool) × List He.FnV
  obs := fun s => obsP n fn pr fs s.heap.get?
  val := fun _ => ((He.valE fn, true), pr.map He.FnD.val)
  says := fun _ h => ∃ K : PySem.W.Frag, K.In h ∧ He.SaysE [] fn K ∧ exB fs K = true ∧ pr.map (fun d => prObs K d.at_) = pr.map He.FnD.val
  of := fun w s e => ⟨He.frG s.heap.get? (He.asG s.heap.get? n), He.frG_in, congrArg (fun z : AlP => z.1.1) e, congrArg (fun z : AlP => z.1.2) e, congrArg Prod.snd e⟩
  keeps := fun w h h' ⟨K, a, b, c⟩ k => ⟨K, a.keeps k, b, c⟩
theorem obsP_eq {n : Nat} {fn pr : List He.FnD} {fs : List (PySem.W.Frag → Bool)} {g : Addr → Option Obj} {s : Shared} (h : ∀ a, g a = s.heap.get? a) : obsP n fn pr fs g = (hookP n fn pr fs).obs s := by
  have e : g = s.heap.get? := funext h
  rw [e]
  rfl
end Mq

namespace Mq
open PySem PySem.Spec PyProof.Rows L2
/-! ### classmethods among the head's facts -/
def cmA (K : PySem.W.Frag) (x m : Str) : Addr :=
  match PySem.W.recIn K (He.ma K (He.ga K x) m) "classmethod" with
  | some (.ref g :: _) => g
  | _ => 0
def cmObs (K : PySem.W.Frag) (p : Str × Option Str) : He.FnV :=
  match p.2 with
  | some m => fnRd K (cmA K p.1 m)
  | none => none
theorem cm_def {K : PySem.W.Frag} {pr : List He.FnD} (h : pr.map (fun d => cmObs K d.at_) = pr.map He.FnD.val) (i : Nat) {x m nm q : Str} {a : Arguments} {b : List Stmt} {s : Scope} (e : pr[i]? = some ⟨(x, some m), nm, q, a, b, s⟩) :
    ∃ (oc : Value) (od : Option Addr) (osl : Array (Option Value)) (kV doc pm : Value) (an : Option Addr) (cdv ct : Value), K.lookup (cmA K x m) = some ⟨oc, od, .func (PySem.W.fnOf nm q a b s .none kV doc pm an cdv ct), osl⟩ := by
  have h1 := congrArg (fun l => l[i]?) h
  simp only [List.getElem?_map, e, Option.map_some, Option.some.injEq] at h1
  exact fnRd_ok h1
def recC (K : PySem.W.Frag) (p : Addr) : Bool :=
  match PySem.W.recIn K p "classmethod" with
  | some (.ref _ :: _) => true
  | _ => false
def fRead (x : Str) : PySem.W.Frag → Bool := fun K => PySem.W.readsIn K (He.ga K x) (.type "type") && He.eqO (PySem.W.specialIn K (.ref (He.ga K x)) "__getattribute__") (some (some (.builtin "type.__getattribute__")))
theorem read_of {K : PySem.W.Frag} {x : Str} (h : fRead x K = true) : ClX.CRead K (He.ga K x) (.type "type") := by
  obtain ⟨a, b⟩ := Bool.and_eq_true_iff.mp h
  exact ⟨a, He.eqO_ok b⟩
def fCm (x m : Str) : PySem.W.Frag → Bool := fun K =>
  (match PySem.W.findCls K (.ref (He.ga K x)) (.type "type") m with
  | some (.get (.builtin t) (.ref q) .none (.ref c)) => decide (t = "classmethod.__get__") && (decide (q = He.ma K (He.ga K x) m) && decide (c = He.ga K x))
  | _ => false) && (recC K (He.ma K (He.ga K x) m) && PySem.W.fnIn K (cmA K x m))
theorem cm_of {K : PySem.W.Frag} {x m : Str} (h : fCm x m K = true) : ClX.CMet K (He.ga K x) (.type "type") m (He.ma K (He.ga K x) m) (cmA K x m) := by
  obtain ⟨a, h⟩ := Bool.and_eq_true_iff.mp h
  obtain ⟨b, c⟩ := Bool.and_eq_true_iff.mp h
  refine ⟨?_, ?_, c⟩
  · split at a
    · rename_i t q d e
      obtain ⟨a1, a2⟩ := Bool.and_eq_true_iff.mp a
      obtain ⟨a2, a3⟩ := Bool.and_eq_true_iff.mp a2
      rw [e, of_decide_eq_true a1, of_decide_eq_true a2, of_decide_eq_true a3]
    · cases a
  · unfold recC at b
    unfold cmA
    split at b
    · rename_i g rest e
      rw [e]
      exact ⟨rest, rfl⟩
    · cases b
def fCmc (x m q : Str) : PySem.W.Frag → Bool := fun K =>
  match K.lookup (cmA K x m) with
  | some ⟨_, _, .func fd, _⟩ => PySem.W.codeIn K fd.code q
  | _ => false
theorem cmc_of {K : PySem.W.Frag} {x m q : Str} {oc : Value} {od : Option Addr} {fd : FuncData} {osl : Array (Option Value)} (h : fCmc x m q K = true) (e : K.lookup (cmA K x m) = some ⟨oc, od, .func fd, osl⟩) : PySem.W.codeIn K fd.code q = true := by
  unfold fCmc at h
  rw [e] at h
  exact h
/-- the fragment, the statics among it -/
def frC (g : Addr → Option Obj) (n : Nat) : PySem.W.Frag := He.frG g (cStatics :: He.asG g n)
def obsC (n : Nat) (fn pr : List He.FnD) (fs : List (PySem.W.Frag → Bool)) (g : Addr → Option Obj) : AlP :=
  ((He.obsE [] fn (frC g n), exB fs (frC g n)), pr.map fun d => cmObs (frC g n) d.at_)
def hookC (n : Nat) (fn pr : List He.FnD) (fs : List (PySem.W.Frag → Bool)) : PySem.W.Hook where
  α := (He.Al × Bool) × List He.FnV
  obs := fun s => obsC n fn pr fs s.heap.get?
  val := fun _ => ((He.valE fn, true), pr.map He.FnD.val)
  says := fun _ h => ∃ K : PySem.W.Frag, K.In h ∧ He.SaysE [] fn K ∧ exB fs K = true ∧ pr.map (fun d => cmObs K d.at_) = pr.map He.FnD.val
  of := fun w s e => ⟨frC s.heap.get? n, He.frG_in, congrArg (fun z : AlP => z.1.1) e, congrArg (fun z : AlP => z.1.2) e, congrArg Prod.snd e⟩
  keeps := fun w h h' ⟨K, a, b, c⟩ k => ⟨K, a.keeps k, b, c⟩
theorem obsC_eq {n : Nat} {fn pr : List He.FnD} {fs : List (PySem.W.Frag → Bool)} {g : Addr → Option Obj} {s : Shared} (h : ∀ a, g a = s.heap.get? a) : obsC n fn pr fs g = (hookC n fn pr fs).obs s := by
  have e : g = s.heap.get? := funext h
  rw [e]
  rfl
end Mq

namespace Mq
open PySem PySem.Spec PyProof.Rows L2
/-! ### defs with defaults among the head's facts -/
def frQ (g : Addr → Option Obj) (n : Nat) : PySem.W.Frag := He.frG g (cStatics :: He.asD g n)
abbrev AlQ := ((He.Al × Bool) × List He.FnV) × He.AlD
def obsQ (n : Nat) (fn pr : List He.FnD) (df : List He.DefD) (fs : List (PySem.W.Frag → Bool)) (g : Addr → Option Obj) : AlQ :=
  (((He.obsE [] fn (frQ g n), exB fs (frQ g n)), pr.map fun d => cmObs (frQ g n) d.at_), He.obsD [] df (frQ g n))
def hookQ (n : Nat) (fn pr : List He.FnD) (df : List He.DefD) (fs : List (PySem.W.Frag → Bool)) : PySem.W.Hook where
  α := AlQ
  obs := fun s => obsQ n fn pr df fs s.heap.get?
  val := fun _ => (((He.valE fn, true), pr.map He.FnD.val), He.valD df)
  says := fun _ h => ∃ K : PySem.W.Frag, K.In h ∧ He.SaysE [] fn K ∧ exB fs K = true ∧ pr.map (fun d => cmObs K d.at_) = pr.map He.FnD.val ∧ He.SaysD [] df K
  of := fun w s e => ⟨frQ s.heap.get? n, He.frG_in, congrArg (fun z : AlQ => z.1.1.1) e, congrArg (fun z : AlQ => z.1.1.2) e, congrArg (fun z : AlQ => z.1.2) e, congrArg Prod.snd e⟩
  keeps := fun w h h' ⟨K, a, b, c⟩ k => ⟨K, a.keeps k, b, c⟩
theorem obsQ_eq {n : Nat} {fn pr : List He.FnD} {df : List He.DefD} {fs : List (PySem.W.Frag → Bool)} {g : Addr → Option Obj} {s : Shared} (h : ∀ a, g a = s.heap.get? a) : obsQ n fn pr df fs g = (hookQ n fn pr df fs).obs s := by
  have e : g = s.heap.get? := funext h
  rw [e]
  rfl
end Mq

namespace Lw
open PySem PySem.Spec PyProof.Rows L2 Mq
open SX (S)
theorem all_mk {P : Program} {w : World} {K : PySem.W.Frag} {h : Heap} {mg : Str → Option Value} {fa CM : Addr} (X : K.In h) (G : h.Ns mainGlobals mg) (hfa : mg "law" = some (.ref fa))
    (aM : PySem.W.nsIn K mainGlobals "MillError" = some (some (.ref CM)))
    (mill : PySem.W.isClsIn K CM = true ∧ PySem.W.typeIn K (.ref CM) = some (.type "type"))
    (sp : PySem.W.specialIn K (.builtin "object.__class__") "__get__" = some (some (.builtin "getset_descriptor.__get__")))
    (tk : PySem.W.takesIn K (.builtin "object.__class__") = some true)
    {CR : Addr}
    (aR : PySem.W.nsIn K mainGlobals "Reader" = some (some (.ref CR)))
    (owR : PySem.W.plainGet K CR Str.empty = true ∧ PySem.W.hasDictIn K CR = true ∧ PySem.W.plainOver K CR = true ∧ PySem.W.makesIn K CR = true ∧ PySem.W.keepIn K (.ref CR) = true)
    (saR : PySem.W.findIn K (.ref CR) "__setattr__" = some (some (.builtin "object.__setattr__")))
    (caR : PySem.W.findIn K (.ref CR) "__class__" = some (some (.builtin "object.__class__")))
    (moR : PySem.W.mroIn K CR (.type "object") = some true)
    (kiR : PySem.W.kitOne K (.ref CR) (.ref CR) = some true)
    (nR_letters : PySem.W.findIn K (.ref CR) "letters" = some none)
    (nR_nodes : PySem.W.findIn K (.ref CR) "nodes" = some none)
    {finit : Addr} {odinit aninit : Option Addr} {slinit : Array (Option Value)} {ocinit kVinit dcinit pminit cdinit ctinit : Value}
    (minit : PySem.W.findIn K (.ref CR) "__init__" = some (some (.ref finit)) ∧ PySem.W.isFn K (.ref finit) = true)
    (linit : K.lookup finit = some ⟨ocinit, odinit, .func (PySem.W.fnOf "__init__" "Reader.__init__" (defArgs s_Reader___init__) (defBody s_Reader___init__) (defScope s_Reader___init__) .none kVinit dcinit pminit aninit cdinit ctinit), slinit⟩)
    (cinit : PySem.W.codeIn K cdinit "Reader.__init__" = true)
    {feq : Addr} {odeq aneq : Option Addr} {sleq : Array (Option Value)} {oceq kVeq dceq pmeq cdeq cteq : Value}
    (meq : PySem.W.findIn K (.ref CR) "__eq__" = some (some (.ref feq)) ∧ PySem.W.isFn K (.ref feq) = true)
    (leq : K.lookup feq = some ⟨oceq, odeq, .func (PySem.W.fnOf "__eq__" "Reader.__eq__" (defArgs s_Reader___eq__) (defBody s_Reader___eq__) (defScope s_Reader___eq__) .none kVeq dceq pmeq aneq cdeq cteq), sleq⟩)
    (ceq : PySem.W.codeIn K cdeq "Reader.__eq__" = true)
    {fst : Addr} {odst anst : Option Addr} {slst : Array (Option Value)} {ocst kVst dcst pmst cdst ctst : Value}
    (mst : PySem.W.findIn K (.ref CR) "__str__" = some (some (.ref fst)) ∧ PySem.W.isFn K (.ref fst) = true)
    (lst : K.lookup fst = some ⟨ocst, odst, .func (PySem.W.fnOf "__str__" "Reader.__str__" (defArgs s_Reader___str__) (defBody s_Reader___str__) (defScope s_Reader___str__) .none kVst dcst pmst anst cdst ctst), slst⟩)
    (cst : PySem.W.codeIn K cdst "Reader.__str__" = true)
    {fln : Addr} {odln anln : Option Addr} {slln : Array (Option Value)} {ocln kVln dcln pmln cdln ctln : Value}
    (mln : PySem.W.findIn K (.ref CR) "__len__" = some (some (.ref fln)) ∧ PySem.W.isFn K (.ref fln) = true)
    (lln : K.lookup fln = some ⟨ocln, odln, .func (PySem.W.fnOf "__len__" "Reader.__len__" (defArgs s_Reader___len__) (defBody s_Reader___len__) (defScope s_Reader___len__) .none kVln dcln pmln anln cdln ctln), slln⟩)
    (cln : PySem.W.codeIn K cdln "Reader.__len__" = true)
    {CT FT : Addr}
    (aT : PySem.W.nsIn K mainGlobals "BadReader" = some (some (.ref CT)))
    (xT : ClsAt K CM CT)
    (gaT : PySem.W.findIn K (.ref CT) "__getattribute__" = some (some (.builtin "BaseException.__getattribute__")))
    (ggT : PySem.W.findIn K (.ref CT) "__getattr__" = some none)
    (caT : PySem.W.findIn K (.ref CT) "__class__" = some (some (.builtin "object.__class__")))
    (wsT : PySem.W.findIn K (.ref CT) "__setattr__" = some (some (.builtin "object.__setattr__")))
    (ntT : PySem.W.findIn K (.ref CT) "part" = some none)
    (wiT : PySem.W.findIn K (.ref CT) "__init__" = some (some (.ref FT)))
    {odET anET : Option Addr} {slET : Array (Option Value)} {dcET pmET cdET ctET : Value}
    (lET : K.lookup FT = some ⟨.type "function", odET, .func (PySem.W.fnOf "__init__" "BadReader.__init__" (MqE_part.iA ⟨17, 17, 17, 21⟩ ⟨17, 23, 17, 27⟩) (MqE_part.iB ⟨18, 8, 18, 12⟩ ⟨18, 8, 18, 17⟩ ⟨18, 20, 18, 24⟩ ⟨18, 8, 18, 24⟩) MqE_part.iS .none .none dcET pmET anET cdET ctET), slET⟩)
    (cET : PySem.W.codeIn K cdET "BadReader.__init__" = true)
    {CL FL : Addr}
    (aL : PySem.W.nsIn K mainGlobals "BadText" = some (some (.ref CL)))
    (xL : ClsAt K CM CL)
    (gaL : PySem.W.findIn K (.ref CL) "__getattribute__" = some (some (.builtin "BaseException.__getattribute__")))
    (ggL : PySem.W.findIn K (.ref CL) "__getattr__" = some none)
    (caL : PySem.W.findIn K (.ref CL) "__class__" = some (some (.builtin "object.__class__")))
    (wsL : PySem.W.findIn K (.ref CL) "__setattr__" = some (some (.builtin "object.__setattr__")))
    (ntL : PySem.W.findIn K (.ref CL) "line" = some none)
    (wiL : PySem.W.findIn K (.ref CL) "__init__" = some (some (.ref FL)))
    {odEL anEL : Option Addr} {slEL : Array (Option Value)} {dcEL pmEL cdEL ctEL : Value}
    (lEL : K.lookup FL = some ⟨.type "function", odEL, .func (PySem.W.fnOf "__init__" "BadText.__init__" (MqE_line.iA ⟨9, 17, 9, 21⟩ ⟨9, 23, 9, 27⟩) (MqE_line.iB ⟨10, 8, 10, 12⟩ ⟨10, 8, 10, 17⟩ ⟨10, 20, 10, 24⟩ ⟨10, 8, 10, 24⟩) MqE_line.iS .none .none dcEL pmEL anEL cdEL ctEL), slEL⟩)
    (cEL : PySem.W.codeIn K cdEL "BadText.__init__" = true)
    (rdR : ClX.CRead K CR (.type "type"))
    {prdm frdm : Addr} {odrdm anrdm : Option Addr} {slrdm : Array (Option Value)} {ocrdm kVrdm dcrdm pmrdm cdrdm ctrdm : Value}
    (cmrdm : ClX.CMet K CR (.type "type") "read" prdm frdm)
    (lrdm : K.lookup frdm = some ⟨ocrdm, odrdm, .func (PySem.W.fnOf "read" "Reader.read" (defArgs s_Reader_read) (defBody s_Reader_read) (defScope s_Reader_read) .none kVrdm dcrdm pmrdm anrdm cdrdm ctrdm), slrdm⟩)
    (crdm : PySem.W.codeIn K cdrdm "Reader.read" = true)
    (i_MOST_FIGURES : ∃ t, PySem.W.nsIn K mainGlobals "MOST_FIGURES" = some (some (.int 4300 t)))
    (oeR : OwnEqK K CR)
    {f0 : Addr} {od0 an0 : Option Addr} {sl0 : Array (Option Value)} {oc0 kV0 dc0 pm0 cd0 ct0 : Value}
    (a0 : PySem.W.nsIn K mainGlobals "is_letters" = some (some (.ref f0)))
    (l0 : K.lookup f0 = some ⟨oc0, od0, .func (PySem.W.fnOf "is_letters" "is_letters" (defArgs s_is_letters) (defBody s_is_letters) (defScope s_is_letters) .none kV0 dc0 pm0 an0 cd0 ct0), sl0⟩)
    (c0 : PySem.W.codeIn K cd0 "is_letters" = true)
    {f1 : Addr} {od1 an1 : Option Addr} {sl1 : Array (Option Value)} {oc1 kV1 dc1 pm1 cd1 ct1 : Value}
    (a1 : PySem.W.nsIn K mainGlobals "is_word" = some (some (.ref f1)))
    (l1 : K.lookup f1 = some ⟨oc1, od1, .func (PySem.W.fnOf "is_word" "is_word" (defArgs s_is_word) (defBody s_is_word) (defScope s_is_word) .none kV1 dc1 pm1 an1 cd1 ct1), sl1⟩)
    (c1 : PySem.W.codeIn K cd1 "is_word" = true)
    {f2 : Addr} {od2 an2 : Option Addr} {sl2 : Array (Option Value)} {oc2 kV2 dc2 pm2 cd2 ct2 : Value}
    (a2 : PySem.W.nsIn K mainGlobals "is_number" = some (some (.ref f2)))
    (l2 : K.lookup f2 = some ⟨oc2, od2, .func (PySem.W.fnOf "is_number" "is_number" (defArgs s_is_number) (defBody s_is_number) (defScope s_is_number) .none kV2 dc2 pm2 an2 cd2 ct2), sl2⟩)
    (c2 : PySem.W.codeIn K cd2 "is_number" = true)
    {f3 : Addr} {od3 an3 : Option Addr} {sl3 : Array (Option Value)} {oc3 kV3 dc3 pm3 cd3 ct3 : Value}
    (a3 : PySem.W.nsIn K mainGlobals "is_below" = some (some (.ref f3)))
    (l3 : K.lookup f3 = some ⟨oc3, od3, .func (PySem.W.fnOf "is_below" "is_below" (defArgs s_is_below) (defBody s_is_below) (defScope s_is_below) .none kV3 dc3 pm3 an3 cd3 ct3), sl3⟩)
    (c3 : PySem.W.codeIn K cd3 "is_below" = true)
    {f4 : Addr} {od4 an4 : Option Addr} {sl4 : Array (Option Value)} {oc4 kV4 dc4 pm4 cd4 ct4 : Value}
    (a4 : PySem.W.nsIn K mainGlobals "is_ascending" = some (some (.ref f4)))
    (l4 : K.lookup f4 = some ⟨oc4, od4, .func (PySem.W.fnOf "is_ascending" "is_ascending" (defArgs s_is_ascending) (defBody s_is_ascending) (defScope s_is_ascending) .none kV4 dc4 pm4 an4 cd4 ct4), sl4⟩)
    (c4 : PySem.W.codeIn K cd4 "is_ascending" = true)
    {f5 : Addr} {od5 an5 : Option Addr} {sl5 : Array (Option Value)} {oc5 kV5 dc5 pm5 cd5 ct5 : Value}
    (a5 : PySem.W.nsIn K mainGlobals "integer_read" = some (some (.ref f5)))
    (l5 : K.lookup f5 = some ⟨oc5, od5, .func (PySem.W.fnOf "integer_read" "integer_read" (defArgs s_integer_read) (defBody s_integer_read) (defScope s_integer_read) .none kV5 dc5 pm5 an5 cd5 ct5), sl5⟩)
    (c5 : PySem.W.codeIn K cd5 "integer_read" = true)
    {f6 : Addr} {od6 an6 : Option Addr} {sl6 : Array (Option Value)} {oc6 kV6 dc6 pm6 cd6 ct6 : Value}
    (a6 : PySem.W.nsIn K mainGlobals "number_read" = some (some (.ref f6)))
    (l6 : K.lookup f6 = some ⟨oc6, od6, .func (PySem.W.fnOf "number_read" "number_read" (defArgs s_number_read) (defBody s_number_read) (defScope s_number_read) .none kV6 dc6 pm6 an6 cd6 ct6), sl6⟩)
    (c6 : PySem.W.codeIn K cd6 "number_read" = true)
    {f7 : Addr} {od7 an7 : Option Addr} {sl7 : Array (Option Value)} {oc7 kV7 dc7 pm7 cd7 ct7 : Value}
    (a7 : PySem.W.nsIn K mainGlobals "numbers_read" = some (some (.ref f7)))
    (l7 : K.lookup f7 = some ⟨oc7, od7, .func (PySem.W.fnOf "numbers_read" "numbers_read" (defArgs s_numbers_read) (defBody s_numbers_read) (defScope s_numbers_read) .none kV7 dc7 pm7 an7 cd7 ct7), sl7⟩)
    (c7 : PySem.W.codeIn K cd7 "numbers_read" = true)
    {f8 : Addr} {od8 an8 : Option Addr} {sl8 : Array (Option Value)} {oc8 kV8 dc8 pm8 cd8 ct8 : Value}
    (a8 : PySem.W.nsIn K mainGlobals "text_parts" = some (some (.ref f8)))
    (l8 : K.lookup f8 = some ⟨oc8, od8, .func (PySem.W.fnOf "text_parts" "text_parts" (defArgs s_text_parts) (defBody s_text_parts) (defScope s_text_parts) .none kV8 dc8 pm8 an8 cd8 ct8), sl8⟩)
    (c8 : PySem.W.codeIn K cd8 "text_parts" = true)
    {f9 : Addr}
    (a9 : PySem.W.nsIn K mainGlobals "nodes_read" = some (some (.ref f9)))
    (D9 : ∃ fd, FunD K "nodes_read" "nodes_read" (defArgs s_nodes_read) (defBody s_nodes_read) (defScope s_nodes_read) [.non] [] f9 fd)
    {f10 : Addr} {od10 an10 : Option Addr} {sl10 : Array (Option Value)} {oc10 kV10 dc10 pm10 cd10 ct10 : Value}
    (a10 : PySem.W.nsIn K mainGlobals "is_reading" = some (some (.ref f10)))
    (l10 : K.lookup f10 = some ⟨oc10, od10, .func (PySem.W.fnOf "is_reading" "is_reading" (defArgs s_is_reading) (defBody s_is_reading) (defScope s_is_reading) .none kV10 dc10 pm10 an10 cd10 ct10), sl10⟩)
    (c10 : PySem.W.codeIn K cd10 "is_reading" = true)
    {f11 : Addr} {od11 an11 : Option Addr} {sl11 : Array (Option Value)} {oc11 kV11 dc11 pm11 cd11 ct11 : Value}
    (a11 : PySem.W.nsIn K mainGlobals "has_head" = some (some (.ref f11)))
    (l11 : K.lookup f11 = some ⟨oc11, od11, .func (PySem.W.fnOf "has_head" "has_head" (defArgs s_has_head) (defBody s_has_head) (defScope s_has_head) .none kV11 dc11 pm11 an11 cd11 ct11), sl11⟩)
    (c11 : PySem.W.codeIn K cd11 "has_head" = true)
    {f12 : Addr}
    (a12 : PySem.W.nsIn K mainGlobals "wrong_part" = some (some (.ref f12)))
    (D12 : ∃ fd, FunD K "wrong_part" "wrong_part" (defArgs s_wrong_part) (defBody s_wrong_part) (defScope s_wrong_part) [.str "nodes", .non] [] f12 fd)
    {f13 : Addr} {od13 an13 : Option Addr} {sl13 : Array (Option Value)} {oc13 kV13 dc13 pm13 cd13 ct13 : Value}
    (a13 : PySem.W.nsIn K mainGlobals "is_web" = some (some (.ref f13)))
    (l13 : K.lookup f13 = some ⟨oc13, od13, .func (PySem.W.fnOf "is_web" "is_web" (defArgs s_is_web) (defBody s_is_web) (defScope s_is_web) .none kV13 dc13 pm13 an13 cd13 ct13), sl13⟩)
    (c13 : PySem.W.codeIn K cd13 "is_web" = true)
    {f14 : Addr} {od14 an14 : Option Addr} {sl14 : Array (Option Value)} {oc14 kV14 dc14 pm14 cd14 ct14 : Value}
    (a14 : PySem.W.nsIn K mainGlobals "is_reader_node" = some (some (.ref f14)))
    (l14 : K.lookup f14 = some ⟨oc14, od14, .func (PySem.W.fnOf "is_reader_node" "is_reader_node" (defArgs s_is_reader_node) (defBody s_is_reader_node) (defScope s_is_reader_node) .none kV14 dc14 pm14 an14 cd14 ct14), sl14⟩)
    (c14 : PySem.W.codeIn K cd14 "is_reader_node" = true)
    {f15 : Addr} {od15 an15 : Option Addr} {sl15 : Array (Option Value)} {oc15 kV15 dc15 pm15 cd15 ct15 : Value}
    (a15 : PySem.W.nsIn K mainGlobals "node_line" = some (some (.ref f15)))
    (l15 : K.lookup f15 = some ⟨oc15, od15, .func (PySem.W.fnOf "node_line" "node_line" (defArgs s_node_line) (defBody s_node_line) (defScope s_node_line) .none kV15 dc15 pm15 an15 cd15 ct15), sl15⟩)
    (c15 : PySem.W.codeIn K cd15 "node_line" = true)
    {f16 : Addr} {od16 an16 : Option Addr} {sl16 : Array (Option Value)} {oc16 kV16 dc16 pm16 cd16 ct16 : Value}
    (a16 : PySem.W.nsIn K mainGlobals "node_read" = some (some (.ref f16)))
    (l16 : K.lookup f16 = some ⟨oc16, od16, .func (PySem.W.fnOf "node_read" "node_read" (defArgs s_node_read) (defBody s_node_read) (defScope s_node_read) .none kV16 dc16 pm16 an16 cd16 ct16), sl16⟩)
    (c16 : PySem.W.codeIn K cd16 "node_read" = true)
    {f17 : Addr} {od17 an17 : Option Addr} {sl17 : Array (Option Value)} {oc17 kV17 dc17 pm17 cd17 ct17 : Value}
    (a17 : PySem.W.nsIn K mainGlobals "_law_deck" = some (some (.ref f17)))
    (l17 : K.lookup f17 = some ⟨oc17, od17, .func (PySem.W.fnOf "_law_deck" "_law_deck" (defArgs s__law_deck) (defBody s__law_deck) (defScope s__law_deck) .none kV17 dc17 pm17 an17 cd17 ct17), sl17⟩)
    (c17 : PySem.W.codeIn K cd17 "_law_deck" = true)
    {f18 : Addr} {od18 an18 : Option Addr} {sl18 : Array (Option Value)} {oc18 kV18 dc18 pm18 cd18 ct18 : Value}
    (a18 : PySem.W.nsIn K mainGlobals "_law_draw" = some (some (.ref f18)))
    (l18 : K.lookup f18 = some ⟨oc18, od18, .func (PySem.W.fnOf "_law_draw" "_law_draw" (defArgs s__law_draw) (defBody s__law_draw) (defScope s__law_draw) .none kV18 dc18 pm18 an18 cd18 ct18), sl18⟩)
    (c18 : PySem.W.codeIn K cd18 "_law_draw" = true)
    {f19 : Addr} {od19 an19 : Option Addr} {sl19 : Array (Option Value)} {oc19 kV19 dc19 pm19 cd19 ct19 : Value}
    (a19 : PySem.W.nsIn K mainGlobals "_law_pick" = some (some (.ref f19)))
    (l19 : K.lookup f19 = some ⟨oc19, od19, .func (PySem.W.fnOf "_law_pick" "_law_pick" (defArgs s__law_pick) (defBody s__law_pick) (defScope s__law_pick) .none kV19 dc19 pm19 an19 cd19 ct19), sl19⟩)
    (c19 : PySem.W.codeIn K cd19 "_law_pick" = true)
    {f20 : Addr} {od20 an20 : Option Addr} {sl20 : Array (Option Value)} {oc20 kV20 dc20 pm20 cd20 ct20 : Value}
    (a20 : PySem.W.nsIn K mainGlobals "_law_word" = some (some (.ref f20)))
    (l20 : K.lookup f20 = some ⟨oc20, od20, .func (PySem.W.fnOf "_law_word" "_law_word" (defArgs s__law_word) (defBody s__law_word) (defScope s__law_word) .none kV20 dc20 pm20 an20 cd20 ct20), sl20⟩)
    (c20 : PySem.W.codeIn K cd20 "_law_word" = true)
    {f21 : Addr} {od21 an21 : Option Addr} {sl21 : Array (Option Value)} {oc21 kV21 dc21 pm21 cd21 ct21 : Value}
    (a21 : PySem.W.nsIn K mainGlobals "_law_nodes" = some (some (.ref f21)))
    (l21 : K.lookup f21 = some ⟨oc21, od21, .func (PySem.W.fnOf "_law_nodes" "_law_nodes" (defArgs s__law_nodes) (defBody s__law_nodes) (defScope s__law_nodes) .none kV21 dc21 pm21 an21 cd21 ct21), sl21⟩)
    (c21 : PySem.W.codeIn K cd21 "_law_nodes" = true)
    {f22 : Addr} {od22 an22 : Option Addr} {sl22 : Array (Option Value)} {oc22 kV22 dc22 pm22 cd22 ct22 : Value}
    (a22 : PySem.W.nsIn K mainGlobals "_law_are_letters" = some (some (.ref f22)))
    (l22 : K.lookup f22 = some ⟨oc22, od22, .func (PySem.W.fnOf "_law_are_letters" "_law_are_letters" (defArgs s__law_are_letters) (defBody s__law_are_letters) (defScope s__law_are_letters) .none kV22 dc22 pm22 an22 cd22 ct22), sl22⟩)
    (c22 : PySem.W.codeIn K cd22 "_law_are_letters" = true)
    {f23 : Addr} {od23 an23 : Option Addr} {sl23 : Array (Option Value)} {oc23 kV23 dc23 pm23 cd23 ct23 : Value}
    (a23 : PySem.W.nsIn K mainGlobals "_law_is_web" = some (some (.ref f23)))
    (l23 : K.lookup f23 = some ⟨oc23, od23, .func (PySem.W.fnOf "_law_is_web" "_law_is_web" (defArgs s__law_is_web) (defBody s__law_is_web) (defScope s__law_is_web) .none kV23 dc23 pm23 an23 cd23 ct23), sl23⟩)
    (c23 : PySem.W.codeIn K cd23 "_law_is_web" = true)
    {f24 : Addr} {od24 an24 : Option Addr} {sl24 : Array (Option Value)} {oc24 kV24 dc24 pm24 cd24 ct24 : Value}
    (a24 : PySem.W.nsIn K mainGlobals "_law_is_node" = some (some (.ref f24)))
    (l24 : K.lookup f24 = some ⟨oc24, od24, .func (PySem.W.fnOf "_law_is_node" "_law_is_node" (defArgs s__law_is_node) (defBody s__law_is_node) (defScope s__law_is_node) .none kV24 dc24 pm24 an24 cd24 ct24), sl24⟩)
    (c24 : PySem.W.codeIn K cd24 "_law_is_node" = true)
    {f25 : Addr} {od25 an25 : Option Addr} {sl25 : Array (Option Value)} {oc25 kV25 dc25 pm25 cd25 ct25 : Value}
    (a25 : PySem.W.nsIn K mainGlobals "_law_due" = some (some (.ref f25)))
    (l25 : K.lookup f25 = some ⟨oc25, od25, .func (PySem.W.fnOf "_law_due" "_law_due" (defArgs s__law_due) (defBody s__law_due) (defScope s__law_due) .none kV25 dc25 pm25 an25 cd25 ct25), sl25⟩)
    (c25 : PySem.W.codeIn K cd25 "_law_due" = true)
    {f26 : Addr} {od26 an26 : Option Addr} {sl26 : Array (Option Value)} {oc26 kV26 dc26 pm26 cd26 ct26 : Value}
    (a26 : PySem.W.nsIn K mainGlobals "_law_odd" = some (some (.ref f26)))
    (l26 : K.lookup f26 = some ⟨oc26, od26, .func (PySem.W.fnOf "_law_odd" "_law_odd" (defArgs s__law_odd) (defBody s__law_odd) (defScope s__law_odd) .none kV26 dc26 pm26 an26 cd26 ct26), sl26⟩)
    (c26 : PySem.W.codeIn K cd26 "_law_odd" = true)
    {f27 : Addr} {od27 an27 : Option Addr} {sl27 : Array (Option Value)} {oc27 kV27 dc27 pm27 cd27 ct27 : Value}
    (a27 : PySem.W.nsIn K mainGlobals "_law_bent" = some (some (.ref f27)))
    (l27 : K.lookup f27 = some ⟨oc27, od27, .func (PySem.W.fnOf "_law_bent" "_law_bent" (defArgs s__law_bent) (defBody s__law_bent) (defScope s__law_bent) .none kV27 dc27 pm27 an27 cd27 ct27), sl27⟩)
    (c27 : PySem.W.codeIn K cd27 "_law_bent" = true)
    {f28 : Addr} {od28 an28 : Option Addr} {sl28 : Array (Option Value)} {oc28 kV28 dc28 pm28 cd28 ct28 : Value}
    (a28 : PySem.W.nsIn K mainGlobals "_law_heard" = some (some (.ref f28)))
    (l28 : K.lookup f28 = some ⟨oc28, od28, .func (PySem.W.fnOf "_law_heard" "_law_heard" (defArgs s__law_heard) (defBody s__law_heard) (defScope s__law_heard) .none kV28 dc28 pm28 an28 cd28 ct28), sl28⟩)
    (c28 : PySem.W.codeIn K cd28 "_law_heard" = true)
    {f29 : Addr} {od29 an29 : Option Addr} {sl29 : Array (Option Value)} {oc29 kV29 dc29 pm29 cd29 ct29 : Value}
    (a29 : PySem.W.nsIn K mainGlobals "_law_made_right" = some (some (.ref f29)))
    (l29 : K.lookup f29 = some ⟨oc29, od29, .func (PySem.W.fnOf "_law_made_right" "_law_made_right" (defArgs s__law_made_right) (defBody s__law_made_right) (defScope s__law_made_right) .none kV29 dc29 pm29 an29 cd29 ct29), sl29⟩)
    (c29 : PySem.W.codeIn K cd29 "_law_made_right" = true)
    {f30 : Addr} {od30 an30 : Option Addr} {sl30 : Array (Option Value)} {oc30 kV30 dc30 pm30 cd30 ct30 : Value}
    (a30 : PySem.W.nsIn K mainGlobals "_law_page" = some (some (.ref f30)))
    (l30 : K.lookup f30 = some ⟨oc30, od30, .func (PySem.W.fnOf "_law_page" "_law_page" (defArgs s__law_page) (defBody s__law_page) (defScope s__law_page) .none kV30 dc30 pm30 an30 cd30 ct30), sl30⟩)
    (c30 : PySem.W.codeIn K cd30 "_law_page" = true)
    {f31 : Addr} {od31 an31 : Option Addr} {sl31 : Array (Option Value)} {oc31 kV31 dc31 pm31 cd31 ct31 : Value}
    (a31 : PySem.W.nsIn K mainGlobals "_law_number" = some (some (.ref f31)))
    (l31 : K.lookup f31 = some ⟨oc31, od31, .func (PySem.W.fnOf "_law_number" "_law_number" (defArgs s__law_number) (defBody s__law_number) (defScope s__law_number) .none kV31 dc31 pm31 an31 cd31 ct31), sl31⟩)
    (c31 : PySem.W.codeIn K cd31 "_law_number" = true)
    {f32 : Addr} {od32 an32 : Option Addr} {sl32 : Array (Option Value)} {oc32 kV32 dc32 pm32 cd32 ct32 : Value}
    (a32 : PySem.W.nsIn K mainGlobals "_law_node_of" = some (some (.ref f32)))
    (l32 : K.lookup f32 = some ⟨oc32, od32, .func (PySem.W.fnOf "_law_node_of" "_law_node_of" (defArgs s__law_node_of) (defBody s__law_node_of) (defScope s__law_node_of) .none kV32 dc32 pm32 an32 cd32 ct32), sl32⟩)
    (c32 : PySem.W.codeIn K cd32 "_law_node_of" = true)
    {f33 : Addr} {od33 an33 : Option Addr} {sl33 : Array (Option Value)} {oc33 kV33 dc33 pm33 cd33 ct33 : Value}
    (a33 : PySem.W.nsIn K mainGlobals "_law_parts" = some (some (.ref f33)))
    (l33 : K.lookup f33 = some ⟨oc33, od33, .func (PySem.W.fnOf "_law_parts" "_law_parts" (defArgs s__law_parts) (defBody s__law_parts) (defScope s__law_parts) .none kV33 dc33 pm33 an33 cd33 ct33), sl33⟩)
    (c33 : PySem.W.codeIn K cd33 "_law_parts" = true)
    {f34 : Addr} {od34 an34 : Option Addr} {sl34 : Array (Option Value)} {oc34 kV34 dc34 pm34 cd34 ct34 : Value}
    (a34 : PySem.W.nsIn K mainGlobals "_law_read" = some (some (.ref f34)))
    (l34 : K.lookup f34 = some ⟨oc34, od34, .func (PySem.W.fnOf "_law_read" "_law_read" (defArgs s__law_read) (defBody s__law_read) (defScope s__law_read) .none kV34 dc34 pm34 an34 cd34 ct34), sl34⟩)
    (c34 : PySem.W.codeIn K cd34 "_law_read" = true)
    {f35 : Addr} {od35 an35 : Option Addr} {sl35 : Array (Option Value)} {oc35 kV35 dc35 pm35 cd35 ct35 : Value}
    (a35 : PySem.W.nsIn K mainGlobals "_law_read_right" = some (some (.ref f35)))
    (l35 : K.lookup f35 = some ⟨oc35, od35, .func (PySem.W.fnOf "_law_read_right" "_law_read_right" (defArgs s__law_read_right) (defBody s__law_read_right) (defScope s__law_read_right) .none kV35 dc35 pm35 an35 cd35 ct35), sl35⟩)
    (c35 : PySem.W.codeIn K cd35 "_law_read_right" = true)
    {f36 : Addr} {od36 an36 : Option Addr} {sl36 : Array (Option Value)} {oc36 kV36 dc36 pm36 cd36 ct36 : Value}
    (a36 : PySem.W.nsIn K mainGlobals "_law_bent_page" = some (some (.ref f36)))
    (l36 : K.lookup f36 = some ⟨oc36, od36, .func (PySem.W.fnOf "_law_bent_page" "_law_bent_page" (defArgs s__law_bent_page) (defBody s__law_bent_page) (defScope s__law_bent_page) .none kV36 dc36 pm36 an36 cd36 ct36), sl36⟩)
    (c36 : PySem.W.codeIn K cd36 "_law_bent_page" = true)
    {f37 : Addr} {od37 an37 : Option Addr} {sl37 : Array (Option Value)} {oc37 kV37 dc37 pm37 cd37 ct37 : Value}
    (a37 : PySem.W.nsIn K mainGlobals "_law_equal_right" = some (some (.ref f37)))
    (l37 : K.lookup f37 = some ⟨oc37, od37, .func (PySem.W.fnOf "_law_equal_right" "_law_equal_right" (defArgs s__law_equal_right) (defBody s__law_equal_right) (defScope s__law_equal_right) .none kV37 dc37 pm37 an37 cd37 ct37), sl37⟩)
    (c37 : PySem.W.codeIn K cd37 "_law_equal_right" = true)
    {f38 : Addr} {od38 an38 : Option Addr} {sl38 : Array (Option Value)} {oc38 kV38 dc38 pm38 cd38 ct38 : Value}
    (a38 : PySem.W.nsIn K mainGlobals "law" = some (some (.ref f38)))
    (l38 : K.lookup f38 = some ⟨oc38, od38, .func (PySem.W.fnOf "law" "law" (defArgs s_law) (defBody s_law) (defScope s_law) .none kV38 dc38 pm38 an38 cd38 ct38), sl38⟩)
    (c38 : PySem.W.codeIn K cd38 "law" = true)
    (b_len : PySem.W.nsIn K mainGlobals "len" = some none)
    (b_range : PySem.W.nsIn K mainGlobals "range" = some none)
    (b_isinstance : PySem.W.nsIn K mainGlobals "isinstance" = some none)
    (b_all : PySem.W.nsIn K mainGlobals "all" = some none)
    (b_any : PySem.W.nsIn K mainGlobals "any" = some none)
    (b_int : PySem.W.nsIn K mainGlobals "int" = some none)
    (b_str : PySem.W.nsIn K mainGlobals "str" = some none)
    (b_bool : PySem.W.nsIn K mainGlobals "bool" = some none)
    (b_tuple : PySem.W.nsIn K mainGlobals "tuple" = some none)
    (b_list : PySem.W.nsIn K mainGlobals "list" = some none)
    (b_repr : PySem.W.nsIn K mainGlobals "repr" = some none)
    (b_enumerate : PySem.W.nsIn K mainGlobals "enumerate" = some none)
    (b_sorted : PySem.W.nsIn K mainGlobals "sorted" = some none)
    (b_set : PySem.W.nsIn K mainGlobals "set" = some none)
    (t_ALPHABET : ∃ t, PySem.W.nsIn K mainGlobals "ALPHABET" = some (some (.str "abcdefghijklmnopqrstuvwxyz" t)))
    (t_DIGITS : ∃ t, PySem.W.nsIn K mainGlobals "DIGITS" = some (some (.str "0123456789" t))) :
    ∃ fd : FuncData, (∀ (s : Shared) (u : Value), BindsTo s fd ⟨[u], []⟩ [("_law_script", u)]) ∧ ∀ base : Heap, K.In base → base.Ns mainGlobals mg → FnG P w K mg base CX0 12 fa fd ["_law_script"] (spLaw K) := by
  have e := hfa.symm.trans (PySem.W.mg_of X G a38)
  cases e
  have B : Blt mg := ⟨PySem.W.mg_none_of X G b_len, PySem.W.mg_none_of X G b_range, PySem.W.mg_none_of X G b_isinstance, PySem.W.mg_none_of X G b_all, PySem.W.mg_none_of X G b_any, PySem.W.mg_none_of X G b_int, PySem.W.mg_none_of X G b_str, PySem.W.mg_none_of X G b_bool, PySem.W.mg_none_of X G b_tuple, PySem.W.mg_none_of X G b_list, PySem.W.mg_none_of X G b_repr, PySem.W.mg_none_of X G b_enumerate⟩
  have n_sorted : mg "sorted" = none := PySem.W.mg_none_of X G b_sorted
  have n_set : mg "set" = none := PySem.W.mg_none_of X G b_set
  have U0 := fun_mk (st := s_is_letters) l0 c0 (keep_fn l0)
  have g0 := PySem.W.mg_of X G a0
  have b0 := U0.binds (ps := ["thing"]) fun _ _ _ _ _ _ us hl => match us, hl with | [_], _ => rfl
  have U1 := fun_mk (st := s_is_word) l1 c1 (keep_fn l1)
  have g1 := PySem.W.mg_of X G a1
  have b1 := U1.binds (ps := ["letters", "thing"]) fun _ _ _ _ _ _ us hl => match us, hl with | [_, _], _ => rfl
  have U2 := fun_mk (st := s_is_number) l2 c2 (keep_fn l2)
  have g2 := PySem.W.mg_of X G a2
  have b2 := U2.binds (ps := ["thing"]) fun _ _ _ _ _ _ us hl => match us, hl with | [_], _ => rfl
  have U3 := fun_mk (st := s_is_below) l3 c3 (keep_fn l3)
  have g3 := PySem.W.mg_of X G a3
  have b3 := U3.binds (ps := ["thing", "many"]) fun _ _ _ _ _ _ us hl => match us, hl with | [_, _], _ => rfl
  have U4 := fun_mk (st := s_is_ascending) l4 c4 (keep_fn l4)
  have g4 := PySem.W.mg_of X G a4
  have b4 := U4.binds (ps := ["parts"]) fun _ _ _ _ _ _ us hl => match us, hl with | [_], _ => rfl
  have U5 := fun_mk (st := s_integer_read) l5 c5 (keep_fn l5)
  have g5 := PySem.W.mg_of X G a5
  have b5 := U5.binds (ps := ["text"]) fun _ _ _ _ _ _ us hl => match us, hl with | [_], _ => rfl
  have U6 := fun_mk (st := s_number_read) l6 c6 (keep_fn l6)
  have g6 := PySem.W.mg_of X G a6
  have b6 := U6.binds (ps := ["text", "many"]) fun _ _ _ _ _ _ us hl => match us, hl with | [_, _], _ => rfl
  have U7 := fun_mk (st := s_numbers_read) l7 c7 (keep_fn l7)
  have g7 := PySem.W.mg_of X G a7
  have b7 := U7.binds (ps := ["words", "many"]) fun _ _ _ _ _ _ us hl => match us, hl with | [_, _], _ => rfl
  have U8 := fun_mk (st := s_text_parts) l8 c8 (keep_fn l8)
  have g8 := PySem.W.mg_of X G a8
  have b8 := U8.binds (ps := ["word", "text"]) fun _ _ _ _ _ _ us hl => match us, hl with | [_, _], _ => rfl
  obtain ⟨_, U9⟩ := D9
  have g9 := PySem.W.mg_of X G a9
  obtain ⟨dW9, vW9, b9⟩ := U9.binds1 (ps := ["word", "text", "node_of", "most"]) 3 0 (by simp) rfl (fun T kV doc pm an cdv ct us its h1 h2 => match us, its, h1, h2 with | [a0, a1, a2], [d0], _, _ => ⟨_, rfl, rfl⟩)
  have U10 := fun_mk (st := s_is_reading) l10 c10 (keep_fn l10)
  have g10 := PySem.W.mg_of X G a10
  have b10 := U10.binds (ps := ["letters", "node", "many"]) fun _ _ _ _ _ _ us hl => match us, hl with | [_, _, _], _ => rfl
  have U11 := fun_mk (st := s_has_head) l11 c11 (keep_fn l11)
  have g11 := PySem.W.mg_of X G a11
  have b11 := U11.binds (ps := ["thing"]) fun _ _ _ _ _ _ us hl => match us, hl with | [_], _ => rfl
  obtain ⟨_, U12⟩ := D12
  have g12 := PySem.W.mg_of X G a12
  obtain ⟨dW12, vW12, b12⟩ := U12.binds1 (ps := ["letters", "nodes", "is_node", "word", "most"]) 3 0 (by simp) rfl (fun T kV doc pm an cdv ct us its h1 h2 => match us, its, h1, h2 with | [a0, a1, a2], [d0, d1], _, _ => ⟨_, rfl, rfl⟩)
  have U13 := fun_mk (st := s_is_web) l13 c13 (keep_fn l13)
  have g13 := PySem.W.mg_of X G a13
  have b13 := U13.binds (ps := ["letters", "thing"]) fun _ _ _ _ _ _ us hl => match us, hl with | [_, _], _ => rfl
  have U14 := fun_mk (st := s_is_reader_node) l14 c14 (keep_fn l14)
  have g14 := PySem.W.mg_of X G a14
  have b14 := U14.binds (ps := ["letters", "node", "many"]) fun _ _ _ _ _ _ us hl => match us, hl with | [_, _, _], _ => rfl
  have U15 := fun_mk (st := s_node_line) l15 c15 (keep_fn l15)
  have g15 := PySem.W.mg_of X G a15
  have b15 := U15.binds (ps := ["node"]) fun _ _ _ _ _ _ us hl => match us, hl with | [_], _ => rfl
  have U16 := fun_mk (st := s_node_read) l16 c16 (keep_fn l16)
  have g16 := PySem.W.mg_of X G a16
  have b16 := U16.binds (ps := ["letters", "line", "many"]) fun _ _ _ _ _ _ us hl => match us, hl with | [_, _, _], _ => rfl
  have U17 := fun_mk (st := s__law_deck) l17 c17 (keep_fn l17)
  have g17 := PySem.W.mg_of X G a17
  have b17 := U17.binds (ps := ["_law_script"]) fun _ _ _ _ _ _ us hl => match us, hl with | [_], _ => rfl
  have U18 := fun_mk (st := s__law_draw) l18 c18 (keep_fn l18)
  have g18 := PySem.W.mg_of X G a18
  have b18 := U18.binds (ps := ["_law_deck_here", "_law_below"]) fun _ _ _ _ _ _ us hl => match us, hl with | [_, _], _ => rfl
  have U19 := fun_mk (st := s__law_pick) l19 c19 (keep_fn l19)
  have g19 := PySem.W.mg_of X G a19
  have b19 := U19.binds (ps := ["_law_deck_here", "_law_some"]) fun _ _ _ _ _ _ us hl => match us, hl with | [_, _], _ => rfl
  have U20 := fun_mk (st := s__law_word) l20 c20 (keep_fn l20)
  have g20 := PySem.W.mg_of X G a20
  have b20 := U20.binds (ps := ["_law_deck_here", "_law_signs", "_law_most"]) fun _ _ _ _ _ _ us hl => match us, hl with | [_, _, _], _ => rfl
  have U21 := fun_mk (st := s__law_nodes) l21 c21 (keep_fn l21)
  have g21 := PySem.W.mg_of X G a21
  have b21 := U21.binds (ps := ["_law_deck_here", "_law_signs", "_law_top"]) fun _ _ _ _ _ _ us hl => match us, hl with | [_, _, _], _ => rfl
  have U22 := fun_mk (st := s__law_are_letters) l22 c22 (keep_fn l22)
  have g22 := PySem.W.mg_of X G a22
  have b22 := U22.binds (ps := ["_law_it"]) fun _ _ _ _ _ _ us hl => match us, hl with | [_], _ => rfl
  have U23 := fun_mk (st := s__law_is_web) l23 c23 (keep_fn l23)
  have g23 := PySem.W.mg_of X G a23
  have b23 := U23.binds (ps := ["_law_signs", "_law_it"]) fun _ _ _ _ _ _ us hl => match us, hl with | [_, _], _ => rfl
  have U24 := fun_mk (st := s__law_is_node) l24 c24 (keep_fn l24)
  have g24 := PySem.W.mg_of X G a24
  have b24 := U24.binds (ps := ["_law_signs", "_law_size", "_law_it"]) fun _ _ _ _ _ _ us hl => match us, hl with | [_, _, _], _ => rfl
  have U25 := fun_mk (st := s__law_due) l25 c25 (keep_fn l25)
  have g25 := PySem.W.mg_of X G a25
  have b25 := U25.binds (ps := ["_law_signs", "_law_nodes_here"]) fun _ _ _ _ _ _ us hl => match us, hl with | [_, _], _ => rfl
  have U26 := fun_mk (st := s__law_odd) l26 c26 (keep_fn l26)
  have g26 := PySem.W.mg_of X G a26
  have b26 := U26.binds (ps := ["_law_deck_here", "_law_it"]) fun _ _ _ _ _ _ us hl => match us, hl with | [_, _], _ => rfl
  have U27 := fun_mk (st := s__law_bent) l27 c27 (keep_fn l27)
  have g27 := PySem.W.mg_of X G a27
  have b27 := U27.binds (ps := ["_law_deck_here", "_law_it"]) fun _ _ _ _ _ _ us hl => match us, hl with | [_, _], _ => rfl
  have U28 := fun_mk (st := s__law_heard) l28 c28 (keep_fn l28)
  have g28 := PySem.W.mg_of X G a28
  have b28 := U28.binds (ps := ["_law_signs", "_law_nodes_here", "_law_is_named"]) fun _ _ _ _ _ _ us hl => match us, hl with | [_, _, _], _ => rfl
  have U29 := fun_mk (st := s__law_made_right) l29 c29 (keep_fn l29)
  have g29 := PySem.W.mg_of X G a29
  have b29 := U29.binds (ps := ["_law_signs", "_law_nodes_here"]) fun _ _ _ _ _ _ us hl => match us, hl with | [_, _], _ => rfl
  have U30 := fun_mk (st := s__law_page) l30 c30 (keep_fn l30)
  have g30 := PySem.W.mg_of X G a30
  have b30 := U30.binds (ps := ["_law_signs", "_law_nodes_here"]) fun _ _ _ _ _ _ us hl => match us, hl with | [_, _], _ => rfl
  have U31 := fun_mk (st := s__law_number) l31 c31 (keep_fn l31)
  have g31 := PySem.W.mg_of X G a31
  have b31 := U31.binds (ps := ["_law_word_here", "_law_below"]) fun _ _ _ _ _ _ us hl => match us, hl with | [_, _], _ => rfl
  have U32 := fun_mk (st := s__law_node_of) l32 c32 (keep_fn l32)
  have g32 := PySem.W.mg_of X G a32
  have b32 := U32.binds (ps := ["_law_signs", "_law_size", "_law_line"]) fun _ _ _ _ _ _ us hl => match us, hl with | [_, _, _], _ => rfl
  have U33 := fun_mk (st := s__law_parts) l33 c33 (keep_fn l33)
  have g33 := PySem.W.mg_of X G a33
  have b33 := U33.binds (ps := ["_law_page_here"]) fun _ _ _ _ _ _ us hl => match us, hl with | [_], _ => rfl
  have U34 := fun_mk (st := s__law_read) l34 c34 (keep_fn l34)
  have g34 := PySem.W.mg_of X G a34
  have b34 := U34.binds (ps := ["_law_page_here", "_law_is_named"]) fun _ _ _ _ _ _ us hl => match us, hl with | [_, _], _ => rfl
  have U35 := fun_mk (st := s__law_read_right) l35 c35 (keep_fn l35)
  have g35 := PySem.W.mg_of X G a35
  have b35 := U35.binds (ps := ["_law_page_here"]) fun _ _ _ _ _ _ us hl => match us, hl with | [_], _ => rfl
  have U36 := fun_mk (st := s__law_bent_page) l36 c36 (keep_fn l36)
  have g36 := PySem.W.mg_of X G a36
  have b36 := U36.binds (ps := ["_law_deck_here", "_law_page_here"]) fun _ _ _ _ _ _ us hl => match us, hl with | [_, _], _ => rfl
  have U37 := fun_mk (st := s__law_equal_right) l37 c37 (keep_fn l37)
  have g37 := PySem.W.mg_of X G a37
  have b37 := U37.binds (ps := ["_law_signs", "_law_nodes_here", "_law_more"]) fun _ _ _ _ _ _ us hl => match us, hl with | [_, _, _], _ => rfl
  have U38 := fun_mk (st := s_law) l38 c38 (keep_fn l38)
  have g38 := PySem.W.mg_of X G a38
  have b38 := U38.binds (ps := ["_law_script"]) fun _ _ _ _ _ _ us hl => match us, hl with | [_], _ => rfl
  have gCR := PySem.W.mg_of X G aR
  have Uinit := fun_mk (st := s_Reader___init__) linit cinit (keep_fn linit)
  have binit := Uinit.binds (ps := ["self", "letters", "nodes"]) fun _ _ _ _ _ _ us hl => match us, hl with | [_, _, _], _ => rfl
  have Minit : Meth K CR "__init__" finit := ⟨minit.1, minit.2, keep_fn linit⟩
  have Ueq := fun_mk (st := s_Reader___eq__) leq ceq (keep_fn leq)
  have beq := Ueq.binds (ps := ["self", "other"]) fun _ _ _ _ _ _ us hl => match us, hl with | [_, _], _ => rfl
  have Meq : Meth K CR "__eq__" feq := ⟨meq.1, meq.2, keep_fn leq⟩
  have Ust := fun_mk (st := s_Reader___str__) lst cst (keep_fn lst)
  have bst := Ust.binds (ps := ["self"]) fun _ _ _ _ _ _ us hl => match us, hl with | [_], _ => rfl
  have Mst : Meth K CR "__str__" fst := ⟨mst.1, mst.2, keep_fn lst⟩
  have Uln := fun_mk (st := s_Reader___len__) lln cln (keep_fn lln)
  have bln := Uln.binds (ps := ["self"]) fun _ _ _ _ _ _ us hl => match us, hl with | [_], _ => rfl
  have Mln : Meth K CR "__len__" fln := ⟨mln.1, mln.2, keep_fn lln⟩
  have gCT := PySem.W.mg_of X G aT
  have YT : ClsF K CM CT := ⟨xT, gaT, ggT, caT⟩
  have TT : MqE_part.Txt K mg "BadReader" "BadReader.__init__" CT FT := ⟨gCT, YT.at_.keep, YT.at_.init, YT.at_.over, YT.at_.has, NoAttr.taker ntT, wsT, wiT, (by simp [PySem.W.typeIn, lET]), YT.base, YT.at_.ty, _, _, _, _, _, _, _, _, _, _, _, _, _, _, lET, cET⟩
  have gCL := PySem.W.mg_of X G aL
  have YL : ClsF K CM CL := ⟨xL, gaL, ggL, caL⟩
  have TL : MqE_line.Txt K mg "BadText" "BadText.__init__" CL FL := ⟨gCL, YL.at_.keep, YL.at_.init, YL.at_.over, YL.at_.has, NoAttr.taker ntL, wsL, wiL, (by simp [PySem.W.typeIn, lEL]), YL.base, YL.at_.ty, _, _, _, _, _, _, _, _, _, _, _, _, _, _, lEL, cEL⟩
  have Urdm := fun_mk (st := s_Reader_read) lrdm crdm (keep_fn lrdm)
  have brdm := Urdm.binds (ps := ["cls", "text"]) fun _ _ _ _ _ _ us hl => match us, hl with | [_, _], _ => rfl
  refine ⟨PySem.W.fnOf "law" "law" (defArgs s_law) (defBody s_law) (defScope s_law) .none kV38 dc38 pm38 an38 cd38 ct38, fun s u => .of_eq rfl, fun base _ _ => ?_⟩
  have RC : RdC K CR := ⟨⟨owR.1, owR.2.1, owR.2.2.1, saR⟩, nR_letters, nR_nodes⟩
  have MK : Mk K CR finit := ⟨owR.2.2.2.1, minit.1, minit.2, owR.2.2.2.2⟩
  have EQ : EqT K mg CR := ⟨gCR, fun H a dx fs e => .base (.ins e RC.cls caR sp tk moR), kiR, oeR⟩
  have ET : ErrP K mg CT CM FT := ⟨TT, YT.xf, ntT, YT.held sp tk, PySem.W.mg_of X G aM, YT.at_.mill mill.1 mill.2, exm_own YT⟩
  have EL : ErrL K mg CL CM FL := ⟨TL, YL.xf, ntL, YL.held sp tk, PySem.W.mg_of X G aM, YL.at_.mill mill.1 mill.2, exm_own YL⟩
  obtain ⟨tA, aA⟩ := t_ALPHABET
  obtain ⟨tD, aD⟩ := t_DIGITS
  obtain ⟨tF, aF⟩ := i_MOST_FIGURES
  have kI : KBn K _ ["self", "letters", "nodes"] 1 ["nodes", "letters"] app2r app2r := kbn_1r2 Uinit fun _ _ _ _ _ _ _ _ _ => rfl
  have kR : KBn K _ ["cls", "text"] 1 ["text"] app2 app2 := kbn_11 Urdm fun _ _ _ _ _ _ _ _ => rfl
  have Glets : FnOk P w K mg base CX0 2 f0 _ ["thing"] (spLetters K) := ok_is_letters U0 B U4 g4 b4 ⟨tA, PySem.W.mg_of X G aA⟩
  have Gweb : FnOk P w K mg base CX0 2 f13 _ ["letters", "thing"] (spWord K) := ok_is_web U13 B U1 g1 b1
  have Gbel : FnOk P w K mg base CX0 2 f3 _ ["thing", "many"] (spBelowA K) := ok_is_belowA U3 B U2 g2 b2
  have Grea : FnOk P w K mg base CX0 3 f10 _ ["letters", "node", "many"] (spReadingA K) := ok_is_readingA U10 B U3 g3 b3 Gbel
  have Gnod : FnOk P w K mg base CX0 4 f14 _ ["letters", "node", "many"] (spNodeA K) := ok_is_reader_nodeA U14 B U11 g11 b11 U10 g10 b10 U13 g13 b13 Grea Gweb
  have Gwro : FnOk P w K mg base CX0 5 f12 _ ["letters", "nodes", "is_node", "word", "most"] (spWrongA K f14) := ok_wrong_partA U12 B U0 g0 b0 Glets U14 b14 Gnod
  have Gini : FnOk P w K mg base (L2.CX P w) 6 finit _ ["self", "letters", "nodes"] (spInitA K CR CT) := ok_initA Uinit RC U12.kp g12 b12 vW12 g14 Gwro TT
  have Geq : FnOk P w K mg base CX0 3 feq _ ["self", "other"] (spEqA K CR) := ok_eq Ueq B RC EQ
  have Glin : FnOk P w K mg base CX0 1 f15 _ ["node"] (spNodeLine K) := ok_node_line U15 B
  have Gstr : FnOk P w K mg base CX0 2 fst _ ["self"] (spStr K CR) := ok_str Ust RC U15 g15 b15 Glin
  have Glen : FnOk P w K mg base CX0 1 fln _ ["self"] (spLen K CR) := ok_len Uln B RC
  have Gint : FnOk P w K mg base CX0 1 f5 _ ["text"] spNum := ok_integer U5 B ⟨tD, PySem.W.mg_of X G aD⟩ ⟨tF, PySem.W.mg_of X G aF⟩
  have Gnum : FnOk P w K mg base CX0 2 f6 _ ["text", "many"] spNumRd := ok_number_read U6 B U5 g5 b5 Gint
  have Gnms : FnOk P w K mg base CX0 3 f7 _ ["words", "many"] (spNumsRd K) := ok_numbers_read U7 B U6 g6 b6 Gnum
  have Gndr : FnOk P w K mg base CX0 5 f16 _ ["letters", "line", "many"] (spNodeRead K) := ok_node_read U16 B U7 g7 b7 Gnms U14 g14 b14 Gnod
  have Gtp : FnOk P w K mg base (L2.CX P w) 3 f8 _ ["word", "text"] (spTextParts K CL) := ok_text_parts U8 B U0 g0 b0 Glets TL
  have Gnsr : FnOk P w K mg base (L2.CX P w) 6 f9 _ ["word", "text", "node_of", "most"] (spNodesRd K CL f16) := ok_nodes_read U9 B U8 g8 b8 Gtp U16 b16 Gndr TL
  have Grdm : FnOk P w K mg base (L2.CX P w) 8 frdm _ ["cls", "text"] (spRead K CR CL) := ok_read Urdm B U9.kp g9 b9 vW9 g16 Gnsr MK binit Gini
  have Gdec : FnOk P w K mg base CX0 1 f17 _ ["_law_script"] (spDeck K) := ok_deck U17 B
  have Gdra : FnOk P w K mg base CX0 1 f18 _ ["_law_deck_here", "_law_below"] spDraw := ok_draw U18 B
  have Gpic : FnOk P w K mg base CX0 2 f19 _ ["_law_deck_here", "_law_some"] spPick := ok_pick U19 B U18 g18 b18
  have Gnds : FnOk P w K mg base CX0 4 f21 _ ["_law_deck_here", "_law_signs", "_law_top"] (spNodes K) := ok_nodes U21 B U18 g18 b18 U19 g19 b19 U20 g20 b20
  have Gare : FnOk P w K mg base CX0 1 f22 _ ["_law_it"] (spAre K) := ok_are U22 B n_sorted n_set
  have Gisn : FnOk P w K mg base CX0 2 f24 _ ["_law_signs", "_law_size", "_law_it"] (spIsNode K) := ok_is_nodeL U24 B U23 g23 b23
  have Gdue : FnOk P w K mg base CX0 3 f25 _ ["_law_signs", "_law_nodes_here"] (spDue K) := ok_due U25 B U22 g22 b22 Gare U24 g24 b24 Gisn
  have Gher : FnG P w K mg base CX0 9 f28 _ ["_law_signs", "_law_nodes_here", "_law_is_named"] (spHeard K) := ok_heard U28 B ET RC gCR MK binit kI Gini Mln bln Glen
  have Gmad : FnG P w K mg base CX0 10 f29 _ ["_law_signs", "_law_nodes_here"] (spMade K) := ok_made U29 B U25 g25 b25 Gdue U28 g28 b28 Gher
  have Godd : FnOk P w K mg base CX0 3 f26 _ ["_law_deck_here", "_law_it"] (spOdd K) := ok_odd U26 B U19 g19 b19 Gpic
  have Gben : ∀ k : Nat, FnOk P w K mg base CX0 (4 + k) f27 _ ["_law_deck_here", "_law_it"] (spBent K k) := ok_bent U27 B U18 g18 b18 Gdra U26 g26 b26 Godd g27 b27
  have Gpag : FnOk P w K mg base CX0 1 f30 _ ["_law_signs", "_law_nodes_here"] (spPage K) := ok_page U30 B
  have Gnof : FnOk P w K mg base CX0 2 f32 _ ["_law_signs", "_law_size", "_law_line"] (spNodeOf K) := ok_node_of U32 B U23 g23 b23 U31 g31 b31
  have Gpar : FnOk P w K mg base CX0 3 f33 _ ["_law_page_here"] (spParts K) := ok_parts U33 B U22 g22 b22 Gare U32 g32 b32 Gnof
  have Gred : FnG P w K mg base CX0 10 f34 _ ["_law_page_here", "_law_is_named"] (spHeard2 K) := ok_heard2 U34 B EL RC gCR rdR cmrdm brdm kR Grdm
  have Grr : FnG P w K mg base CX0 11 f35 _ ["_law_page_here"] (spRR K) := ok_read_right U35 B U33 g33 b33 Gpar U34 g34 b34 Gred
  have Gbpg : FnOk P w K mg base CX0 3 f36 _ ["_law_deck_here", "_law_page_here"] spBentPage := ok_bent_page U36 B U18 g18 b18 Gdra U19 g19 b19 Gpic
  have Gequ : FnG P w K mg base CX0 9 f37 _ ["_law_signs", "_law_nodes_here", "_law_more"] (spEqR K) := ok_equal U37 B RC EQ MK binit Gini Meq beq Geq Mst bst Gstr
  exact ok_law U38 B RC gCR MK binit Gini Mst bst Gstr U17 g17 b17 Gdec U19 g19 b19 Gpic U21 g21 b21 Gnds U29 g29 b29 Gmad U37 g37 b37 Gequ U27 g27 b27 Gben U30 g30 b30 Gpag U35 g35 b35 Grr U36 g36 b36 Gbpg
end Lw

namespace Lw
open PySem PySem.Spec PyProof.Rows L2 Mq
open SX (S)
def fnL : List He.FnD := [⟨("Reader", some "__init__"), "__init__", "Reader.__init__", defArgs s_Reader___init__, defBody s_Reader___init__, defScope s_Reader___init__⟩,
  ⟨("Reader", some "__eq__"), "__eq__", "Reader.__eq__", defArgs s_Reader___eq__, defBody s_Reader___eq__, defScope s_Reader___eq__⟩,
  ⟨("Reader", some "__str__"), "__str__", "Reader.__str__", defArgs s_Reader___str__, defBody s_Reader___str__, defScope s_Reader___str__⟩,
  ⟨("Reader", some "__len__"), "__len__", "Reader.__len__", defArgs s_Reader___len__, defBody s_Reader___len__, defScope s_Reader___len__⟩,
  ⟨("BadReader", some "__init__"), "__init__", "BadReader.__init__", MqE_part.iA ⟨17, 17, 17, 21⟩ ⟨17, 23, 17, 27⟩, MqE_part.iB ⟨18, 8, 18, 12⟩ ⟨18, 8, 18, 17⟩ ⟨18, 20, 18, 24⟩ ⟨18, 8, 18, 24⟩, MqE_part.iS⟩,
  ⟨("BadText", some "__init__"), "__init__", "BadText.__init__", MqE_line.iA ⟨9, 17, 9, 21⟩ ⟨9, 23, 9, 27⟩, MqE_line.iB ⟨10, 8, 10, 12⟩ ⟨10, 8, 10, 17⟩ ⟨10, 20, 10, 24⟩ ⟨10, 8, 10, 24⟩, MqE_line.iS⟩,
  ⟨("is_letters", none), "is_letters", "is_letters", defArgs s_is_letters, defBody s_is_letters, defScope s_is_letters⟩,
  ⟨("is_word", none), "is_word", "is_word", defArgs s_is_word, defBody s_is_word, defScope s_is_word⟩,
  ⟨("is_number", none), "is_number", "is_number", defArgs s_is_number, defBody s_is_number, defScope s_is_number⟩,
  ⟨("is_below", none), "is_below", "is_below", defArgs s_is_below, defBody s_is_below, defScope s_is_below⟩,
  ⟨("is_ascending", none), "is_ascending", "is_ascending", defArgs s_is_ascending, defBody s_is_ascending, defScope s_is_ascending⟩,
  ⟨("integer_read", none), "integer_read", "integer_read", defArgs s_integer_read, defBody s_integer_read, defScope s_integer_read⟩,
  ⟨("number_read", none), "number_read", "number_read", defArgs s_number_read, defBody s_number_read, defScope s_number_read⟩,
  ⟨("numbers_read", none), "numbers_read", "numbers_read", defArgs s_numbers_read, defBody s_numbers_read, defScope s_numbers_read⟩,
  ⟨("text_parts", none), "text_parts", "text_parts", defArgs s_text_parts, defBody s_text_parts, defScope s_text_parts⟩,
  ⟨("is_reading", none), "is_reading", "is_reading", defArgs s_is_reading, defBody s_is_reading, defScope s_is_reading⟩,
  ⟨("has_head", none), "has_head", "has_head", defArgs s_has_head, defBody s_has_head, defScope s_has_head⟩,
  ⟨("is_web", none), "is_web", "is_web", defArgs s_is_web, defBody s_is_web, defScope s_is_web⟩,
  ⟨("is_reader_node", none), "is_reader_node", "is_reader_node", defArgs s_is_reader_node, defBody s_is_reader_node, defScope s_is_reader_node⟩,
  ⟨("node_line", none), "node_line", "node_line", defArgs s_node_line, defBody s_node_line, defScope s_node_line⟩,
  ⟨("node_read", none), "node_read", "node_read", defArgs s_node_read, defBody s_node_read, defScope s_node_read⟩,
  ⟨("_law_deck", none), "_law_deck", "_law_deck", defArgs s__law_deck, defBody s__law_deck, defScope s__law_deck⟩,
  ⟨("_law_draw", none), "_law_draw", "_law_draw", defArgs s__law_draw, defBody s__law_draw, defScope s__law_draw⟩,
  ⟨("_law_pick", none), "_law_pick", "_law_pick", defArgs s__law_pick, defBody s__law_pick, defScope s__law_pick⟩,
  ⟨("_law_word", none), "_law_word", "_law_word", defArgs s__law_word, defBody s__law_word, defScope s__law_word⟩,
  ⟨("_law_nodes", none), "_law_nodes", "_law_nodes", defArgs s__law_nodes, defBody s__law_nodes, defScope s__law_nodes⟩,
  ⟨("_law_are_letters", none), "_law_are_letters", "_law_are_letters", defArgs s__law_are_letters, defBody s__law_are_letters, defScope s__law_are_letters⟩,
  ⟨("_law_is_web", none), "_law_is_web", "_law_is_web", defArgs s__law_is_web, defBody s__law_is_web, defScope s__law_is_web⟩,
  ⟨("_law_is_node", none), "_law_is_node", "_law_is_node", defArgs s__law_is_node, defBody s__law_is_node, defScope s__law_is_node⟩,
  ⟨("_law_due", none), "_law_due", "_law_due", defArgs s__law_due, defBody s__law_due, defScope s__law_due⟩,
  ⟨("_law_odd", none), "_law_odd", "_law_odd", defArgs s__law_odd, defBody s__law_odd, defScope s__law_odd⟩,
  ⟨("_law_bent", none), "_law_bent", "_law_bent", defArgs s__law_bent, defBody s__law_bent, defScope s__law_bent⟩,
  ⟨("_law_heard", none), "_law_heard", "_law_heard", defArgs s__law_heard, defBody s__law_heard, defScope s__law_heard⟩,
  ⟨("_law_made_right", none), "_law_made_right", "_law_made_right", defArgs s__law_made_right, defBody s__law_made_right, defScope s__law_made_right⟩,
  ⟨("_law_page", none), "_law_page", "_law_page", defArgs s__law_page, defBody s__law_page, defScope s__law_page⟩,
  ⟨("_law_number", none), "_law_number", "_law_number", defArgs s__law_number, defBody s__law_number, defScope s__law_number⟩,
  ⟨("_law_node_of", none), "_law_node_of", "_law_node_of", defArgs s__law_node_of, defBody s__law_node_of, defScope s__law_node_of⟩,
  ⟨("_law_parts", none), "_law_parts", "_law_parts", defArgs s__law_parts, defBody s__law_parts, defScope s__law_parts⟩,
  ⟨("_law_read", none), "_law_read", "_law_read", defArgs s__law_read, defBody s__law_read, defScope s__law_read⟩,
  ⟨("_law_read_right", none), "_law_read_right", "_law_read_right", defArgs s__law_read_right, defBody s__law_read_right, defScope s__law_read_right⟩,
  ⟨("_law_bent_page", none), "_law_bent_page", "_law_bent_page", defArgs s__law_bent_page, defBody s__law_bent_page, defScope s__law_bent_page⟩,
  ⟨("_law_equal_right", none), "_law_equal_right", "_law_equal_right", defArgs s__law_equal_right, defBody s__law_equal_right, defScope s__law_equal_right⟩,
  ⟨("law", none), "law", "law", defArgs s_law, defBody s_law, defScope s_law⟩]
def fs0 : List (PySem.W.Frag → Bool) := [fGlo "MillError",
  fMill,
  fSp,
  fTk,
  fGlo "Reader",
  fOwn "Reader",
  fFind "Reader" "__setattr__" (some (.builtin "object.__setattr__")),
  fFind "Reader" "__class__" (some (.builtin "object.__class__")),
  fMro "Reader",
  fKit "Reader" "Reader" true,
  fFind "Reader" "letters" none,
  fFind "Reader" "nodes" none,
  fMeth "Reader" "__init__",
  fMeth "Reader" "__eq__",
  fMeth "Reader" "__str__",
  fMeth "Reader" "__len__",
  fGlo "BadReader",
  fCls "BadReader",
  fFind "BadReader" "__getattribute__" (some (.builtin "BaseException.__getattribute__")),
  fFind "BadReader" "__getattr__" none,
  fFind "BadReader" "__class__" (some (.builtin "object.__class__")),
  fFind "BadReader" "__setattr__" (some (.builtin "object.__setattr__")),
  fFind "BadReader" "part" none,
  fInit "BadReader",
  fFn "BadReader",
  fGlo "BadText",
  fCls "BadText",
  fFind "BadText" "__getattribute__" (some (.builtin "BaseException.__getattribute__")),
  fFind "BadText" "__getattr__" none,
  fFind "BadText" "__class__" (some (.builtin "object.__class__"))]
def fs1 : List (PySem.W.Frag → Bool) := [fFind "BadText" "__setattr__" (some (.builtin "object.__setattr__")),
  fFind "BadText" "line" none,
  fInit "BadText",
  fFn "BadText",
  fRead "Reader",
  fCm "Reader" "read",
  fCmc "Reader" "read" "Reader.read",
  fInt "MOST_FIGURES" 4300,
  fOwnEq "Reader",
  fGlo "is_letters",
  fGlo "is_word",
  fGlo "is_number",
  fGlo "is_below",
  fGlo "is_ascending",
  fGlo "integer_read",
  fGlo "number_read",
  fGlo "numbers_read",
  fGlo "text_parts",
  fGlo "nodes_read",
  fGlo "is_reading",
  fGlo "has_head",
  fGlo "wrong_part",
  fGlo "is_web",
  fGlo "is_reader_node",
  fGlo "node_line",
  fGlo "node_read",
  fGlo "_law_deck",
  fGlo "_law_draw",
  fGlo "_law_pick",
  fGlo "_law_word"]
def fs2 : List (PySem.W.Frag → Bool) := [fGlo "_law_nodes",
  fGlo "_law_are_letters",
  fGlo "_law_is_web",
  fGlo "_law_is_node",
  fGlo "_law_due",
  fGlo "_law_odd",
  fGlo "_law_bent",
  fGlo "_law_heard",
  fGlo "_law_made_right",
  fGlo "_law_page",
  fGlo "_law_number",
  fGlo "_law_node_of",
  fGlo "_law_parts",
  fGlo "_law_read",
  fGlo "_law_read_right",
  fGlo "_law_bent_page",
  fGlo "_law_equal_right",
  fGlo "law",
  fFree "len",
  fFree "range",
  fFree "isinstance",
  fFree "all",
  fFree "any",
  fFree "int",
  fFree "str",
  fFree "bool",
  fFree "tuple",
  fFree "list",
  fFree "repr",
  fFree "enumerate"]
def fs3 : List (PySem.W.Frag → Bool) := [fFree "sorted",
  fFree "set",
  fTxt "ALPHABET" "abcdefghijklmnopqrstuvwxyz",
  fTxt "DIGITS" "0123456789"]
def fsL : List (PySem.W.Frag → Bool) := fs0 ++ fs1 ++ fs2 ++ fs3
def prL : List He.FnD := [⟨("Reader", some "read"), "read", "Reader.read", defArgs s_Reader_read, defBody s_Reader_read, defScope s_Reader_read⟩]
def dfL : List He.DefD := [⟨("nodes_read", none), "nodes_read", "nodes_read", defArgs s_nodes_read, defBody s_nodes_read, defScope s_nodes_read, [.non], []⟩,
  ⟨("wrong_part", none), "wrong_part", "wrong_part", defArgs s_wrong_part, defBody s_wrong_part, defScope s_wrong_part, [.str "nodes", .non], []⟩]
theorem facts {P : Program} {w : World} {K : PySem.W.Frag} {h : Heap} {mg : Str → Option Value} {fa : Addr} (X : K.In h) (G : h.Ns mainGlobals mg) (hfa : mg ("law" : Str) = some (.ref fa)) (c : He.SaysE [] fnL K) (hx : exB fsL K = true) (hp : prL.map (fun d => cmObs K d.at_) = prL.map He.FnD.val) (hd : He.SaysD [] dfL K) :
    ∃ fd : FuncData, (∀ (s : Shared) (u : Value), BindsTo s fd ⟨[u], []⟩ [("_law_script", u)]) ∧ ∀ base : Heap, K.In base → base.Ns mainGlobals mg → FnG P w K mg base CX0 12 fa fd ["_law_script"] (spLaw K) := by
  obtain ⟨_, _, _, _, _, _, _, _, _, linit, cinit⟩ := c.def_ 0 rfl
  obtain ⟨_, _, _, _, _, _, _, _, _, leq, ceq⟩ := c.def_ 1 rfl
  obtain ⟨_, _, _, _, _, _, _, _, _, lst, cst⟩ := c.def_ 2 rfl
  obtain ⟨_, _, _, _, _, _, _, _, _, lln, cln⟩ := c.def_ 3 rfl
  obtain ⟨_, _, _, _, _, _, _, _, _, lET, cET⟩ := c.def_ 4 rfl
  obtain ⟨rfl, rfl⟩ := fnB_ok (exAt hx 24 (f := fFn "BadReader") rfl) lET
  obtain ⟨_, _, _, _, _, _, _, _, _, lEL, cEL⟩ := c.def_ 5 rfl
  obtain ⟨rfl, rfl⟩ := fnB_ok (exAt hx 33 (f := fFn "BadText") rfl) lEL
  obtain ⟨_, _, _, _, _, _, _, _, _, l0, c0⟩ := c.def_ 6 rfl
  obtain ⟨_, _, _, _, _, _, _, _, _, l1, c1⟩ := c.def_ 7 rfl
  obtain ⟨_, _, _, _, _, _, _, _, _, l2, c2⟩ := c.def_ 8 rfl
  obtain ⟨_, _, _, _, _, _, _, _, _, l3, c3⟩ := c.def_ 9 rfl
  obtain ⟨_, _, _, _, _, _, _, _, _, l4, c4⟩ := c.def_ 10 rfl
  obtain ⟨_, _, _, _, _, _, _, _, _, l5, c5⟩ := c.def_ 11 rfl
  obtain ⟨_, _, _, _, _, _, _, _, _, l6, c6⟩ := c.def_ 12 rfl
  obtain ⟨_, _, _, _, _, _, _, _, _, l7, c7⟩ := c.def_ 13 rfl
  obtain ⟨_, _, _, _, _, _, _, _, _, l8, c8⟩ := c.def_ 14 rfl
  obtain ⟨_, _, _, _, _, _, _, _, _, l10, c10⟩ := c.def_ 15 rfl
  obtain ⟨_, _, _, _, _, _, _, _, _, l11, c11⟩ := c.def_ 16 rfl
  obtain ⟨_, _, _, _, _, _, _, _, _, l13, c13⟩ := c.def_ 17 rfl
  obtain ⟨_, _, _, _, _, _, _, _, _, l14, c14⟩ := c.def_ 18 rfl
  obtain ⟨_, _, _, _, _, _, _, _, _, l15, c15⟩ := c.def_ 19 rfl
  obtain ⟨_, _, _, _, _, _, _, _, _, l16, c16⟩ := c.def_ 20 rfl
  obtain ⟨_, _, _, _, _, _, _, _, _, l17, c17⟩ := c.def_ 21 rfl
  obtain ⟨_, _, _, _, _, _, _, _, _, l18, c18⟩ := c.def_ 22 rfl
  obtain ⟨_, _, _, _, _, _, _, _, _, l19, c19⟩ := c.def_ 23 rfl
  obtain ⟨_, _, _, _, _, _, _, _, _, l20, c20⟩ := c.def_ 24 rfl
  obtain ⟨_, _, _, _, _, _, _, _, _, l21, c21⟩ := c.def_ 25 rfl
  obtain ⟨_, _, _, _, _, _, _, _, _, l22, c22⟩ := c.def_ 26 rfl
  obtain ⟨_, _, _, _, _, _, _, _, _, l23, c23⟩ := c.def_ 27 rfl
  obtain ⟨_, _, _, _, _, _, _, _, _, l24, c24⟩ := c.def_ 28 rfl
  obtain ⟨_, _, _, _, _, _, _, _, _, l25, c25⟩ := c.def_ 29 rfl
  obtain ⟨_, _, _, _, _, _, _, _, _, l26, c26⟩ := c.def_ 30 rfl
  obtain ⟨_, _, _, _, _, _, _, _, _, l27, c27⟩ := c.def_ 31 rfl
  obtain ⟨_, _, _, _, _, _, _, _, _, l28, c28⟩ := c.def_ 32 rfl
  obtain ⟨_, _, _, _, _, _, _, _, _, l29, c29⟩ := c.def_ 33 rfl
  obtain ⟨_, _, _, _, _, _, _, _, _, l30, c30⟩ := c.def_ 34 rfl
  obtain ⟨_, _, _, _, _, _, _, _, _, l31, c31⟩ := c.def_ 35 rfl
  obtain ⟨_, _, _, _, _, _, _, _, _, l32, c32⟩ := c.def_ 36 rfl
  obtain ⟨_, _, _, _, _, _, _, _, _, l33, c33⟩ := c.def_ 37 rfl
  obtain ⟨_, _, _, _, _, _, _, _, _, l34, c34⟩ := c.def_ 38 rfl
  obtain ⟨_, _, _, _, _, _, _, _, _, l35, c35⟩ := c.def_ 39 rfl
  obtain ⟨_, _, _, _, _, _, _, _, _, l36, c36⟩ := c.def_ 40 rfl
  obtain ⟨_, _, _, _, _, _, _, _, _, l37, c37⟩ := c.def_ 41 rfl
  obtain ⟨_, _, _, _, _, _, _, _, _, l38, c38⟩ := c.def_ 42 rfl
  obtain ⟨_, _, _, _, _, _, _, _, _, lrdm⟩ := cm_def hp 0 rfl
  have crdm := cmc_of (exAt hx 36 (f := fCmc "Reader" "read" "Reader.read") rfl) lrdm
  exact all_mk X G hfa (glo_of (exAt hx 0 (f := fGlo "MillError") rfl)) (mill_of (exAt hx 1 (f := fMill) rfl)) (sp_of (exAt hx 2 (f := fSp) rfl)) (tk_of (exAt hx 3 (f := fTk) rfl)) (glo_of (exAt hx 4 (f := fGlo "Reader") rfl)) (own_of (exAt hx 5 (f := fOwn "Reader") rfl)) (find_of (exAt hx 6 (f := fFind "Reader" "__setattr__" (some (.builtin "object.__setattr__"))) rfl)) (find_of (exAt hx 7 (f := fFind "Reader" "__class__" (some (.builtin "object.__class__"))) rfl)) (mro_of (exAt hx 8 (f := fMro "Reader") rfl)) (kit_of (exAt hx 9 (f := fKit "Reader" "Reader" true) rfl)) (find_of (exAt hx 10 (f := fFind "Reader" "letters" none) rfl)) (find_of (exAt hx 11 (f := fFind "Reader" "nodes" none) rfl)) (meth_of (exAt hx 12 (f := fMeth "Reader" "__init__") rfl)) linit cinit (meth_of (exAt hx 13 (f := fMeth "Reader" "__eq__") rfl)) leq ceq (meth_of (exAt hx 14 (f := fMeth "Reader" "__str__") rfl)) lst cst (meth_of (exAt hx 15 (f := fMeth "Reader" "__len__") rfl)) lln cln (glo_of (exAt hx 16 (f := fGlo "BadReader") rfl)) (cls_of (exAt hx 17 (f := fCls "BadReader") rfl)) (find_of (exAt hx 18 (f := fFind "BadReader" "__getattribute__" (some (.builtin "BaseException.__getattribute__"))) rfl)) (find_of (exAt hx 19 (f := fFind "BadReader" "__getattr__" none) rfl)) (find_of (exAt hx 20 (f := fFind "BadReader" "__class__" (some (.builtin "object.__class__"))) rfl)) (find_of (exAt hx 21 (f := fFind "BadReader" "__setattr__" (some (.builtin "object.__setattr__"))) rfl)) (find_of (exAt hx 22 (f := fFind "BadReader" "part" none) rfl)) (init_of (exAt hx 23 (f := fInit "BadReader") rfl)) lET cET (glo_of (exAt hx 25 (f := fGlo "BadText") rfl)) (cls_of (exAt hx 26 (f := fCls "BadText") rfl)) (find_of (exAt hx 27 (f := fFind "BadText" "__getattribute__" (some (.builtin "BaseException.__getattribute__"))) rfl)) (find_of (exAt hx 28 (f := fFind "BadText" "__getattr__" none) rfl)) (find_of (exAt hx 29 (f := fFind "BadText" "__class__" (some (.builtin "object.__class__"))) rfl)) (find_of (exAt hx 30 (f := fFind "BadText" "__setattr__" (some (.builtin "object.__setattr__"))) rfl)) (find_of (exAt hx 31 (f := fFind "BadText" "line" none) rfl)) (init_of (exAt hx 32 (f := fInit "BadText") rfl)) lEL cEL (read_of (exAt hx 34 (f := fRead "Reader") rfl)) (cm_of (exAt hx 35 (f := fCm "Reader" "read") rfl)) lrdm crdm (int_of (exAt hx 37 (f := fInt "MOST_FIGURES" 4300) rfl)) (ownEq_of (exAt hx 38 (f := fOwnEq "Reader") rfl)) (glo_of (exAt hx 39 (f := fGlo "is_letters") rfl)) l0 c0 (glo_of (exAt hx 40 (f := fGlo "is_word") rfl)) l1 c1 (glo_of (exAt hx 41 (f := fGlo "is_number") rfl)) l2 c2 (glo_of (exAt hx 42 (f := fGlo "is_below") rfl)) l3 c3 (glo_of (exAt hx 43 (f := fGlo "is_ascending") rfl)) l4 c4 (glo_of (exAt hx 44 (f := fGlo "integer_read") rfl)) l5 c5 (glo_of (exAt hx 45 (f := fGlo "number_read") rfl)) l6 c6 (glo_of (exAt hx 46 (f := fGlo "numbers_read") rfl)) l7 c7 (glo_of (exAt hx 47 (f := fGlo "text_parts") rfl)) l8 c8 (glo_of (exAt hx 48 (f := fGlo "nodes_read") rfl)) (hd.def_ 0 rfl) (glo_of (exAt hx 49 (f := fGlo "is_reading") rfl)) l10 c10 (glo_of (exAt hx 50 (f := fGlo "has_head") rfl)) l11 c11 (glo_of (exAt hx 51 (f := fGlo "wrong_part") rfl)) (hd.def_ 1 rfl) (glo_of (exAt hx 52 (f := fGlo "is_web") rfl)) l13 c13 (glo_of (exAt hx 53 (f := fGlo "is_reader_node") rfl)) l14 c14 (glo_of (exAt hx 54 (f := fGlo "node_line") rfl)) l15 c15 (glo_of (exAt hx 55 (f := fGlo "node_read") rfl)) l16 c16 (glo_of (exAt hx 56 (f := fGlo "_law_deck") rfl)) l17 c17 (glo_of (exAt hx 57 (f := fGlo "_law_draw") rfl)) l18 c18 (glo_of (exAt hx 58 (f := fGlo "_law_pick") rfl)) l19 c19 (glo_of (exAt hx 59 (f := fGlo "_law_word") rfl)) l20 c20 (glo_of (exAt hx 60 (f := fGlo "_law_nodes") rfl)) l21 c21 (glo_of (exAt hx 61 (f := fGlo "_law_are_letters") rfl)) l22 c22 (glo_of (exAt hx 62 (f := fGlo "_law_is_web") rfl)) l23 c23 (glo_of (exAt hx 63 (f := fGlo "_law_is_node") rfl)) l24 c24 (glo_of (exAt hx 64 (f := fGlo "_law_due") rfl)) l25 c25 (glo_of (exAt hx 65 (f := fGlo "_law_odd") rfl)) l26 c26 (glo_of (exAt hx 66 (f := fGlo "_law_bent") rfl)) l27 c27 (glo_of (exAt hx 67 (f := fGlo "_law_heard") rfl)) l28 c28 (glo_of (exAt hx 68 (f := fGlo "_law_made_right") rfl)) l29 c29 (glo_of (exAt hx 69 (f := fGlo "_law_page") rfl)) l30 c30 (glo_of (exAt hx 70 (f := fGlo "_law_number") rfl)) l31 c31 (glo_of (exAt hx 71 (f := fGlo "_law_node_of") rfl)) l32 c32 (glo_of (exAt hx 72 (f := fGlo "_law_parts") rfl)) l33 c33 (glo_of (exAt hx 73 (f := fGlo "_law_read") rfl)) l34 c34 (glo_of (exAt hx 74 (f := fGlo "_law_read_right") rfl)) l35 c35 (glo_of (exAt hx 75 (f := fGlo "_law_bent_page") rfl)) l36 c36 (glo_of (exAt hx 76 (f := fGlo "_law_equal_right") rfl)) l37 c37 (glo_of (exAt hx 77 (f := fGlo "law") rfl)) l38 c38 (free_of (exAt hx 78 (f := fFree "len") rfl)) (free_of (exAt hx 79 (f := fFree "range") rfl)) (free_of (exAt hx 80 (f := fFree "isinstance") rfl)) (free_of (exAt hx 81 (f := fFree "all") rfl)) (free_of (exAt hx 82 (f := fFree "any") rfl)) (free_of (exAt hx 83 (f := fFree "int") rfl)) (free_of (exAt hx 84 (f := fFree "str") rfl)) (free_of (exAt hx 85 (f := fFree "bool") rfl)) (free_of (exAt hx 86 (f := fFree "tuple") rfl)) (free_of (exAt hx 87 (f := fFree "list") rfl)) (free_of (exAt hx 88 (f := fFree "repr") rfl)) (free_of (exAt hx 89 (f := fFree "enumerate") rfl)) (free_of (exAt hx 90 (f := fFree "sorted") rfl)) (free_of (exAt hx 91 (f := fFree "set") rfl)) (txt_of (exAt hx 92 (f := fTxt "ALPHABET" "abcdefghijklmnopqrstuvwxyz") rfl)) (txt_of (exAt hx 93 (f := fTxt "DIGITS" "0123456789") rfl))
end Lw

namespace Lw
open PySem PySem.W PySem.Calls PyProof.Rows Mq
abbrev RR : OpenRow := OpenLaw.row PySem.Challenge.rw_millhands_k07_readers_of_any_values
def nm0 : List PySem.Str := ["_wall", "MillError", "BadText", "BadWeb", "BadReader", "is_letters", "is_word", "is_number", "is_below", "is_ascending", "integer_read", "number_read", "numbers_read", "text_parts", "nodes_read", "is_reading", "has_head", "wrong_part", "walked", "is_web", "check_web", "Reader", "is_reader_node", "node_line", "node_read", "made_by", "_law_deck", "_law_draw", "_law_pick", "_law_word"]
def nm1 : List PySem.Str := ["_law_nodes", "_law_are_letters", "_law_is_web", "_law_is_node", "_law_due", "_law_odd", "_law_bent", "_law_heard", "_law_made_right", "_law_page", "_law_number", "_law_node_of", "_law_parts", "_law_read", "_law_read_right", "_law_bent_page", "_law_equal_right", "ALPHABET", "DIGITS", "MOST_FIGURES"]
abbrev nmL : List PySem.Str := nm0 ++ nm1
abbrev hk : Hook := hookQ 5 fnL prL dfL fsL
def ob (s : SharedT) : AlQ := obsQ 5 fnL prL dfL fsL (HandSHeadRun.getT s)
theorem ob_eq (s : SharedT) : ob s = hk.obs s.abs := obsQ_eq (HandSHeadRun.getT_eq s)
theorem run (w : World) : HandSHeadRun.RunEq RR (view RR.prog [55]) hk ob 9600 nmL w := by
  intro os
  kernel_rfl
end Lw

open PySem PySem.W PySem.Calls PyProof.Rows
theorem PySem.Challenge.cw_millhands_k07_readers_of_any_values_holds : PySem.Challenge.rw_millhands_k07_readers_of_any_values.Holds := by
  w_on; o_law
  refine HandSHeadRun.head_any (r := OpenLaw.row PySem.Challenge.rw_millhands_k07_readers_of_any_values) (q := view (OpenLaw.row PySem.Challenge.rw_millhands_k07_readers_of_any_values).prog [55]) (H := Lw.hk) (ob := Lw.ob) (M := 9600) (loose := Lw.nmL) (d := HandSHeadRun.topDef (OpenLaw.row PySem.Challenge.rw_millhands_k07_readers_of_any_values).prog 55) (kwd := []) Lw.ob_eq
    (by kernel_rfl) (fun s => by kernel_rfl) Lw.run (by kernel_rfl) (by kernel_rfl) (by kernel_rfl) (by rfl) (by first | assumption | decide +kernel) (by decide +kernel) ⟨rfl, rfl, rfl, rfl, rfl, by decide +kernel⟩ ?hw ?hc
  case hw => w_witness2
  case hc =>
    refine Mq.walk_ofGE (l := PySem.Challenge.rw_millhands_k07_readers_of_any_values) (n := 63) (k := 12) (x := "_law_script") (CX := L2.CX0) rfl (by decide) (by kernel_rfl) ⟨rfl, by decide, by decide⟩ ?F (fun _ _ _ _ z => z)
    intro w mg fa h Y G hmg0
    obtain ⟨K, KX, c, hx, hpr, hdf⟩ := Y
    have hmg : mg ("law" : PySem.Str) = some (.ref fa) := by
      have e : (HandSHeadRun.topDef (OpenLaw.row PySem.Challenge.rw_millhands_k07_readers_of_any_values).prog 55).name = ("law" : PySem.Str) := by kernel_rfl
      rw [← e]
      exact hmg0
    obtain ⟨fd, hb, hF⟩ := Lw.facts (P := (PySem.Challenge.rw_millhands_k07_readers_of_any_values).prog) (w := w) KX G hmg c hx hpr hdf
    exact ⟨K, fd, Lw.spLaw K, KX, hb, fun H a ns hl _ hS => ⟨a, ns, rfl, hS, hl, fun _ => rfl⟩, hF⟩

