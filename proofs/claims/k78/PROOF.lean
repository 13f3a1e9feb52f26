import PyProof.Rows.All
import Wide.All
import OpenK.AllK
import Wide.FinOn
import PyProof.EqAt
import PyProof.EqKinds
import PyProof.TupleCall
import PyProof.ReprReads
import KE.KExcInit
import HandS.ForMost
import HandS.ForExc
import HandS.ExcField
import HandS.Flow
import HandS.Style
import PyProof.ReprRoads
import HandS.ExcIs
import KE.KExcIs
import HandS.Defaults
import HandS.Walk
import HandS.IsInst
import HandS.Codes
import HandS.StrMore
import KE.GoesMore
import HandS.CallLocal
import HandS.More
import PyProof.StrOps2
import PySem.Challenge.RW_millhands_k78_texts_of_logs
import HandS.Replace
import KE.KSortTupG
import KE.KDictSum
import HandS.Iter
import HandS.Dict
import HandS.Conv
import HandS.TupLe
import PyProof.StrLawsChain
import PyProof.Rows.StrItems
import HandS.MakeKwOnly
import HandS.ClsMeth
import HandS.Text
import HandS.Set
import HandS.SetFor
import HandS.SetTxt0
import HandS.Strs
import HandS.SetTxtIn
import HandS.TupAny
import PyProof.ListStr
import PyProof.ListMulRight
import PyProof.AutoIntG3
import PyProof.ReprLen
import HandS.FStr
import HandS.Star
import HandS.ExcValue
import HandS.HeadEnd
import HandS.Head0
import HandS.Head1
import HandS.Head2
import HandS.HeadHook1
import HandS.HeadHook2
import HandS.Property
set_option Elab.async false
set_option linter.all false
set_option maxRecDepth 100000
set_option maxHeartbeats 0
namespace Mq
open PySem PySem.Spec PyProof.Rows L2

/-! ### defs that are entered where no repr is under way -/
def Still (A : Around) : Prop := A.guards = some []

structure FnG (P : Program) (w : World) (K : PySem.W.Frag) (mg : Str → Option Value)
    (base : Heap) (CX : CXT) (k : Nat) (f : Addr) (fd : FuncData) (ps : List Str) (sp : Sp) : Prop where
  many : ∀ vs H Q E, sp vs H Q E → vs.length = ps.length
  go : ∀ (A : Around) (outer : List Env) (s : Shared) (H : Hp) (args : Args)
    (us : List Value) (vs : List V) (Q : VK) (E : XK), Still A → Room k A →
    Env0 P w K mg base A outer s H → BindsTo s fd args (ps.zip us) → Vals vs us → sp vs H Q E →
    codeAny (model P w) A (.call (.ref f) args) (CR CX outer P w H s Q E) s

theorem FnG.of {P : Program} {w : World} {K : PySem.W.Frag} {mg : Str → Option Value}
    {base : Heap} {CX : CXT} {k : Nat} {f : Addr} {fd : FuncData} {ps : List Str} {sp : Sp}
    (F : FnOk P w K mg base CX k f fd ps sp) : FnG P w K mg base CX k f fd ps sp :=
  ⟨F.len, fun A outer s H args us vs Q E _ => F.run A outer s H args us vs Q E⟩

section
variable {P : Program} {w : World} {K : PySem.W.Frag} {mg : Str → Option Value} {base : Heap}

theorem Fun.okG {CX : CXT} {x qual : Str} {st : Stmt} {f : Addr} {fd : FuncData} {N ps : List Str}
    {k : Nat} {sp : Sp} (F : L2.Fun K x qual st f fd) (S : FnScope N ps (defScope st))
    (many : ∀ vs H Q E, sp vs H Q E → vs.length = ps.length)
    (body : ∀ (cdv : Value) (A : Around) (outer : List Env) (s : Shared) (H : Hp) (vs : List V) (Q : VK) (E : XK),
      Still (A.deeper (envOfC qual (defScope st) s.heap.objs.size f cdv)) →
      Room k (A.deeper (envOfC qual (defScope st) s.heap.objs.size f cdv)) → sp vs H Q E →
      ∃ t, PSs (cxOf CX P w K mg base N qual (defScope st) f cdv A outer s H E) (defBody st) t ∧
        t { nx := fun _ H' => Q .non H', rt := Q } (start N vs) H) :
    FnG P w K mg base CX (k + 1) f fd ps sp := by
  obtain ⟨oc, od, kV, doc, pm, an, cdv, ct, osl, rfl, lk, hcd⟩ := F.ex
  refine ⟨many, fun A outer s H args us vs Q E gA hr e0 hb r h => ?_⟩
  have old : ∀ b o, base.get? b = some o → s.heap.get? b = some o := fun b o e => (e0.bs b o e).1
  have KX := e0.mod.kin.keeps old
  have lim := e0.mod.nolimit.keeps old
  have hlen := many _ _ _ _ h
  have kinds : ∀ y ∈ ps.zip us, (defScope st).names.lookup y.1 = some .local ∨
      ((defScope st).names.lookup y.1 = some .cell ∧
        ((cellsFrom (s.heap.objs.size + 1) (defScope st).names []).lookup y.1).isSome = true) := by
    rintro ⟨n, v⟩ hy
    rcases S.par n (List.of_mem_zip hy).1 with q | q
    · exact Or.inl q
    · exact Or.inr ⟨q, PySem.W.cellsFrom_some _ _ _ (Or.inl q)⟩
  refine codeAny_call_function hr.depth (KX _ _ lk) rfl S.co S.gen rfl
    (PySem.W.codeRec_of KX hcd) (hb _ _ _ _ ?_)
  refine wpAny_newFunctionEnv_cells S.kind kinds (fun env he s1 x => ?_)
  subst he
  refine ⟨lim.keeps x.toInCall.keep, codeAny_func ?_⟩
  obtain ⟨t, ht, hq⟩ := body cdv A outer s H vs Q E gA (hr.deeper _) h
  have I := inv_start (CX := CX) (E := E) S hr.hd e0 hlen r x
  refine wpAny_mono (ht.run [] s1 (start N vs) H _ I hq) (fun fl s' hs => ?_) (fun e s' hs => hs)
  cases fl with
  | ret u =>
    obtain ⟨v, σ', H', J, rv, q⟩ := hs
    exact ⟨v, H', J.os, J.bare, J.base, J.hok, rv, q⟩
  | next =>
    obtain ⟨σ', H', J, q⟩ := hs
    exact ⟨V.non, H', J.os, J.bare, J.base, J.hok, rfl, q⟩
  | brk =>
    obtain ⟨_, _, _, q⟩ := hs
    exact q.elim
  | cont =>
    obtain ⟨_, _, _, q⟩ := hs
    exact q.elim
end

section
variable {X : Cx} {CX : CXT} {k : Nat} {f : Addr} {fd : FuncData} {ps : List Str} {sp : Sp}
  {E : XK} {x : Str} {p pos : Pos} {e : Expr} {es : List Expr} {t : TA}

theorem run_G {pins : List (Addr × Obj)} {σ : L2.St} {H : Hp} {s : Shared} {Q : VK} {us : List Value} {vs : List V}
    (F : FnG X.prog X.w X.K X.mg X.base CX k f fd ps sp) (gA : Still X.A) (hr : Room k X.A)
    (hb : Binds X.K fd ps []) (hx : Passes CX X E) (I : Inv X pins σ H s) (r : Vals vs us) (h : sp vs H Q E) :
    wpAny (model X.prog X.w) X.A (call (.ref f) us) (EP X pins σ Q) X.xe s := by
  have hl : us.length = ps.length := by rw [← r.length]; exact F.many _ _ _ _ h
  have b := hb s us I.kIn (by rw [List.append_nil]; exact hl)
  rw [List.append_nil] at b
  refine wpAny_call (codeAny_mono (F.go X.A X.stack s H ⟨us, []⟩ us vs Q E gA hr I.env0 b r h) (fun r s' hq => ?_))
  match r, hq with
  | .error er, hq => exact hx pins σ H s er s' I hq
  | .ok (.ret u), hq => exact I.after hq
  | .ok .next, hq => exact hq.elim
  | .ok .brk, hq => exact hq.elim
  | .ok .cont, hq => exact hq.elim

/-- f(e, ..) where no repr is under way -/
theorem pe_callG (F : FnG X.prog X.w X.K X.mg X.base CX k f fd ps sp) (gA : Still X.A) (hr : Room k X.A)
    (hg : Gl X x) (hm : X.mg x = some (.ref f)) (hk : PySem.W.keepIn X.K (.ref f) = true)
    (hb : Binds X.K fd ps []) (hx : Passes CX X E) (ha : PA X (e :: es) t)
    (hdb : (x == ("__debug__" : Str)) = false := by decide)
    (he : starEach (e :: es) X.env = (false, eval e X.env) :: starEach es X.env := by rfl)
    (hpl : (backTo pos (starEach es X.env)).any (·.1) = false := by rfl) :
    PE X (.Call (.Name x p) (e :: es) [] pos) (tCall sp [] E t) := by
  refine ⟨fun pins s σ H Q I h => wpAny_Call_Name_kw (ld_glob I hg hm ?_ hdb)⟩
  refine PySem.W.callWith_K (h₀ := X.base) I.ok.mod.kin hk (thn (ha.run pos pins s σ H _ I h) ?_) he hpl
  rintro us s1 ⟨vs, H1, I1, r, q⟩
  rw [List.append_nil] at q
  exact ⟨I1.kIn, run_G F gA hr hb hx I1 r q⟩
end

/-! ### the law's own call -/
theorem law_callG {P : Program} {w : World} {K : PySem.W.Frag} {mg mb : Str → Option Value} {CX : CXT} {k : Nat}
    {fa a : Addr} {fd : FuncData} {x : Str} {sp : Sp} {s₁ : Shared} {vs : List Value} {ns : List Int}
    (KX : K.In s₁.heap) (hns : s₁.heap.Ns mainGlobals mg) (hb : s₁.heap.Ns builtinsNs mb)
    (hbb : ∀ x : Str, x ≠ "__name__" → mb x = bootBuiltins x) (hlim : s₁.heap.NoLimit) (hg : s₁.gens = #[])
    (ha : s₁.heap.get? a = some { cls := .type "list", data := .seq vs.toArray }) (hi : IntsAre vs ns)
    (hl : ns.length ≤ sizeLine) (hr : Room k callerA)
    (F : ∀ base : Heap, K.In base → base.Ns mainGlobals mg → FnG P w K mg base CX k fa fd [x] sp)
    (hbind : ∀ (s : Shared) (u : Value), BindsTo s fd ⟨[u], []⟩ [(x, u)])
    (hsp : ∀ H : Hp, Only H → SqL K H a (ns.map V.int) → sp [.ref a] H (fun v _ => v = .bl true) fun _ _ _ => False)
    (hCX : ∀ H e s', CX [] H s₁ (fun _ _ _ => False) e s' → False) :
    codeAny (model P w) callerA (.call (.ref fa) ⟨[.ref a], []⟩)
      (fun r s' => r = .ok (.ret (.bool true)) ∧ OldK s₁.heap s'.heap ∧ s'.os = s₁.os ∧ AllBare s'.gens) s₁ := by
  have rv := vals_ints hi
  have core : ∀ H : Hp, Only H → SqL K H a (ns.map V.int) → HOk P w H s₁.heap →
      (∀ b, H b ≠ none → b = a) → (H a ≠ none → K.lookup a = none) →
      codeAny (model P w) callerA (.call (.ref fa) ⟨[.ref a], []⟩)
        (fun r s' => r = .ok (.ret (.bool true)) ∧ OldK s₁.heap s'.heap ∧ s'.os = s₁.os ∧ AllBare s'.gens) s₁ := by
    intro H hO hS hok hA hK
    have only : ∀ {b : Addr} {u : HO}, H b = some u → b = a := fun {b u} q => hA b (by rw [q]; exact fun z => by cases z)
    have noD : ∀ {b : Addr} {o : Obj} {es : Array DictEntry} {ep : Nat}, s₁.heap.get? b = some o →
        o.data = .dict es ep → H b = none := by
      intro b o es ep e d
      cases q : H b with
      | none => rfl
      | some u =>
        have e' := only q
        subst e'
        rw [ha] at e
        cases e
        cases d
    have nsK : ∀ {b : Addr} {m : Str → Option Value}, s₁.heap.Ns b m → (hidT s₁.heap H).Ns b m := by
      rintro b m ⟨o, es, ep, e, d, r⟩
      exact ⟨o, es, ep, hidT_get e (noD e d), d, r⟩
    have hKb : K.In (hidT s₁.heap H) := by
      intro b o e
      refine hidT_get (KX b o e) ?_
      cases q : H b with
      | none => rfl
      | some u =>
        have e' := only q
        subst e'
        rw [hK (by rw [q]; exact fun z => by cases z)] at e
        cases e
    obtain ⟨mc, l1, l2⟩ := hlim
    have hM : Mod K mg (hidT s₁.heap H) := ⟨hKb, nsK hns, ⟨mb, nsK hb, hbb⟩, ⟨mc, nsK l1, l2⟩⟩
    have nil : ∀ {b : Addr}, b ∉ ([] : List Addr) := fun h => by cases h
    have e0 : Env0 P w K mg (hidT s₁.heap H) callerA [] s₁ H :=
      ⟨rfl, hM, fun b o e => of_hidT e, Nat.le_of_eq (hidT_size _ _), trivial, fun b hb => (nil hb).elim, hok, .of_eq hg⟩
    refine codeAny_mono ((F _ hKb (nsK hns)).go callerA [] s₁ H ⟨[.ref a], []⟩ [.ref a] [.ref a] _ _ rfl hr e0
      (hbind s₁ (.ref a)) (.cons rfl .nil) (hsp H hO hS)) (fun r s' h => ?_)
    match r, h with
    | .error e, h => exact (hCX H e s' h).elim
    | .ok .next, h => exact h.elim
    | .ok .brk, h => exact h.elim
    | .ok .cont, h => exact h.elim
    | .ok (.ret u), h =>
      obtain ⟨v, H', os, bare, un, hok', r', q⟩ := h
      have q' : v = .bl true := q
      subst q'
      cases (show u = Value.bool true from r')
      refine ⟨rfl, OldK.of_keep (fun b o e => ?_), os, bare⟩
      rcases hO b with z | ⟨ob, xs, z⟩
      · exact un.keep b o e z nil nil
      · obtain ⟨e1, _⟩ := hok b _ z
        obtain ⟨e2, _⟩ := hok' b _ (un.frzs b ob _ z)
        rw [e] at e1
        cases e1
        exact e2
  cases hk : K.lookup a with
  | some o =>
    have e := KX a o hk
    rw [ha] at e
    cases e
    refine core (fun _ => none) (fun _ => Or.inl rfl) (Or.inr ⟨_, vs.toArray, _, hk, rfl, rfl, rfl, ?_, by simpa using rv⟩)
      (fun b u z => by cases (show (none : Option HO) = some u from z)) (fun b z => (z rfl).elim) (fun z => (z rfl).elim)
    rw [List.size_toArray, hi.length]
    exact hl
  | none =>
    let o0 : Obj := { cls := .type "list", data := .seq vs.toArray }
    refine core (fun b => if b = a then some (.frz o0 (.lst (ns.map V.int))) else none) (fun b => ?_)
      (Or.inl (Or.inr ⟨o0, if_pos rfl⟩)) (fun b u z => ?_) (fun b z => ?_) (fun _ => hk)
    · by_cases hb : b = a
      · exact Or.inr ⟨_, _, if_pos hb⟩
      · exact Or.inl (if_neg hb)
    · by_cases hb : b = a
      · cases (if_pos hb).symm.trans z
        subst hb
        exact ⟨ha, by rw [List.length_map]; exact hl, vs, _, rv, ha⟩
      · cases (if_neg hb).symm.trans z
    · by_cases hb : b = a
      · exact hb
      · exact (z (if_neg hb)).elim

theorem walk_ofG {l : PySem.W.OpenLaw} {n k : Nat} {q : Program} {loose : List Str}
    {XP : (Str → Option Value) → Heap → Prop} {YP : World → Heap → Prop} {d : DefRec}
    {K : Params → PySem.W.Frag} {CX : World → CXT} {sp : World → Sp} {x : Str}
    (hn : l.most = some n) (hn2 : n ≤ sizeLine) (hdf : d.params.defaults = []) (hr : Room k callerA)
    (hY : ∀ (w : World) (h : Heap), YP w h → (K w.params).In h)
    (F : ∀ (w : World) (mg : Str → Option Value) (fa : Addr) (h : Heap), (K w.params).In h →
      h.Ns mainGlobals mg → mg d.name = some (.ref fa) →
      ∃ fd : FuncData, (∀ (s : Shared) (u : Value), BindsTo s fd ⟨[u], []⟩ [(x, u)]) ∧
        ∀ base : Heap, (K w.params).In base → base.Ns mainGlobals mg →
          FnG l.prog w (K w.params) mg base (CX w) k fa fd [x] (sp w))
    (hsp : ∀ (w : World) (H : Hp) (a : Addr) (ns : List Int), ns.length ≤ n → Only H →
      SqL (K w.params) H a (ns.map V.int) → sp w [.ref a] H (fun v _ => v = .bl true) fun _ _ _ => False)
    (hCX : ∀ (w : World) (H : Hp) (s : Shared) (e : Value) (s' : Shared), CX w [] H s (fun _ _ _ => False) e s' → False) :
    PySem.W.WalkO q loose XP YP l.row.toRowW d [] (fun f vs => PySem.call f vs) := by
  refine Att.attach_call hn hdf ?_
  intro w s₀ s₁ mg mb fa o pm cd doc a vs ns G Y ho hd hcd hmg hobj hints hlen hg
  obtain ⟨fd, hb, hF⟩ := F w mg fa _ (hY w _ Y) G.T.g hmg
  exact law_callG (hY w _ Y) G.T.g G.T.b G.T.builtins G.T.nolimit hg hobj hints (Nat.le_trans hlen hn2) hr hF hb
    (fun H hO hS => hsp w H a ns hlen hO hS) (fun H e s' => hCX w H s₁ e s')
end Mq

namespace Mq
open PySem PySem.Spec PyProof.Rows L2

/-! ### repr of data, dicts among them -/
def keyD : Key → PyData
  | .inl i => .int i
  | .inr x => .str x
mutual
inductive Dg (K : PySem.W.Frag) (H : Hp) : V → PyData → Prop
  | non : Dg K H .non .none
  | bl (b : Bool) : Dg K H (.bl b) (.bool b)
  | int (i : Int) : Dg K H (.int i) (.int i)
  | str (x : Str) : Dg K H (.str x) (.str x)
  | lst {a : Addr} {xs : List V} {ds : List PyData} : a ≠ sysModules → SqL K H a xs → DgAll K H xs ds → Dg K H (.ref a) (.list ds)
  | tup {a : Addr} {xs : List V} {ds : List PyData} : SqT K H a xs → DgAll K H xs ds → Dg K H (.ref a) (.tuple ds)
  | dct {a : Addr} {kvs : List (Key × V)} {ds : List (PyData × PyData)} : H a = some (.dK kvs) → DgKv K H kvs ds → Dg K H (.ref a) (.dict ds)
inductive DgAll (K : PySem.W.Frag) (H : Hp) : List V → List PyData → Prop
  | nil : DgAll K H [] []
  | cons {v : V} {vs : List V} {d : PyData} {ds : List PyData} : Dg K H v d → DgAll K H vs ds → DgAll K H (v :: vs) (d :: ds)
inductive DgKv (K : PySem.W.Frag) (H : Hp) : List (Key × V) → List (PyData × PyData) → Prop
  | nil : DgKv K H [] []
  | cons {k : Key} {v : V} {vs : List (Key × V)} {d : PyData} {ds : List (PyData × PyData)} : Dg K H v d → DgKv K H vs ds → DgKv K H ((k, v) :: vs) ((keyD k, d) :: ds)
end
section
variable {X : Cx} {pins : List (Addr × Obj)} {σ : L2.St} {H : Hp} {s : Shared}
theorem reads_key {h : Heap} {k : Key} {u : Value} (e : keyIs k u = true) : Reads h u (keyD k) [] := by
  rcases keyIs_shape e with ⟨i, t, rfl, rfl⟩ | ⟨x, t, rfl, rfl⟩
  · exact Reads.int i t
  · exact Reads.str x t
mutual
theorem Dg.rd (I : Inv X pins σ H s) : ∀ {d : PyData} {v : V} {u : Value}, Dg X.K H v d → RelV v u →
    ∃ as, Reads s.heap u d as ∧ sysModules ∉ as
  | _, _, _, .non, r => by cases r; exact ⟨[], .none, fun h => by cases h⟩
  | _, _, _, .bl b, r => by cases r; exact ⟨[], .bool b, fun h => by cases h⟩
  | _, _, _, .int i, r => by obtain ⟨t, rfl⟩ := r; exact ⟨[], .int i t, fun h => by cases h⟩
  | _, _, _, .str x, r => by obtain ⟨t, rfl⟩ := r; exact ⟨[], .str x t, fun h => by cases h⟩
  | _, _, _, .lst ne hs ha, r => by
    cases r
    obtain ⟨its, rv, ⟨o, n, ho, hc, _, hd⟩, _⟩ := I.list hs
    obtain ⟨as, hr, hn⟩ := DgAll.rd I ha rv
    refine ⟨_, Reads.list ho hc hd hr, fun hm => ?_⟩
    rcases List.mem_cons.mp hm with e | e
    · exact ne e.symm
    · exact hn e
  | _, _, _, .tup hs ha, r => by
    cases r
    obtain ⟨its, rv, ⟨o, ho, hc, n, hd⟩, _⟩ := I.tuple hs
    obtain ⟨as, hr, hn⟩ := DgAll.rd I ha rv
    exact ⟨_, Reads.tuple ho hc hd hr, hn⟩
  | _, _, _, .dct (a := a) hs ha, r => by
    cases r
    obtain ⟨_, ns, us, rk, o, es, ep, ho, hx, hd, _, hp, _⟩ := I.hok a _ hs
    obtain ⟨as, bs, r1, r2, n1, n2⟩ := DgKv.rd I ha rk hp
    refine ⟨_, Reads.dict ho hx.1 hd r1 r2, fun hm => ?_⟩
    rcases List.mem_append.mp hm with hm | hm
    · rcases List.mem_cons.mp hm with e | e
      · rw [← e] at ns
        simp at ns
      · exact n1 e
    · exact n2 hm
theorem DgAll.rd (I : Inv X pins σ H s) : ∀ {ds : List PyData} {vs : List V} {us : List Value}, DgAll X.K H vs ds → Vals vs us →
    ∃ as, ReadsAll s.heap us ds as ∧ sysModules ∉ as
  | _, _, _, .nil, r => by cases r; exact ⟨[], .nil, fun h => by cases h⟩
  | _, _, _, .cons h1 h2, r => by
    cases r with
    | cons r1 r2 =>
      obtain ⟨as, q1, n1⟩ := Dg.rd I h1 r1
      obtain ⟨bs, q2, n2⟩ := DgAll.rd I h2 r2
      exact ⟨_, ReadsAll.cons q1 q2, fun hm => (List.mem_append.mp hm).elim n1 n2⟩
theorem DgKv.rd (I : Inv X pins σ H s) : ∀ {ds : List (PyData × PyData)} {vs : List (Key × V)} {us : List (Key × Value)} {es : List DictEntry}, DgKv X.K H vs ds → KV vs us →
    Pairs (mixKind X.prog X.w) es us →
    ∃ as bs, ReadsAll s.heap (es.map (·.key)) (ds.map (·.1)) as ∧ ReadsAll s.heap (es.map (·.val)) (ds.map (·.2)) bs ∧ sysModules ∉ as ∧ sysModules ∉ bs
  | _, _, _, _, .nil, r, p => by
    cases r
    cases p
    exact ⟨[], [], ReadsAll.nil, ReadsAll.nil, (fun h => by cases h), (fun h => by cases h)⟩
  | _, _, _, _, .cons h1 h2, r, p => by
    cases r with
    | cons r1 r2 =>
      cases p with
      | cons p3 p4 p2 =>
        obtain ⟨e1, e2⟩ := r1
        obtain ⟨as, q1, n1⟩ := Dg.rd I h1 e2
        obtain ⟨bs, cs, q2, q3, n2, n3⟩ := DgKv.rd I h2 r2 p2
        rw [← p4] at q1
        have p3' := p3
        rw [← e1] at p3'
        exact ⟨_, _, ReadsAll.cons (reads_key p3') q2, ReadsAll.cons q1 q3, fun hm => (List.mem_append.mp hm).elim (fun z => by cases z) n2,
          fun hm => (List.mem_append.mp hm).elim n1 n3⟩
end
/-- repr(v), v data -/
def rRep (K : PySem.W.Frag) : List V → Hp → VK → Prop := fun xs H Q => ∃ v d, xs = [v] ∧ Dg K H v d ∧ d.showable = true ∧
  d.depth ≤ 40 ∧ d.shown.length ≤ sizeLine ∧ Q (.str d.shown) H
theorem call_rep {k : Nat} (hr : Room k X.A) (gA : Still X.A) : CallR X (.builtin "repr") (rRep X.K) := by
  intro pins s σ H xs us Q I r h
  obtain ⟨v, d, rfl, hd, hs, hz, hl, q⟩ := h
  cases r with
  | cons rx rr =>
    cases rr
    have hu := hr.units
    obtain ⟨as, rd, hn⟩ := Dg.rd I hd rx
    have leaf : ∀ {d : PyData} {t : Tok}, Q (.str d.shown) H → EP X pins σ Q (.str d.shown t) { s with toks := s.toks + 1 } :=
      fun {d t} q => ⟨.str d.shown, H, I.tok _, ⟨_, rfl⟩, q⟩
    cases hd with
    | non =>
      cases rx
      exact PySem.P.repr_of_none (leaf (d := .none) q)
    | bl b =>
      cases rx
      exact PySem.P.repr_of_bool (leaf (d := .bool b) q)
    | int i =>
      obtain ⟨t, rfl⟩ := rx
      exact PySem.P.repr_of_int (by simpa [PyData.showable] using hs) (leaf (d := .int i) q)
    | str x =>
      obtain ⟨t, rfl⟩ := rx
      refine PySem.P.repr_of_str (leaf (d := .str x) q) ?_
      simpa only [PyData.shown] using hl
    | lst ne h1 h2 =>
      cases rx
      exact repr_of_reads' rd hs (fun _ => hn) gA (by omega) (fun _ _ e => e) (fun h' u tk k => ⟨.str _, H, I.kept k, ⟨_, rfl⟩, q⟩) hl
    | tup h1 h2 =>
      cases rx
      exact repr_of_reads' rd hs (fun _ => hn) gA (by omega) (fun _ _ e => e) (fun h' u tk k => ⟨.str _, H, I.kept k, ⟨_, rfl⟩, q⟩) hl
    | dct h1 h2 =>
      cases rx
      exact repr_of_reads' rd hs (fun _ => hn) gA (by omega) (fun _ _ e => e) (fun h' u tk k => ⟨.str _, H, I.kept k, ⟨_, rfl⟩, q⟩) hl
/-- no new object stands where the modules stand -/
theorem Inv.low (I : Inv X pins σ H s) : sysModules < s.heap.objs.size := by
  have h1 := I.mod.glob.lt
  have h2 := I.ok.bsz
  have h3 := I.sz
  have h4 : sysModules < mainGlobals := by decide
  exact Nat.lt_of_lt_of_le (Nat.lt_trans h4 h1) (Nat.le_trans h2 h3)
/-- a list display, told to stand elsewhere than the modules -/
def tLs (t : TA) : TE := fun σ H Q => t σ H fun xs H1 => xs.length ≤ sizeLine ∧ ∀ p, H1 p = none → p ≠ sysModules → Q (.ref p) (upd H1 p (.lst xs))
theorem pe_ls {es : List Expr} {t : TA} {pos : Pos} (h : PA X es t) : PE X (.List es pos) (tLs t) := by
  refine ⟨fun pins s σ H Q I hq => wpAny_List_spliced (thn (h.run pos pins s σ H _ I hq) ?_)⟩
  rintro us s1 ⟨xs, H1, I1, r, z, q⟩
  have hz : us.length ≤ sizeLine := by rw [← r.length]; exact z
  have nw : H1 s1.heap.objs.size = none := I1.hok.fresh (Nat.le_refl _)
  refine ⟨hz, .ref s1.heap.objs.size, upd H1 s1.heap.objs.size (.lst xs), ?_, rfl, q _ nw (Nat.ne_of_gt (Inv.low I1))⟩
  exact I1.laid (t' := s1.toks) (fun b u e => Heap.get?_push_of_some _ e) (Nat.le_refl _) ⟨z, us, 0, r, Heap.get?_push_size _ rfl⟩
end
end Mq

namespace Mq
open PySem PySem.Spec PyProof.Rows L2
open PySem.W (Frag)
open PySem.Builtin.ObjectAttr
/-! ### own errors over Exception, with one field -/
abbrev exTail : List Value := [.type "Exception", .type "BaseException", .type "object"]
section
variable {prog : Program} {w : World} {A : Around} {E : Value → Shared → Prop} {R : Result → Shared → Prop}
  {hp : Heap} {g : Array GenState} {d : Drawn} {t : Nat} {os : OsState} {K : Frag}
theorem osa_first {name : Str} {tk : Tok} {v : Value} {x C t1 : Addr} (X : K.In hp)
    (hx : hp.get? x = some (PySem.W.excObj C t1 none .none)) (ho : PySem.W.excOver K C exTail = true)
    (hh : PySem.W.hasDictIn K C = true) (ht : PySem.W.takerIn K C name = some none)
    (hq : ∀ h' tk' dx, (∀ b o, b ≠ x → hp.get? b = some o → h'.get? b = some o) → hp.objs.size ≤ dx → dx ≠ x →
      h'.get? x = some (PySem.W.excObj C t1 (some dx) .none) → h'.Ns1 dx (fun y => if y = name then some v else none) →
      R (.ok (.ret .none)) ⟨h', g, d, tk', os⟩) :
    codeAny (model prog w) A (.call (.builtin "object.__setattr__") ⟨[.ref x, .str name tk, v], []⟩) R ⟨hp, g, d, t, os⟩ := by
  refine PySem.W.osa_openX (od := none) (s := ⟨hp, g, d, t, os⟩) F.store_Exception X ⟨hx, rfl, rfl, trivial⟩ ho ht (fun b => ?_)
  obtain ⟨cd, hc, hd'⟩ := PySem.W.any_some hh
  refine wpAny_bind (wpAny_pure (wpAny_bind (PySem.W.instanceDict_exc hx (PySem.W.looks_clsIn X hc) hd' ?_)))
  show wpAny _ _ (storeInDict hp.objs.size (.str name tk) name v) _ _ _
  have hxs : x ≠ hp.objs.size := Nat.ne_of_lt (Heap.lt_size hx)
  have hx1 : (hp.push (PySem.W.dictOf [] 0)).get? x = some (PySem.W.excObj C t1 none .none) := Heap.get?_push_of_some _ hx
  refine PySem.HandSPX.store_in_new ?_ ?_
  · exact ⟨_, #[], _, (Heap.get?_update_ne _ _ _ _ hxs.symm).trans (Heap.get?_push_at rfl rfl), rfl, (fun e he => absurd he (by simp)), fun _ => rfl⟩
  · intro h' tk' hn' hs
    refine hq h' tk' hp.objs.size (fun b o hb ho => ?_) (Nat.le_refl _) hxs.symm ?_ hn'
    · exact (hs.2 b (Nat.ne_of_lt (Heap.lt_size ho))).trans ((Heap.get?_update_ne _ _ _ _ hb).trans (Heap.get?_push_of_some _ ho))
    · exact (hs.2 x hxs).trans (Heap.get?_update_self _ hx1 rfl)
end
end Mq

namespace Mq
open PySem PySem.Spec PyProof.Rows L2
/-! ### the error that a suite holds: its class, its field -/
/-- what the class at D says, so that isinstance asks its errors rightly -/
structure HeldC (K : PySem.W.Frag) (D : Addr) : Prop where
  cl : (PySem.W.clsIn K D).isSome = true
  ga : PySem.W.findIn K (.ref D) "__getattribute__" = some (some (.builtin "BaseException.__getattribute__"))
  gg : PySem.W.findIn K (.ref D) "__getattr__" = some none
  sb : PySem.W.subIn K (.ref D) (.type "BaseException") = some true
  ca : PySem.W.findIn K (.ref D) "__class__" = some (some (.builtin "object.__class__"))
  sp : PySem.W.specialIn K (.builtin "object.__class__") "__get__" = some (some (.builtin "getset_descriptor.__get__"))
  tk : PySem.W.takesIn K (.builtin "object.__class__") = some true
  mo : PySem.W.mroIn K D (.type "object") = some true
/-- isinstance(e, c), e the error at a -/
def rHeld (K : PySem.W.Frag) (D a : Addr) (d : Option Addr) : List V → Hp → VK → Prop := fun xs H Q => ∃ (dd c : Addr) (fs : List (Str × V)) (b : Bool),
  xs = [.ref a, .ref c] ∧ d = some dd ∧ H dd = some (.xd fs) ∧ PySem.W.kitOne K (.ref D) (.ref c) = some b ∧ Q (.bl b) H
theorem call_held {X : Cx} {a D : Addr} {oe : Obj} {d : Option Addr} {pn : List (Addr × Obj)} (C : HeldC X.K D) (hz : Zc (.ref D) d oe)
    (hf : ∃ vs, oe.data = .fields vs) : CallR (X.suite a ((a, oe) :: pn)) (.builtin "isinstance") (rHeld X.K D a d) := by
  intro pins s σ H xs us Q I r h
  obtain ⟨dd, c, fs, b, rfl, rfl, hd, e, q⟩ := h
  cases r with
  | cons rx rr =>
    cases rr with
    | cons rt rr =>
      cases rr
      cases rx
      cases rt
      obtain ⟨hget, _⟩ := I.pin (a, oe) (List.mem_append.mpr (Or.inl List.mem_cons_self))
      obtain ⟨vs, hv⟩ := hf
      obtain ⟨mA, ⟨od, es, ep, ho, _⟩, _⟩ := (show ObjOk X.prog X.w H s.heap dd (.xd fs) from I.hok dd _ hd)
      have J : PySem.W.InstAt s.heap a oe D (some od) := by
        refine ⟨hget, hz.1, ?_, ?_⟩
        · unfold PySem.W.notCls
          rw [hv]
        · rw [hz.2]
          exact ho
      refine PySem.W.kia_one (PySem.W.kitx_exc C.cl C.ga C.gg C.sb C.ca C.sp C.tk C.mo) I.kIn J e (fun z => by cases z) (fun tk => ?_)
      exact ⟨.bl b, H, I.kept (t' := tk) (fun _ _ z => z), rfl, q⟩
/-! ### methods that raise, called within a try -/
section
variable {X : Cx} {CX : CXT} {k : Nat} {f C : Addr} {fd : FuncData} {ps : List Str} {sp : Sp}
  {E : L2.St → XK} {m : Str} {pos apos : Pos} {e o : Expr} {es : List Expr} {kws : List Keyword} {ta : TE} {t tk : TA}
def tMethT (C : Addr) (m : Str) (sp : Sp) (E : L2.St → XK) (ta : TE) (t : TA) : TE := fun σ H Q => ta σ H fun x H1 => ∃ a dx fs,
  x = .ref a ∧ H1 a = some (.ins C dx fs) ∧ fs.lookup m = none ∧ t σ H1 fun vs H2 => sp (x :: vs) H2 Q (E σ)
theorem pe_methT {pl : Sem Bool} (he : PE X o ta) (c : Cls X.K C) (hm : Meth X.K C m f)
    (F : FnOk X.prog X.w X.K X.mg X.base CX k f fd ps sp) (hr : Room k X.A) (hb : Binds X.K fd ps [])
    (hx : ∀ σ, PassesAt CX X σ (E σ)) (ha : PA X (e :: es) t)
    (hst : starEach (e :: es) X.env = (false, eval e X.env) :: starEach es X.env := by rfl)
    (hpl : (backTo pos (starEach es X.env)).any (·.1) = false := by rfl)
    (ht : eval (.Call (.Attribute o m apos) (e :: es) [] pos) X.env = (do
      let ov ← eval o X.env
      standAt apos.atName
      let (f, first) ← holding [ov] (getMethod ov m pl)
      callWith pos f first (backTo pos (starEach (e :: es) X.env)) (backToKw pos (keywordEach [] X.env))) := by rfl) :
    PE X (.Call (.Attribute o m apos) (e :: es) [] pos) (tMethT C m sp E ta t) := by
  refine ⟨fun pins s σ H Q I h => PySem.W.methodCall_KW (pl := pl) (thn (he.run pins s σ H _ I h) ?_) ht⟩
  rintro u s1 ⟨x, H1, I1, rx, a, dx, fs, rfl, ea, l, q⟩
  cases rx
  refine getmeth_ok I1 ea c hm l ?_
  refine PySem.W.callWith_K (first := [.ref a]) (h₀ := X.base) I.ok.mod.kin hm.kp (thn (ha.run pos pins s1 σ H1 _ I1 q) ?_) hst hpl
  rintro us s2 ⟨vs, H2, I2, r, q2⟩
  exact ⟨I2.kIn, run_fnS (us := .ref a :: us) (vs := .ref a :: vs) F hr hb (hx σ) I2 (.cons rfl r) q2⟩
end
end Mq
namespace Mq
open PySem PySem.Spec PyProof.Rows L2
section
variable {X : Cx} {CX : CXT} {k : Nat} {f C : Addr} {fd : FuncData} {ps ks : List Str} {sp : Sp}
  {E : L2.St → XK} {m : Str} {pos apos : Pos} {o : Expr} {kws : List Keyword} {ta : TE} {tk : TA}
  {g : List Value → List Value → List Value} {gV : List V → List V → List V}
def tMethK (C : Addr) (m : Str) (many : Nat) (sp : Sp) (gV : List V → List V → List V) (E : L2.St → XK) (ta : TE) (tk : TA) : TE := fun σ H Q => ta σ H fun x H1 => ∃ a dx fs,
  x = .ref a ∧ H1 a = some (.ins C dx fs) ∧ fs.lookup m = none ∧ tk σ H1 fun zs H2 => zs.length = many ∧ sp (gV [x] zs) H2 Q (E σ)
/-- o.m(k = v, ..), what is raised being wished for at the slots as they stand -/
theorem pe_methK {pl : Sem Bool} (he : PE X o ta) (c : Cls X.K C) (hm : Meth X.K C m f)
    (F : FnOk X.prog X.w X.K X.mg X.base CX k f fd ps sp) (hr : Room k X.A) (hb : KBn X.K fd ps 1 ks g gV)
    (hx : ∀ σ, PassesAt CX X σ (E σ)) (hkw : PK X kws tk)
    (hall : (backToKw pos (keywordEach kws X.env)).all (·.1.isSome) = true := by rfl)
    (hks : (backToKw pos (keywordEach kws X.env)).filterMap (·.1) = ks := by rfl)
    (hpl : ((backTo pos (starEach [] X.env)).any (·.1) || (backToKw pos (keywordEach kws X.env)).any (·.1.isNone)) = false := by rfl)
    (ht : eval (.Call (.Attribute o m apos) [] kws pos) X.env = (do
      let ov ← eval o X.env
      standAt apos.atName
      let (f, first) ← holding [ov] (getMethod ov m pl)
      callWith pos f first (backTo pos (starEach [] X.env)) (backToKw pos (keywordEach kws X.env))) := by rfl) :
    PE X (.Call (.Attribute o m apos) [] kws pos) (tMethK C m ks.length sp gV E ta tk) := by
  refine ⟨fun pins s σ H Q I h => PySem.W.methodCall_KW (pl := pl) (thn (he.run pins s σ H _ I h) ?_) ht⟩
  rintro u s1 ⟨x, H1, I1, rx, a, dx, fs, rfl, ea, l, q⟩
  cases rx
  refine getmeth_ok I1 ea c hm l ?_
  refine PySem.W.callWith_KW0 (first := [.ref a]) (h₀ := X.base) I.ok.mod.kin hm.kp hall (thn (hkw.run pos pins s1 σ H1 _ I1 q) ?_) hpl
  rintro ws s2 ⟨zs, H2, I2, rz, hl, q2⟩
  refine ⟨I2.kIn, ?_⟩
  rw [hks]
  have r1 : Vals [V.ref a] [Value.ref a] := .cons rfl .nil
  have r2 := hb.rel r1 rz
  have lw : ws.length = ks.length := rz.length.symm.trans hl
  show wpAny _ _ (call (.ref f) [.ref a] (ks.zip ws)) _ _ _
  refine wpAny_call (codeAny_mono (F.run X.A X.stack s2 H2 ⟨[.ref a], ks.zip ws⟩ (g [.ref a] ws) (gV [.ref a] zs) Q (E σ) hr I2.env0
    (hb.to s2 [.ref a] ws I2.kIn rfl lw) r2 q2) (fun r s' hq => ?_))
  match r, hq with
  | .error er, hq => exact hx σ pins H2 s2 er s' I2 hq
  | .ok (.ret u), hq => exact I2.after hq
  | .ok .next, hq => exact hq.elim
  | .ok .brk, hq => exact hq.elim
  | .ok .cont, hq => exact hq.elim
end
end Mq

namespace Mq
open PySem PySem.Spec PyProof.Rows L2
open SX (S)
/-! ### what the module leaves of the built-in names -/
structure Blt (mg : Str → Option Value) : Prop where
  len : mg "len" = none
  range : mg "range" = none
  isi : mg "isinstance" = none
  all : mg "all" = none
  any : mg "any" = none
  int : mg "int" = none
  str : mg "str" = none
  bool : mg "bool" = none
  tuple : mg "tuple" = none
  list : mg "list" = none
  repr : mg "repr" = none
  enumerate : mg "enumerate" = none
/-! ### heaps that keep what was told -/
theorem same_new {H : Hp} {p : Addr} {o : HO} (h : H p = none) : Same H (upd H p o) := fun b u e => by
  rw [upd_ne (ne_of_none e h)]
  exact e
theorem Same.tup {K : PySem.W.Frag} {H H' : Hp} {a : Addr} {xs : List V} (e : Same H H') (h : SqT K H a xs) : SqT K H' a xs := by
  rcases h with (h | ⟨o, h⟩) | h
  · exact Or.inl (Or.inl (e _ _ h))
  · exact Or.inl (Or.inr ⟨o, e _ _ h⟩)
  · exact Or.inr h
mutual
theorem Dg.same {K : PySem.W.Frag} {H H' : Hp} (e : Same H H') : ∀ {v : V} {d : PyData}, Dg K H v d → Dg K H' v d
  | _, _, .non => .non
  | _, _, .bl b => .bl b
  | _, _, .int i => .int i
  | _, _, .str x => .str x
  | _, _, .lst n h a => .lst n (e.seq h) (DgAll.same e a)
  | _, _, .tup h a => .tup (Same.tup e h) (DgAll.same e a)
  | _, _, .dct h a => .dct (e _ _ h) (DgKv.same e a)
theorem DgAll.same {K : PySem.W.Frag} {H H' : Hp} (e : Same H H') : ∀ {v : List V} {d : List PyData}, DgAll K H v d → DgAll K H' v d
  | _, _, .nil => .nil
  | _, _, .cons a b => .cons (Dg.same e a) (DgAll.same e b)
theorem DgKv.same {K : PySem.W.Frag} {H H' : Hp} (e : Same H H') : ∀ {v : List (Key × V)} {d : List (PyData × PyData)}, DgKv K H v d → DgKv K H' v d
  | _, _, .nil => .nil
  | _, _, .cons a b => .cons (Dg.same e a) (DgKv.same e b)
end
mutual
theorem Dp.same {K : PySem.W.Frag} {H H' : Hp} (e : Same H H') : ∀ {v : V} {d : PyData}, Dp K H v d → Dp K H' v d
  | _, _, .non => .non
  | _, _, .bl b => .bl b
  | _, _, .int i => .int i
  | _, _, .str x => .str x
  | _, _, .lst h a => .lst (e.seq h) (DpAll.same e a)
  | _, _, .tup h a => .tup (Same.tup e h) (DpAll.same e a)
theorem DpAll.same {K : PySem.W.Frag} {H H' : Hp} (e : Same H H') : ∀ {v : List V} {d : List PyData}, DpAll K H v d → DpAll K H' v d
  | _, _, .nil => .nil
  | _, _, .cons a b => .cons (Dp.same e a) (DpAll.same e b)
end
/-! ### the kind of a value -/
def kindOf : PyData → String
  | .none => "NoneType"
  | .bool _ => "bool"
  | .int _ => "int"
  | .str _ => "str"
  | .list _ => "list"
  | .tuple _ => "tuple"
  | .dict _ => "dict"
theorem ty_list {K : PySem.W.Frag} {H : Hp} {a : Addr} {xs : List V} (h : SqL K H a xs) : TyX K H (.ref a) (.type "list") := by
  rcases h with (h | ⟨o, h⟩) | ⟨o, its, n, h, hc, _⟩
  · exact .base (.lst h)
  · exact .base (.frz h)
  · exact .kList h hc
theorem ty_tup {K : PySem.W.Frag} {H : Hp} {a : Addr} {xs : List V} (h : SqT K H a xs) : TyX K H (.ref a) (.type "tuple") := by
  rcases h with (h | ⟨o, h⟩) | ⟨o, its, n, h, hc, _⟩
  · exact .base (.tup h)
  · exact .fTuple h
  · exact .kTuple h hc
theorem Dg.ty {K : PySem.W.Frag} {H : Hp} {v : V} {d : PyData} (h : Dg K H v d) : TyX K H v (.type (kindOf d)) := by
  cases h with
  | non => exact .base .non
  | bl b => exact .base (.bl b)
  | int i => exact .base (.int i)
  | str x => exact .base (.str x)
  | lst _ h _ => exact ty_list h
  | tup h _ => exact ty_tup h
  | dct h _ => exact .base (.dK h)
theorem Dp.ty {K : PySem.W.Frag} {H : Hp} {v : V} {d : PyData} (h : Dp K H v d) : TyX K H v (.type (kindOf d)) := by
  cases h with
  | non => exact .base .non
  | bl b => exact .base (.bl b)
  | int i => exact .base (.int i)
  | str x => exact .base (.str x)
  | lst h _ => exact ty_list h
  | tup h _ => exact ty_tup h
/-- isinstance(x, T), T a built-in class -/
theorem isi_ty {K : PySem.W.Frag} {x : V} {a b : String} {r : Bool} {H : Hp} {Q : VK} (h : TyX K H x (.type a)) (e : kitB a b = some r) (q : Q (.bl r) H) :
    rIsi K [x, .ty b] H Q := ⟨x, .ty b, _, _, r, rfl, .ty b, h, kit_ty e, q⟩
theorem kit_known (a b : String) (ha : a ∈ ["NoneType", "bool", "int", "str", "list", "tuple", "dict"]) (hb : b ∈ ["str", "tuple", "list", "bool", "dict"]) :
    kitB a b = some (decide (a = b)) := by
  have h : (["NoneType", "bool", "int", "str", "list", "tuple", "dict"].all fun a => ["str", "tuple", "list", "bool", "dict"].all fun b =>
      decide (kitB a b = some (decide (a = b)))) = true := by decide +kernel
  have h1 := List.all_eq_true.mp h a ha
  have h2 := List.all_eq_true.mp h1 b hb
  exact of_decide_eq_true h2
theorem kind_in (d : PyData) : kindOf d ∈ ["NoneType", "bool", "int", "str", "list", "tuple", "dict"] := by
  cases d <;> simp [kindOf]
/-! ### comprehensions whose turns change nothing -/
theorem walk_rng {n : Nat} : Walk (Itr 0 n) n (fun _ => True) (YFn fun i => .int (i : Nat)) :=
  walk_range.mono (fun _ h => h) (fun i H x H' _ _ y => ⟨y.1, by rw [y.2]; show V.int (0 + (i : Int)) = V.int (i : Int); rw [Int.zero_add]⟩)
theorem lc_map {wi : TI} {J : It} {n : Nat} {G : Hp → Prop} {Y : Nat → Hp → V → Hp → Prop} (w : Walk J n G Y) {g : TG} {te : TE} {vs : List Nat} {σ : L2.St} {H0 : Hp} {Q : VK}
    (f : Nat → V) (hn : n ≤ 1000000) (hw : ∀ R : It → Hp → Prop, (∀ H, Same H0 H → G H → R J H) → wi σ H0 R) (hG : ∀ H H', Same H0 H → G H → Same H H' → G H')
    (hs : ∀ i x H H' (R : V → Hp → Prop), i < n → Same H0 H → Y i H x H' → (∀ H4, Same H H4 → R (f i) H4) →
      g x (wipe σ vs) H' fun σ2 H2 => wipe σ2 vs = wipe σ vs ∧ te σ2 H2 R)
    (hd : ∀ D H', H0 D = none → Same H0 H' → H' D = some (.lst ((List.range n).map f)) → Q (.ref D) H') : tLc wi g tYes te vs σ H0 Q := by
  refine hw _ (fun H sm0 hg0 D hD => ?_)
  have hD0 := sm0.free hD
  let Nx : Nat → Hp → Prop := fun i H' => Same H H' ∧ H' D = some (.lst ((List.range i).map f))
  refine ⟨fun i m H' => m = n - i ∧ i ≤ n ∧ Nx i H', ⟨n, by simp, Nat.zero_le _, same_new hD, upd_same⟩, ?_⟩
  rintro i m H' ⟨rfl, hi, sm, hl⟩
  have hg := hG H H' sm0 hg0 sm
  have sm' := sm0.trans sm
  by_cases hlt : i < n
  · refine Or.inr ⟨w.goes i H' hlt hg, Nx (i + 1), fun H'' p => ⟨n - (i + 1), by omega, rfl, hlt, p⟩, fun x H'' y => ?_⟩
    refine hs i x H' H'' _ hlt sm' (w.yields i H' x H'' hlt hg y) (fun H4 s4 => ?_)
    refine ⟨_, s4 D _ hl, ?_, fun b o e => ?_, ?_⟩
    · rw [List.length_map, List.length_range]
      exact Nat.lt_of_lt_of_le (Nat.lt_of_lt_of_le hlt hn) (by decide)
    · rw [upd_ne (ne_of_none e hD)]
      exact s4 b o (sm b o e)
    · rw [upd_same, List.range_succ, List.map_append]
      rfl
  · have e : i = n := by omega
    subst e
    exact Or.inl ⟨w.stops H' hg, hd D H' hD0 sm' hl⟩
end Mq

namespace Mq
open PySem PySem.Spec PyProof.Rows L2
/-! ### enumerate(v), v a tuple -/
theorem meets_enumT (l : Addr) (items : Array Value) :
    Meets (Builtin.«enumerate.__new__» ⟨[.type "enumerate", .ref l], []⟩) (fun _ R s => s.heap.IsTuple l items ∧
      R (.ok (.ret (.ref (s.heap.push { cls := .type "tuple_iterator", data := .fields #[.ref l, .int 0 0] }).objs.size)))
        { s with heap := (s.heap.push { cls := .type "tuple_iterator", data := .fields #[.ref l, .int 0 0] }).push { cls := .type "enumerate", data := .fields #[.none, .bool false, .ref s.heap.objs.size, rawInt 0, .none, .none] } }) :=
  .of_wp fun prog w A R s h => by
    obtain ⟨hp, g, d, tk, os⟩ := s; obtain ⟨hl, h⟩ := h
    have hsub := sub_enumerate
    have hL : Heap.IsTuple (Shared.heap ⟨hp, g, d, tk, os⟩) l items := hl
    obtain ⟨o, ho, _⟩ := id hl
    wp_walk using AutoSeq1.wpAny_loadPart' ho
    refine wpAny_stack_any fun st => wpAny_pure ?_
    split
    · rename_i c _ _ _ _ _
      cases (c == Value.type "enumerate")
      · wp_walk using AutoSeq1.wpAny_loadPart' ho, wpAny_pyIter_tuple hL
        exact ⟨_, rfl, h⟩
      · wp_walk using AutoSeq1.wpAny_loadPart' ho, wpAny_pyIter_tuple hL
        exact ⟨_, rfl, h⟩
    · wp_walk using AutoSeq1.wpAny_loadPart' ho, wpAny_pyIter_tuple hL
      exact ⟨_, rfl, h⟩
theorem call_enumT {prog : Program} {w : World} {A : Around} {E : Value → Shared → Prop} {s : Shared} {l : Addr} {items : Array Value} {Q : Value → Shared → Prop} (hL : s.heap.IsTuple l items)
    (h : ∀ h', IsEnum h' (s.heap.objs.size + 1) s.heap.objs.size 0 .none → h'.IsTupleIter s.heap.objs.size l 0 → h'.objs.size = s.heap.objs.size + 2 →
      (∀ b o, s.heap.get? b = some o → h'.get? b = some o) → Q (.ref (s.heap.objs.size + 1)) { s with heap := h' }) :
    wpAny (model prog w) A (call (.type "enumerate") [.ref l]) Q E s := by
  refine callType_new F.called_enumerate (by decide) (F.typeCall_enumerate_1 _) (F.newCall_enumerate_1 _) (fun obj => F.args_object_init_2 obj _) F.entry_enumerate_new
    (meets_enumT l items) ⟨hL, ?_⟩
  have hz : (s.heap.push { cls := .type "tuple_iterator", data := .fields #[.ref l, .int 0 0] }).objs.size = s.heap.objs.size + 1 := Heap.size_push ..
  show _ ∧ _
  rw [hz]
  have he : IsEnum ((s.heap.push { cls := .type "tuple_iterator", data := .fields #[.ref l, .int 0 0] }).push
      { cls := .type "enumerate", data := .fields #[.none, .bool false, .ref s.heap.objs.size, rawInt 0, .none, .none] }) (s.heap.objs.size + 1) s.heap.objs.size 0 .none := by
    have := Heap.get?_push_size (s.heap.push { cls := .type "tuple_iterator", data := .fields #[.ref l, .int 0 0] })
      (o := { cls := .type "enumerate", data := .fields #[.none, .bool false, .ref s.heap.objs.size, rawInt 0, .none, .none] }) rfl
    rw [hz] at this; exact this
  refine ⟨⟨_, he, rfl⟩, h _ he ⟨_, Heap.get?_push_of_some _ (Heap.get?_push_size _ rfl), rfl, rfl⟩ (by rw [Heap.size_push, hz]) fun b o x => Heap.get?_push_of_some _ (Heap.get?_push_of_some _ x)⟩
/-- the tuple at a, each item in a new pair -/
def Iee (K : PySem.W.Frag) (a : Addr) : It :=
  ⟨fun i H => ∃ (xs : List V) (x : V), SqT K H a xs ∧ xs[i]? = some x, fun i H v H' => ∃ T x, v = .ref T ∧ H T = none ∧ H' = upd H T (.tup [.int (i : Nat), x]) ∧ ∀ xs, SqT K H a xs → xs[i]? = some x, fun i H => ∃ xs : List V, SqT K H a xs ∧ xs.length ≤ i⟩
theorem turn_enumT {P : Program} {w : World} {K : PySem.W.Frag} {elts : List Expr} {kk : Nat} {tpos : Pos} (a e it : Addr) (ha : a ≠ it) (hae : a ≠ e) :
    Turn P w K (.Tuple elts kk tpos) (Iee K a) [e, it] e (fun i h => (∃ old, IsEnum h e it ((i : Nat) : Int) old) ∧ h.IsTupleIter it a i ∧ e ≠ it) where
  mem := by simp
  obj := fun i h st b hb => by
    obtain ⟨⟨old, he⟩, ⟨o, ho, hc, hd⟩, _⟩ := st
    have e' : b = e ∨ b = it := by simpa using hb
    rcases e' with z | z
    · rw [z]; exact ⟨_, he, fun v q => nomatch q⟩
    · rw [z]; exact ⟨o, ho, fun v q => by rw [hd] at q; cases q⟩
  keep := fun i h h' st k => let ⟨⟨old, he⟩, hi, hne⟩ := st; ⟨⟨old, k e (by simp) _ he⟩, hi.at fun o q => k it (by simp) o q, hne⟩
  item := by
    intro X hP hw hK hc i pins s σ H E I hf st hg
    subst hP hw hK
    obtain ⟨⟨old, he⟩, hit, hne⟩ := st
    obtain ⟨xs, x, hq, hx⟩ := hg
    obtain ⟨its, rv, p, hz⟩ := I.tuple hq
    obtain ⟨u, hu, ru⟩ := rv.get hx
    have hel : e < s.heap.objs.size := Heap.lt_size he
    have hil : it < s.heap.objs.size := by obtain ⟨_, q, _⟩ := hit; exact Heap.lt_size q
    have hp : s.heap.IsTuple a its.toArray := p
    have hu' : its.toArray[i]? = some u := by simpa using hu
    have hlt : i < its.toArray.size := by
      rw [List.size_toArray]
      rcases Nat.lt_or_ge i its.length with h | h
      · exact h
      · rw [List.getElem?_eq_none h] at hu
        cases hu
    refine wpAny_pyNext_enum_itemD (n := its.toArray.size) (Draws.tuple (show X.A.in1.handled = none from I.ok.hd hc) it a ha its.toArray) he ⟨hit, hp⟩ hlt hne (by simp only [List.mem_cons, List.not_mem_nil, or_false, not_or]; exact ⟨hne, fun z => hae z.symm⟩) fun x' h' tk hP' ho hst' hT hsz hk => ?_
    have ex : x' = u := by
      have h1 : some x' = some u := by rw [← hP', hu']
      exact Option.some.inj h1
    subst ex
    refine ⟨_, rfl, wpAny_letOwnedTupleGo_enum (s := { s with heap := h', toks := tk + 1 }) ho fun h'' he' sb => ?_⟩
    have hT2 : h''.get? s.heap.objs.size = some { cls := .type "tuple", data := .seq #[.int i tk, x'] } := (sb.2 _ (Nat.ne_of_gt hel)).trans hT
    have new : ObjOk X.prog X.w (upd H s.heap.objs.size (.tup [.int (i : Nat), x])) h'' s.heap.objs.size (.tup [.int (i : Nat), x]) :=
      ⟨by show 2 ≤ sizeLine; decide, [.int i tk, x'], .cons ⟨_, rfl⟩ (.cons ru .nil), ⟨_, hT2, rfl, _, rfl⟩⟩
    have I1 : Inv X pins σ (upd H s.heap.objs.size (.tup [.int (i : Nat), x])) { s with heap := h'', toks := tk + 1 } :=
      I.turnedNew (ch := [e, it]) (fun b ob hb q => (sb.2 b (fun z => hb (by simp [z]))).trans (hk b ob (fun z => hb (by simp [z])) (fun z => hb (by simp [z])) q)) hf (Nat.le_refl _) new
    refine ⟨.ref s.heap.objs.size, _, I1, rfl, ⟨_, x, rfl, I.hok.fresh (Nat.le_refl _), rfl, fun ys hy => by rw [I.tuple_inj hy hq]; exact hx⟩, ⟨⟨x', ?_⟩, hst'.1.at fun o q => (sb.2 it (Ne.symm hne)).trans q, hne⟩, fun b hb => ?_⟩
    · have e1 : ((i + 1 : Nat) : Int) = (i : Int) + 1 := by omega
      rw [e1]; exact he'
    · have hb' : b < s.heap.objs.size := by
        have e' : b = e ∨ b = it := by simpa using hb
        rcases e' with z | z
        · rw [z]; exact hel
        · rw [z]; exact hil
      rw [upd_ne (Nat.ne_of_lt hb')]
      exact (hf b hb).1
  done := by
    intro X hP hw hK hc i pins s σ H E I hf st hg
    subst hP hw hK
    obtain ⟨⟨old, he⟩, hit, hne⟩ := st
    obtain ⟨xs, hq, hx⟩ := hg
    obtain ⟨its, rv, p, hz⟩ := I.tuple hq
    obtain ⟨f0, f1, f2, f3, f4, f5⟩ := hf it (by simp)
    have hl := rv.length
    have hp : s.heap.IsTuple a its.toArray := p
    have D : Draws X.prog X.w X.A.in1 it [it, a] i (fun _ _ => False) (fun j h => j = i ∧ h.IsTupleIter it a i ∧ h.IsTuple a its.toArray) :=
      { live := fun _ _ st => let ⟨o, ho, _⟩ := st.2.1; ⟨o, ho⟩
        frame := fun _ _ _ st hk => ⟨st.1, st.2.1.at fun o e => hk it (by simp) o e, st.2.2.at fun o e => hk a (by simp) o e⟩
        item := fun j s Q E hi st hQ => absurd hi (by rw [st.1]; exact Nat.lt_irrefl i)
        done := fun s Q E st hE => wpAny_nextOf_tuple_end (show X.A.in1.handled = none from I.ok.hd hc) st.2.1 st.2.2 (by simp; omega) hE }
    exact wpAny_pyNext_enum_endD D he ⟨rfl, hit, hp⟩ fun h' eb => ⟨rfl, I.turned (t' := s.toks) (fun b o hb q => eb b o hb q) f0 f1 f3 f4 f5⟩
  self := fun A i s Q E st h => let ⟨⟨_, he⟩, _⟩ := st; wpAny_pyIter_enum he h
def iEnumT (K : PySem.W.Frag) (ta : TA) : TI := fun σ H R => ta σ H fun vs H1 => ∃ a xs, vs = [.ref a] ∧ SqT K H1 a xs ∧ R (Iee K a) H1
theorem pi_enumT {X : Cx} {e : Expr} {ta : TA} {p pos tpos : Pos} {elts : List Expr} {kk : Nat} (hg : Gl X "enumerate") (hm : X.mg "enumerate" = none) (ha : PA X [e] ta) (hs : starEach [e] X.env = [(false, eval e X.env)] := by rfl) :
    PI X (.Tuple elts kk tpos) (.Call (.Name "enumerate" p) [e] [] pos) (iEnumT X.K ta) := by
  refine ⟨fun pins s σ H R I h => ?_⟩
  refine Call_ (ld_blt I hg hm boot_enumerate (PyProof.Rows.callWith_type1 (thn (ha.run pos pins s σ H _ I h) fun us s1 ⟨vs, H1, I1, r1, q1⟩ => ?_) hs rfl))
  obtain ⟨a, xs, ex, hq, q⟩ := q1
  subst ex
  cases r1 with
  | cons r rr =>
    cases rr
    cases r
    obtain ⟨its, rv, p', hz⟩ := I1.tuple hq
    have hp : s1.heap.IsTuple a its.toArray := p'
    have hal : a < s1.heap.objs.size := by obtain ⟨_, q, _⟩ := hp; exact Heap.lt_size q
    refine call_enumT hp fun h' he hit hsz hk => wpAny_pyIter_enum he ?_
    have I2 : Inv X pins σ H1 { s1 with heap := h' } := I1.kept (t' := s1.toks) hk
    refine ⟨s1.heap.objs.size + 1, [s1.heap.objs.size + 1, s1.heap.objs.size], _, _, H1, rfl, I2, turn_enumT a (s1.heap.objs.size + 1) s1.heap.objs.size (Nat.ne_of_lt hal) (Nat.ne_of_lt (Nat.lt_succ_of_lt hal)), ⟨⟨.none, he⟩, hit, Nat.succ_ne_self _⟩, fun b hb => ?_, q⟩
    have e' : b = s1.heap.objs.size + 1 ∨ b = s1.heap.objs.size := by simpa using hb
    have hle : s1.heap.objs.size ≤ b := by
      rcases e' with z | z
      · rw [z]; exact Nat.le_add_right _ _
      · rw [z]; exact Nat.le_refl _
    exact I1.fpOk hle (I1.hok.fresh hle)
/-- the same, where what is walked is laid on the way -/
theorem lc_mapJ {wi : TI} {n : Nat} {Y : Nat → Hp → V → Hp → Prop} {g : TG} {te : TE} {vs : List Nat} {σ : L2.St} {H0 : Hp} {Q : VK}
    (f : Nat → V) (hn : n ≤ 1000000) (hw : ∀ R : It → Hp → Prop, (∀ (J : It) (G : Hp → Prop) (H : Hp), Walk J n G Y → (∀ H', G H → Same H H' → G H') → Same H0 H → G H → R J H) → wi σ H0 R)
    (hs : ∀ i x H H' (R : V → Hp → Prop), i < n → Same H0 H → Y i H x H' → (∀ H4, Same H H4 → R (f i) H4) →
      g x (wipe σ vs) H' fun σ2 H2 => wipe σ2 vs = wipe σ vs ∧ te σ2 H2 R)
    (hd : ∀ D H', H0 D = none → Same H0 H' → H' D = some (.lst ((List.range n).map f)) → Q (.ref D) H') : tLc wi g tYes te vs σ H0 Q := by
  refine hw _ (fun J G H w hG sm0 hg0 D hD => ?_)
  have hD0 := sm0.free hD
  let Nx : Nat → Hp → Prop := fun i H' => Same H H' ∧ H' D = some (.lst ((List.range i).map f))
  refine ⟨fun i m H' => m = n - i ∧ i ≤ n ∧ Nx i H', ⟨n, by simp, Nat.zero_le _, same_new hD, upd_same⟩, ?_⟩
  rintro i m H' ⟨rfl, hi, sm, hl⟩
  have hg := hG H' hg0 sm
  have sm' := sm0.trans sm
  by_cases hlt : i < n
  · refine Or.inr ⟨w.goes i H' hlt hg, Nx (i + 1), fun H'' p => ⟨n - (i + 1), by omega, rfl, hlt, p⟩, fun x H'' y => ?_⟩
    refine hs i x H' H'' _ hlt sm' (w.yields i H' x H'' hlt hg y) (fun H4 s4 => ?_)
    refine ⟨_, s4 D _ hl, ?_, fun b o e => ?_, ?_⟩
    · rw [List.length_map, List.length_range]
      exact Nat.lt_of_lt_of_le (Nat.lt_of_lt_of_le hlt hn) (by decide)
    · rw [upd_ne (ne_of_none e hD)]
      exact s4 b o (sm b o e)
    · rw [upd_same, List.range_succ, List.map_append]
      rfl
  · have e : i = n := by omega
    subst e
    exact Or.inl ⟨w.stops H' hg, hd D H' hD0 sm' hl⟩
end Mq

namespace Mq
open PySem PySem.Spec PyProof.Rows L2
/-- a comprehension without a test over what w walks -/
theorem lc_yes {J : It} {n : Nat} {G : Hp → Prop} {Y : Nat → Hp → V → Hp → Prop} (w : Walk J n G Y) {g : TG} {te : TE} {vs : List Nat} {σ : L2.St} {H1 : Hp} {D : Addr} {Qd : Hp → Prop} (Pv : Nat → Hp → Prop)
    (h0 : Pv 0 (upd H1 D (.lst []))) (hG : ∀ i H, i ≤ n → Pv i H → G H)
    (hs : ∀ i x H H', i < n → Pv i H → Y i H x H' → g x (wipe σ vs) H' fun σ2 H2 => wipe σ2 vs = wipe σ vs ∧ te σ2 H2 fun y H4 => ∃ acc, H4 D = some (.lst acc) ∧ acc.length < sizeLine ∧ Pv (i + 1) (upd H4 D (.lst (acc ++ [y]))))
    (hd : ∀ H, Pv n H → Qd H) :
    ∃ W : Nat → Nat → Hp → Prop, (∃ m, W 0 m (upd H1 D (.lst []))) ∧ ∀ i m H, W i m H →
      (J.stop i H ∧ Qd H) ∨ (J.go i H ∧ ∃ Nx : Hp → Prop, (∀ H', Nx H' → ∃ m', m' < m ∧ W (i + 1) m' H') ∧ ∀ x H', J.yld i H x H' → g x (wipe σ vs) H' fun σ2 H2 => wipe σ2 vs = wipe σ vs ∧ tYes σ2 H2 fun b H3 =>
        if b = true then te σ2 H3 fun y H4 => ∃ acc, H4 D = some (.lst acc) ∧ acc.length < sizeLine ∧ Nx (upd H4 D (.lst (acc ++ [y]))) else Nx H3) :=
  lc_it (tt := tYes) w Pv h0 hG hs hd
end Mq

namespace Mq
open PySem PySem.Spec PyProof.Rows L2
/-- isinstance(e, c), the held error's class being told among the values -/
theorem call_heldX {X : Cx} {a D : Addr} {oe : Obj} {cls : Value} {d : Option Addr} {pn : List (Addr × Obj)} (C : HeldC X.K D) (hz : Zc cls d oe)
    (hf : ∃ vs, oe.data = .fields vs) : CallR (X.suite a ((a, oe) :: pn)) (.builtin "isinstance") (fun xs H Q => cls = .ref D ∧ rHeld X.K D a d xs H Q) := by
  intro pins s σ H xs us Q I r h
  obtain ⟨rfl, h⟩ := h
  exact call_held C hz hf pins s σ H xs us Q I r h
/-! ### lists whose items are equal, told by != and == -/
theorem op_neFl {X : Cx} (hu : X.A.units + 64 < cLine) : OpR X (compareOp .NotEq) (fun x y H Q => ∃ a b xs, x = .ref a ∧ y = .ref b ∧ SqL X.K H a xs ∧ SqL X.K H b xs ∧ (∀ v ∈ xs, flatB v = true) ∧ Q (.bl false) H) := by
  intro pins s σ H x y v u Q I rx ry h
  obtain ⟨a, b, xs, rfl, rfl, ha, hb, hf, q⟩ := h
  cases (show v = Value.ref a from rx)
  cases (show u = Value.ref b from ry)
  obtain ⟨us, r1, p1, _⟩ := I.list ha
  obtain ⟨ws, r2, p2, _⟩ := I.list hb
  have hsz : us.toArray.size = ws.toArray.size := by
    rw [List.size_toArray, List.size_toArray, ← r1.length, ← r2.length]
  have he : ∀ j (h1 : j < us.toArray.size) (h2 : j < ws.toArray.size), SeqAt.EqAt X.A.in1 s us.toArray[j] ws.toArray[j] true := by
    intro j h1 h2
    have h1' : j < us.length := by simpa using h1
    have h2' : j < ws.length := by simpa using h2
    have e1 : xs.length = us.length := r1.length
    obtain ⟨u1, g1, k1⟩ := r1.get (i := j) (x := xs[j]'(by omega)) (List.getElem?_eq_getElem (by omega))
    obtain ⟨u2, g2, k2⟩ := r2.get (i := j) (x := xs[j]'(by omega)) (List.getElem?_eq_getElem (by omega))
    rw [List.getElem?_eq_getElem h1'] at g1
    rw [List.getElem?_eq_getElem h2'] at g2
    have k := eqAt_same (A := X.A.in1) (s := s) k1 k2 (hf _ (List.getElem_mem _))
    cases g1
    cases g2
    simpa using k
  have k := SeqAt.RcNeAt.lists (A := X.A) (s := s) (e := fun _ => true) p1.isList p2.isList hsz (by omega) he
  have z : (!(List.range us.toArray.size).all fun _ => true) = false := by rw [show ((List.range us.toArray.size).all fun _ => true) = true from List.all_eq_true.mpr fun _ _ => rfl]; rfl
  rw [z] at k
  exact k X.prog X.w _ _ ⟨.bl false, H, I, rfl, q⟩
/-- list(v), v a tuple: the new list is told to stand elsewhere than the modules -/
theorem call_lsN {X : Cx} : CallR X (.type "list") (fun xs H Q => ∃ p ys, xs = [.ref p] ∧ SqT X.K H p ys ∧ ∀ l, H l = none → l ≠ sysModules → Q (.ref l) (upd H l (.lst ys))) := by
  intro pins s σ H xs us Q I r hw
  obtain ⟨t, ys, rfl, ht, k⟩ := hw
  cases r with
  | cons r0 rr =>
    cases rr
    cases r0
    obtain ⟨its, rv, pl, hz⟩ := I.tuple ht
    have hlen := rv.length
    obtain ⟨o, ho, hc, n, hd⟩ := pl
    refine call_list_seq t (.inr rfl) ho hc hd (fun h2 c2 kp e => ?_) (by rw [List.size_toArray]; omega)
    have new : ObjOk X.prog X.w (upd H s.heap.objs.size (.lst ys)) h2 s.heap.objs.size (.lst ys) := ⟨hz, its, c2, rv, e⟩
    refine ⟨.ref _, upd H s.heap.objs.size (.lst ys), ?_, rfl, ?_⟩
    · exact I.laid (t' := s.toks) kp (Nat.le_refl _) new
    · exact k _ (I.hok.fresh (Nat.le_refl _)) (Nat.ne_of_gt (Inv.low I))
/-! ### how long what is shown can be -/
theorem small_short : ∀ n : Nat, n ≤ 1000 → (PyData.int (n : Nat)).shown.length ≤ 13 ∧ (PyData.int (n : Nat)).showable = true ∧ (PyData.int (n : Nat)).weight ≤ 20 := by
  have h : ((List.range 1001).all fun n => decide ((PyData.int (n : Nat)).shown.length ≤ 13) && ((PyData.int (n : Nat)).showable && decide ((PyData.int (n : Nat)).weight ≤ 20))) = true := by decide +kernel
  intro n hn
  have h1 := List.all_eq_true.mp h n (List.mem_range.mpr (by omega))
  obtain ⟨a, b⟩ := Bool.and_eq_true_iff.mp h1
  obtain ⟨b, c⟩ := Bool.and_eq_true_iff.mp b
  exact ⟨of_decide_eq_true a, b, of_decide_eq_true c⟩
theorem shown_fits {d : PyData} (h1 : d.canLay0 = true) (h2 : d.depth ≤ 64) (h3 : d.weight ≤ 1000000) (h4 : d.intsShort 13 = true) : d.shown.length ≤ sizeLine := by
  have h5 : d.weight ≤ 2 ^ 20 := Nat.le_trans h3 (by decide)
  have hl : PyData.layable0 d = true := by
    unfold PyData.layable0
    rw [h1, decide_eq_true h2, decide_eq_true h5]
    rfl
  exact Nat.le_trans (PyProof.Rows.shown_le13 hl h4) (by decide)
end Mq

namespace Mq
open PySem PySem.Spec PyProof.Rows L2
/-! ### a text, so many times -/
def repS (x : Str) (n : Nat) : Str := ⟨(List.replicate n x.cps).foldl (· ++ ·) #[]⟩
theorem op_mulS {X : Cx} : OpR X (binaryOp .Mult) (fun x y H Q => ∃ (z : Str) (n : Nat), x = .str z ∧ y = .int (n : Nat) ∧ 2 ≤ n ∧ n ≤ 1000 ∧ 1 ≤ z.length ∧ z.length ≤ 1000 ∧ (repS z n).length ≤ sizeLine ∧ Q (.str (repS z n)) H) := by
  intro pins s σ H x y v u Q I rx ry h
  obtain ⟨z, n, rfl, rfl, h1, h2, h3, h4, h5, q⟩ := h
  obtain ⟨t, rfl⟩ := rx
  obtain ⟨t', rfl⟩ := ry
  have hm : z.length * n ≤ 1000 * 1000 := Nat.mul_le_mul h4 h2
  have e1 : decide (((n : Nat) : Int) < -(2 ^ 63 : Int)) = false := decide_eq_false (by omega)
  have e2 : decide (((n : Nat) : Int) ≥ 2 ^ 63) = false := decide_eq_false (by omega)
  have e3 : (((n : Nat) : Int) == 1) = false := by
    rw [beq_eq_false_iff_ne]
    omega
  have e4 : (z.length == 0) = false := by
    rw [beq_eq_false_iff_ne]
    omega
  refine P.mul_str (by rw [e1, e2]; rfl) (fun _ _ => ?_) (fun _ _ => ?_) ?_
  · have hd : (1000 : Int) ≤ (2 ^ 63 - 1) / ((n : Nat) : Int) := by
      refine (Int.le_ediv_iff_mul_le (by omega)).mpr ?_
      omega
    omega
  · rw [Int.toNat_natCast]
    unfold Builtin.Str.tooLong
    exact decide_eq_false (by have : (1000 * 1000 : Nat) ≤ sizeLine := by decide
                              omega)
  · rw [if_neg (show ¬ ((n : Nat) : Int) < 1 by omega), e3, e4]
    exact ⟨h5, .str (repS z n), H, I.tok _, ⟨_, rfl⟩, q⟩
end Mq


namespace MqE_thing
open PySem PySem.Spec PyProof.Rows L2 Mq PySem.W PySem.Calls
/-! ### errors whose one parameter is thing -/
def iA (p1 p2 : Pos) : Arguments := { posonlyargs := [], args := [{ arg := "self", annotation := none, pos := p1 }, { arg := "thing", annotation := none, pos := p2 }], vararg := none, kwonlyargs := [], kw_defaults := [], kwarg := none, defaults := [] }
def iB (q1 q2 q3 q4 : Pos) : List Stmt := [.Assign [.Attribute (.Name "self" q1) "thing" q2] (.Name "thing" q3) q4]
def iS : Scope := { kind := .function, names := [(PySem.Str.ofString "self", .local), (PySem.Str.ofString "thing", .local)], isGenerator := false, isCoroutine := false, more := [] }
/-- what the written part says of the class x at C, and of its __init__ at fI -/
structure Txt (K : Frag) (mg : Str → Option Value) (x qual : Str) (C fI : Addr) : Prop where
  gC : mg x = some (.ref C)
  kC : keepIn K (.ref C) = true
  ex : excInitIn K C exTail "Exception.__new__" = true
  ov : excOver K C exTail = true
  hdC : hasDictIn K C = true
  tk : takerIn K C "thing" = some none
  sa : findIn K (.ref C) "__setattr__" = some (some (.builtin "object.__setattr__"))
  iC : findIn K (.ref C) "__init__" = some (some (.ref fI))
  tC : typeIn K (.ref fI) = some (.type "function")
  exC : subIn K (.ref C) (.type "BaseException") = some true
  tyC : typeIn K (.ref C) = some (.type "type")
  fn : ∃ (oc : Value) (od : Option Addr) (doc pm : Value) (an : Option Addr) (cdv ct : Value) (osl : Array (Option Value)) (p1 p2 q1 q2 q3 q4 : Pos),
    K.lookup fI = some ⟨oc, od, .func (fnOf "__init__" qual (iA p1 p2) (iB q1 q2 q3 q4) iS .none .none doc pm an cdv ct), osl⟩ ∧ codeIn K cdv qual = true
theorem ld_loc {M : Model} {s : Shared} {name : Str} {scope : Scope} {L a : Addr} {cd : Value} {m : Str → Option Value} {y : Str} {pos : Pos} {v : Value}
    {Q : Value → Shared → Prop} {A : Around} {E : Value → Shared → Prop} (hn : s.heap.Ns L m) (hv : m y = some v) (h : Q v s)
    (hk : scope.kind = .function := by rfl) (hl : (envOfC name scope L a cd).kindOf y = some .local := by rfl) (hd : (y == ("__debug__" : Str)) = false := by decide) :
    wpAny M A (eval (.Name y pos) (envOfC name scope L a cd)) Q E s := wpAny_Name (wpAny_loadName_local hk hl hn hv h) hd
/-- what __init__ leaves of a new error at e -/
structure Filled (h h' : Heap) (e C dx t1 : Addr) (v : Value) : Prop where
  keep : ∀ b o, b ≠ e → h.get? b = some o → h'.get? b = some o
  obj : h'.get? e = some (excObj C t1 (some dx) .none)
  big : h.objs.size ≤ dx
  ne : dx ≠ e
  ns : h'.Ns1 dx (fun y => if y = "thing" then some v else none)
/-- a made error -/
structure Made (h h' : Heap) (e C d : Addr) (v : Value) : Prop where
  keep : ∀ b o, h.get? b = some o → h'.get? b = some o
  new : h.objs.size ≤ e
  obj : ∃ oe vs, h'.get? e = some oe ∧ oe.cls = .ref C ∧ oe.dict = some d ∧ oe.data = .fields vs ∧ vs[1]? = some .none
  big : h.objs.size ≤ d
  ne : d ≠ e
  ns : h'.Ns1 d (fun y => if y = "thing" then some v else none)
section
variable {prog : Program} {w : World} {A : Around} {E : Value → Shared → Prop} {R : Result → Shared → Prop} {s : Shared} {K : Frag} {mg : Str → Option Value} {x qual : Str} {C fI : Addr}
theorem init_run (T : Txt K mg x qual C fI) {e t0 : Addr} {v : Value} (X : K.In s.heap) (lim : s.heap.NoLimit) (he : s.heap.get? e = some (excObj C t0 none .none)) (room : A.depth < recursionLimit)
    (hq : ∀ h' tk dx, Filled s.heap h' e C dx t0 v → R (.ok (.ret .none)) { s with heap := h', toks := tk }) :
    codeAny (model prog w) A (.call (.ref fI) ⟨[.ref e, v], []⟩) R s := by
  obtain ⟨oc, od, doc, pm, an, cdv, ct, osl, p1, p2, q1, q2, q3, q4, ho, hcd⟩ := T.fn
  refine Att.call_fn (binds := [("self", .ref e), ("thing", v)]) X lim ho hcd room (BindsTo.of_eq (by first | rfl | with_unfolding_all rfl)) (by first | rfl | decide | with_unfolding_all rfl) (fun s₁ IC => ?_) rfl rfl rfl
  obtain ⟨h₁, tk₁, rfl⟩ := IC.toInCall.same
  have k : ∀ b o, s.heap.get? b = some o → h₁.get? b = some o := IC.toInCall.keep
  have hn := IC.toInCall.ns
  have X₁ : K.In h₁ := X.keeps k
  have he₁ := k _ _ he
  show wpAny _ _ (execs _ _) _ _ _
  refine wpAny_execs_cons (plainObj_wpAny_Assign_Attribute ?_)
  refine ld_loc (v := v) hn (by first | rfl | with_unfolding_all rfl | kernel_rfl) (ld_loc (v := .ref e) hn (by first | rfl | with_unfolding_all rfl | kernel_rfl) ?_)
  refine set_plain X₁ (ox := excObj C t0 none .none) (od := none) ⟨he₁, rfl, rfl, trivial⟩ T.sa ?_
  refine osa_first X₁ he₁ T.ov T.hdC T.tk (fun h₃ tk₃ dx k₃ dn dne he₃ hn₃ => ?_)
  show wpAny _ _ (execs _ _) _ _ _
  have z : s.heap.objs.size < h₁.objs.size := hn.lt
  exact wpAny_execs_nil (hq h₃ tk₃ dx ⟨fun b o hb e => k₃ b o hb (k b o e), he₃, Nat.le_of_lt (Nat.lt_of_lt_of_le z dn), dne, hn₃⟩)
theorem made_run (T : Txt K mg x qual C fI) {v : Value} (X : K.In s.heap) (lim : s.heap.NoLimit) (room : A.depth + 1 < recursionLimit)
    (hq : ∀ h' tk e d, Made s.heap h' e C d v → R (.ok (.ret (.ref e))) { s with heap := h', toks := tk }) :
    codeAny (model prog w) A (.call (.ref C) ⟨[v], []⟩) R s := by
  obtain ⟨nm, N, qn, bs, bm, hdct, sn, sub, ab, col, dd, k0, k1, k2, k3, k5, hC, hT⟩ := excInit_of X T.ex
  obtain ⟨hp, g, dr, tk, os⟩ := s
  have k : ∀ b o, hp.get? b = some o → ((hp.push (kdv_tup [v])).push (HandSPX.excO C hp.objs.size)).get? b = some o := fun b o e => Heap.get?_push_of_some _ (Heap.get?_push_of_some _ e)
  have hget : ((hp.push (kdv_tup [v])).push (HandSPX.excO C hp.objs.size)).get? (hp.objs.size + 1) = some (excObj C hp.objs.size none .none) := by heap_get
  refine HandSPX.call_own F.excBase_Exception hT hC (looks_findIn X T.iC) (fun self => bind_fn X self T.tC) (by rw [sizeLine_eq]; exact (by decide : 1 ≤ 16777216)) ?_
  refine init_run (s := ⟨(hp.push (kdv_tup [v])).push (HandSPX.excO C hp.objs.size), g, dr, tk, os⟩) T (X.keeps k) (lim.keeps k) hget ?_ (fun h' tk' dx M => ?_)
  · show A.depth + 1 < recursionLimit
    exact room
  · obtain ⟨k', hx, dn, dne, hns⟩ := M
    have old : ∀ b o, hp.get? b = some o → h'.get? b = some o := fun b o e => k' b o (Nat.ne_of_lt (Nat.lt_succ_of_lt (Heap.lt_size e))) (k b o e)
    have z : hp.objs.size + 1 + 1 ≤ dx := by
      have q := dn
      rw [Heap.size_push, Heap.size_push] at q
      exact q
    exact ⟨rfl, hq h' tk' (hp.objs.size + 1) dx ⟨old, Nat.le_succ _, ⟨_, _, hx, rfl, rfl, rfl, rfl⟩, Nat.le_trans (Nat.le_trans (Nat.le_succ _) (Nat.le_succ _)) z, dne, hns⟩⟩
end
theorem relO_f {v : V} {v' : Value} (r : RelV v v') (f : Str) : RelO (List.lookup f [(("thing" : Str), v)]) (if f = "thing" then some v' else none) := by
  by_cases hw : f = "thing"
  · subst hw
    rw [if_pos rfl]
    have q : List.lookup ("thing" : Str) [(("thing" : Str), v)] = some v := by simp [List.lookup]
    rw [q]
    exact r
  · rw [if_neg hw]
    have qw : (f == ("thing" : Str)) = false := by simpa using hw
    have q2 : List.lookup f [(("thing" : Str), v)] = none := by simp [List.lookup, qw]
    rw [q2]
    trivial
section
variable {X : Cx} {C fI : Addr} {x qual : Str}
/-- x(e) -/
def tMk (C : Addr) (ta : TA) : L2.St → Hp → XK → Prop := fun σ H Q => ta σ H fun vs H1 => ∃ v, vs = [v] ∧ ∀ d, H1 d = none → Q (.ref C) (some d) (upd H1 d (.xd [(("thing" : Str), v)]))
theorem pmk {a : Expr} {ta : TA} {p pos : Pos} {k : Nat} (T : Txt X.K X.mg x qual C fI) (hr : Room k X.A) (ha : PA X [a] ta) (hg : Gl X x := by rfl) (hdb : (x == ("__debug__" : Str)) = false := by decide)
    (he : starEach (a :: []) X.env = (false, eval a X.env) :: starEach [] X.env := by rfl) (hpl : (backTo pos (starEach [] X.env)).any (·.1) = false := by rfl) :
    PMk X (.Call (.Name x p) [a] [] pos) (tMk C ta) := by
  intro pins s σ H Q I h
  refine wpAny_Call_Name_kw (ld_glob I hg T.gC ?_ hdb)
  refine callWith_K (h₀ := X.base) I.ok.mod.kin T.kC (thn (ha.run pos pins s σ H _ I h) fun us s1 hh => ?_) he hpl
  obtain ⟨vs, H1, I1, r1, v, ev, q1⟩ := hh
  subst ev
  refine ⟨I1.kIn, ?_⟩
  cases r1 with
  | cons rv rn =>
    rename_i v' us'
    cases rn
    show wpAny _ _ (call (.ref C) [v']) _ _ _
    have hlim := I1.nolimit
    obtain ⟨hp, g, dr, tk, os⟩ := s1
    refine wpAny_call (made_run T I1.kIn hlim (by have := hr.dp; omega) (fun h' tk' e d M => ?_))
    show MkP X pins σ Q (.ref e) ⟨h', g, dr, tk', os⟩
    obtain ⟨oe, fv, hoe, hc, hd, hdat, h1⟩ := M.obj
    have hns := M.ns
    obtain ⟨G', g1, g2⟩ := restrict h' fun b => decide (b ≠ e)
    have gk : ∀ b, b ≠ e → G'.get? b = h'.get? b := fun b hb => g1 b (decide_eq_true hb)
    have ge : G'.get? e = none := g2 e (by simp)
    have old : ∀ b o, hp.get? b = some o → G'.get? b = some o := fun b o q => (gk b (Nat.ne_of_lt (Nat.lt_of_lt_of_le (Heap.lt_size q) M.new))).trans (M.keep b o q)
    have ob : ObjOk X.prog X.w (upd H1 d (.xd [(("thing" : Str), v)])) G' d (.xd [(("thing" : Str), v)]) :=
      ⟨_, hns.at (fun o q => (gk d M.ne).trans q), fun f => relO_f rv f⟩
    have J : L2.Inv X pins σ (upd H1 d (.xd [(("thing" : Str), v)])) ⟨G', g, dr, tk', os⟩ := I1.laid (t' := tk') old M.big ob
    refine ⟨e, oe, fv, ⟨G', g, dr, tk', os⟩, _, .ref C, some d, rfl, J, (fun b o q => ?_), ge, hoe, ⟨hc, hd⟩, hdat, h1, ?_, rfl, I1.bare, raises_own T.exC T.tyC, q1 d (I1.hok.fresh M.big)⟩
    · by_cases hb : b = e
      · have q' : G'.get? b = some o := q
        rw [hb, ge] at q'
        cases q'
      · exact (gk b hb).symm.trans q
    · rw [upd_ne (Ne.symm M.ne)]
      exact I1.hok.fresh M.new
/-- raise x(e) -/
def tRaise (C : Addr) (W : WX) (ta : TA) : TS := fun _ σ H => tMk C ta σ H fun cls d H' => W cls d σ H'
theorem ps_raise {a : Expr} {ta : TA} {W : WX} {p pos pos2 : Pos} {k : Nat} (hc : X.calm = true) (T : Txt X.K X.mg x qual C fI) (hr : Room k X.A) (tk : Takes X W) (ha : PA X [a] ta) (hg : Gl X x := by rfl) (hdb : (x == ("__debug__" : Str)) = false := by decide)
    (he : starEach (a :: []) X.env = (false, eval a X.env) :: starEach [] X.env := by rfl) (hpl : (backTo pos (starEach [] X.env)).any (·.1) = false := by rfl) :
    PS X (.Raise (some (.Call (.Name x p) [a] [] pos)) none pos2) (tRaise C W ta) := L2.ps_raise hc tk (pmk T hr ha hg hdb he hpl)
end
end MqE_thing

namespace Lw
open PySem PySem.Spec PyProof.Rows L2 Mq
/-! ### where the defs stand -/
def topS (i : Nat) : Stmt := PySem.Challenge.pw_millhands_k78_texts_of_logs.main.body.getD i (.Pass ⟨0, 0, 0, 0⟩)
abbrev s_BadText___init__ : Stmt := inClass (topS 2) 0
theorem sc_BadText___init__ : FnScope ["self", "line"] ["self", "line"] (defScope s_BadText___init__) := ⟨rfl, rfl, rfl, by decide +kernel, rfl, by decide +kernel, by decide +kernel⟩
abbrev s_is_letter : Stmt := topS 6
theorem sc_is_letter : FnScope ["letters", "thing"] ["letters", "thing"] (defScope s_is_letter) := ⟨rfl, rfl, rfl, by decide +kernel, rfl, by decide +kernel, by decide +kernel⟩
abbrev s_is_ascending : Stmt := topS 7
theorem sc_is_ascending : FnScope ["parts", "k"] ["parts"] (defScope s_is_ascending) := ⟨rfl, rfl, rfl, by decide +kernel, rfl, by decide +kernel, by decide +kernel⟩
abbrev s_integer_read : Stmt := topS 8
theorem sc_integer_read : FnScope ["text", "figure"] ["text"] (defScope s_integer_read) := ⟨rfl, rfl, rfl, by decide +kernel, rfl, by decide +kernel, by decide +kernel⟩
abbrev s_is_item : Stmt := topS 10
theorem sc_is_item : FnScope ["letters", "thing"] ["letters", "thing"] (defScope s_is_item) := ⟨rfl, rfl, rfl, by decide +kernel, rfl, by decide +kernel, by decide +kernel⟩
abbrev s_is_weft : Stmt := topS 11
theorem sc_is_weft : FnScope ["letters", "thing", "item"] ["letters", "thing"] (defScope s_is_weft) := ⟨rfl, rfl, rfl, by decide +kernel, rfl, by decide +kernel, by decide +kernel⟩
abbrev s_weft_text : Stmt := topS 12
theorem sc_weft_text : FnScope ["weft"] ["weft"] (defScope s_weft_text) := ⟨rfl, rfl, rfl, by decide +kernel, rfl, by decide +kernel, by decide +kernel⟩
abbrev s_log_text : Stmt := topS 14
theorem sc_log_text : FnScope ["log", "lines", "lot"] ["log"] (defScope s_log_text) := ⟨rfl, rfl, rfl, by decide +kernel, rfl, by decide +kernel, by decide +kernel⟩
abbrev s_lot_line : Stmt := topS 15
theorem sc_lot_line : FnScope ["lot", "number", "is_handed", "earlier", "weft", "state", "ahead", "one"] ["lot"] (defScope s_lot_line) := ⟨rfl, rfl, rfl, by decide +kernel, rfl, by decide +kernel, by decide +kernel⟩
abbrev s_log_read : Stmt := topS 16
theorem sc_log_read : FnScope ["letters", "text", "lines", "lots", "line", "lot", "known"] ["letters", "text"] (defScope s_log_read) := ⟨rfl, rfl, rfl, by decide +kernel, rfl, by decide +kernel, by decide +kernel⟩
abbrev s_lot_read : Stmt := topS 17
theorem sc_lot_read : FnScope ["letters", "line", "known", "words", "number", "earlier", "weft"] ["letters", "line", "known"] (defScope s_lot_read) := ⟨rfl, rfl, rfl, by decide +kernel, rfl, by decide +kernel, by decide +kernel⟩
abbrev s_earlier_read : Stmt := topS 18
theorem sc_earlier_read : FnScope ["word", "known", "numbers", "part", "number"] ["word", "known"] (defScope s_earlier_read) := ⟨rfl, rfl, rfl, by decide +kernel, rfl, by decide +kernel, by decide +kernel⟩
abbrev s__law_deck : Stmt := topS 20
theorem sc__law_deck : FnScope ["_law_script", "_law_cells", "_law_mixed", "_law_cell"] ["_law_script"] (defScope s__law_deck) := ⟨rfl, rfl, rfl, by decide +kernel, rfl, by decide +kernel, by decide +kernel⟩
abbrev s__law_draw : Stmt := topS 21
theorem sc__law_draw : FnScope ["_law_deck_here", "_law_below", "_law_mixed", "_law_cell"] ["_law_deck_here", "_law_below"] (defScope s__law_draw) := ⟨rfl, rfl, rfl, by decide +kernel, rfl, by decide +kernel, by decide +kernel⟩
abbrev s__law_pick : Stmt := topS 22
theorem sc__law_pick : FnScope ["_law_deck_here", "_law_some"] ["_law_deck_here", "_law_some"] (defScope s__law_pick) := ⟨rfl, rfl, rfl, by decide +kernel, rfl, by decide +kernel, by decide +kernel⟩
abbrev s__law_items : Stmt := topS 23
theorem sc__law_items : FnScope ["_law_letters", "_law_x"] ["_law_letters"] (defScope s__law_items) := ⟨rfl, rfl, rfl, by decide +kernel, rfl, by decide +kernel, by decide +kernel⟩
abbrev s__law_log : Stmt := topS 24
theorem sc__law_log : FnScope ["_law_deck_here", "_law_letters", "_law_found", "_law_number_here", "_law_left", "_law_lays", "_law_k", "_law_earlier", "_law_weft", "_law_j", "_law_it", "_law_many", "_law_lot_here"] ["_law_deck_here", "_law_letters"] (defScope s__law_log) := ⟨rfl, rfl, rfl, by decide +kernel, rfl, by decide +kernel, by decide +kernel⟩
abbrev s__law_page : Stmt := topS 25
theorem sc__law_page : FnScope ["_law_log_here", "_law_lines", "_law_number_here", "_law_is_done", "_law_earlier", "_law_weft", "_law_some", "_law_n", "_law_word"] ["_law_log_here"] (defScope s__law_page) := ⟨rfl, rfl, rfl, by decide +kernel, rfl, by decide +kernel, by decide +kernel⟩
abbrev s__law_number : Stmt := topS 26
theorem sc__law_number : FnScope ["_law_word", "_law_x"] ["_law_word"] (defScope s__law_number) := ⟨rfl, rfl, rfl, by decide +kernel, rfl, by decide +kernel, by decide +kernel⟩
abbrev s__law_lot : Stmt := topS 27
theorem sc__law_lot : FnScope ["_law_letters", "_law_ahead", "_law_line", "_law_words", "_law_number_here", "_law_weft", "_law_earlier", "_law_word", "_law_n", "_law_it", "_law_lot_here"] ["_law_letters", "_law_ahead", "_law_line"] (defScope s__law_lot) := ⟨rfl, rfl, rfl, by decide +kernel, rfl, by decide +kernel, by decide +kernel⟩
abbrev s__law_parts : Stmt := topS 28
theorem sc__law_parts : FnScope ["_law_letters", "_law_page_here", "_law_lines", "_law_found", "_law_k", "_law_line", "_law_lot_here"] ["_law_letters", "_law_page_here"] (defScope s__law_parts) := ⟨rfl, rfl, rfl, by decide +kernel, rfl, by decide +kernel, by decide +kernel⟩
abbrev s__law_heard : Stmt := topS 29
theorem sc__law_heard : FnScope ["_law_letters", "_law_page_here", "_law_is_named", "_law_found", "e"] ["_law_letters", "_law_page_here", "_law_is_named"] (defScope s__law_heard) := ⟨rfl, rfl, rfl, by decide +kernel, rfl, by decide +kernel, by decide +kernel⟩
abbrev s__law_read_right : Stmt := topS 30
theorem sc__law_read_right : FnScope ["_law_letters", "_law_page_here", "_law_due"] ["_law_letters", "_law_page_here"] (defScope s__law_read_right) := ⟨rfl, rfl, rfl, by decide +kernel, rfl, by decide +kernel, by decide +kernel⟩
abbrev s__law_bent : Stmt := topS 31
theorem sc__law_bent : FnScope ["_law_deck_here", "_law_page_here", "_law_lines", "_law_way", "_law_at", "_law_to", "_law_words", "_law_spot", "_law_some"] ["_law_deck_here", "_law_page_here"] (defScope s__law_bent) := ⟨rfl, rfl, rfl, by decide +kernel, rfl, by decide +kernel, by decide +kernel⟩
abbrev s_law : Stmt := topS 32
theorem sc_law : FnScope ["_law_script", "_law_deck_here", "_law_go", "_law_letters", "_law_log_here", "_law_page_here", "_law_turn", "_law_far", "_law_odd", "_law_it"] ["_law_script"] (defScope s_law) := ⟨rfl, rfl, rfl, by decide +kernel, rfl, by decide +kernel, by decide +kernel⟩
end Lw

namespace Lw
open PySem PySem.Spec PyProof.Rows L2 Mq
open SX (S)
def ascB (l : List Nat) : Bool := ((List.range (l.length - 1)).map fun k => decide (l.getD k 0 < l.getD (k + 1) 0)).all id
theorem lt_sign (c d : Nat) : decide ((S [c]).cps.toList < (S [d]).cps.toList) = decide (c < d) := by
  have h : ((S [c]).cps.toList < (S [d]).cps.toList) ↔ c < d := by
    show ([c] : List Nat) < [d] ↔ c < d
    rw [List.cons_lt_cons_iff]
    simp
  exact decide_eq_decide.mpr h
theorem sz_le {n : Nat} (h : n ≤ 1000000) : n ≤ sizeLine := Nat.le_trans h (by decide)
theorem sz_lt {n : Nat} (h : n ≤ 1000000) : n < sizeLine := Nat.lt_of_le_of_lt h (by decide)
theorem at_get {l : List Nat} {k : Nat} (h : k < l.length) : atI (S l).cps.toList (k : Int) = some (l.getD k 0) := by
  refine atI_nat ?_
  show l[k]? = _
  rw [List.getElem?_eq_getElem h, List.getD_eq_getElem?_getD, List.getElem?_eq_getElem h]
  rfl
theorem ix_sign {l : List Nat} {k : Nat} {H : Hp} {Q : VK} (hl : l.length ≤ 100000) (h : k < l.length) (q : Q (.str (S [l.getD k 0])) H) : rIxS (.str (S l)) (.int (k : Int)) H Q :=
  ⟨S l, (k : Int), l.getD k 0, rfl, rfl, sz_le (by rw [SX.S_len]; omega), at_get h, q⟩
theorem len_S {K : PySem.W.Frag} {H : Hp} {l : List Nat} (hl : l.length ≤ 100000) : LenV K (.str (S l)) H (l.length : Nat) := by
  have hz := SX.S_len l
  refine ⟨?_, ?_⟩
  · rw [hz]
    exact sz_le (by omega)
  · rw [hz]
def inB (c : Nat) (l : List Nat) : Bool := decide (c ∈ l)
def NoStr (K : PySem.W.Frag) (H : Hp) (v : V) : Prop := ∃ a, TyX K H v (.type a) ∧ a ∈ ["NoneType", "bool", "int", "str", "list", "tuple", "dict"] ∧ a ≠ "str"
theorem kit_no {K : PySem.W.Frag} {a : String} (m : a ∈ ["NoneType", "bool", "int", "str", "list", "tuple", "dict"]) (n : a ≠ "str") : PySem.W.kitOne K (.type a) (.type "str") = some false :=
  kit_ty (by rw [kit_known a "str" m (by simp), decide_eq_false n])
theorem kit_self {K : PySem.W.Frag} : PySem.W.kitOne K (.type "str") (.type "str") = some true := kit_ty (by decide +kernel)
theorem str_is_nil (l : List Nat) : decide (V.str (S l) = V.str "") = decide (l = []) := by
  refine decide_eq_decide.mpr ⟨fun h => ?_, fun h => by rw [h]; rfl⟩
  have h1 : S l = S [] := V.str.inj h
  exact SX.S_inj h1
theorem walk_S (l : List Nat) : Walk (Its (S l)) l.length (fun _ => True) (YFn fun i => .str (S [l.getD i 0])) := by
  refine walk_str.mono (fun _ h => h) (fun i H x H' hi _ y => ⟨y.1, ?_⟩)
  obtain ⟨_, c, hc, rfl⟩ := y
  have hc' : l[i]? = some c := by simpa using hc
  show V.str (S [c]) = V.str (S [l.getD i 0])
  rw [List.getD_eq_getElem?_getD, hc']
  rfl
theorem ifF {c : Bool} {p q : Prop} (h : c = false) (hq : q) : (if c = true then p else q) := by rw [h]; exact hq
theorem ifT {c : Bool} {p q : Prop} (h : c = true) (hp : p) : (if c = true then p else q) := by rw [h]; exact hp
theorem len_tup {K : PySem.W.Frag} {H : Hp} {a : Addr} {xs : List V} (h : SqT K H a xs) : LenV K (.ref a) H xs.length := Or.inr ⟨xs, h, rfl⟩
theorem ps_dead {X : Cx} {st : Stmt} : PS X st (fun _ _ _ => False) := ⟨fun _ _ _ _ _ _ h => h.elim⟩
theorem pos_of {α : Type} {l : List α} (h : l ≠ []) : 0 < l.length := by
  cases l with
  | nil => exact (h rfl).elim
  | cons a l => exact Nat.zero_lt_succ _
end Lw

namespace Lw
open PySem PySem.Spec PyProof.Rows L2 Mq
open SX (S)
/-! ### the deck -/
def deckKv (c : Addr) (m : Int) (t : Nat) : List (Key × V) := [(.inr "cells", .ref c), (.inr "mixed", .int m), (.inr "turn", .int (t : Nat))]
structure DeckAt (D C : Addr) (T : Nat) (H : Hp) : Prop where
  ex : ∃ (m : Int) (t : Nat) (js : List Int), H D = some (.dK (deckKv C m t)) ∧ H C = some (.lst (js.map V.int)) ∧ js.length ≤ 100 ∧ t ≤ T
def Off (D C : Addr) (H H' : Hp) : Prop := ∀ b o, b ≠ D → b ≠ C → H b = some o → H' b = some o
theorem Off.refl (D C : Addr) (H : Hp) : Off D C H H := fun _ _ _ _ e => e
theorem Off.trans {D C : Addr} {H H' H'' : Hp} (a : Off D C H H') (b : Off D C H' H'') : Off D C H H'' := fun x o h1 h2 e => b x o h1 h2 (a x o h1 h2 e)
theorem Off.same {D C : Addr} {H H' : Hp} (e : Same H H') : Off D C H H' := fun b o _ _ h => e b o h
theorem DeckAt.same {D C : Addr} {T : Nat} {H H' : Hp} (h : DeckAt D C T H) (e : Same H H') : DeckAt D C T H' := let ⟨m, t, js, a, b, c, d⟩ := h.ex; ⟨m, t, js, e _ _ a, e _ _ b, c, d⟩
theorem DeckAt.mono {D C : Addr} {T T' : Nat} {H : Hp} (h : DeckAt D C T H) (e : T ≤ T') : DeckAt D C T' H := let ⟨m, t, js, a, b, c, d⟩ := h.ex; ⟨m, t, js, a, b, c, Nat.le_trans d e⟩
theorem DeckAt.ne {D C : Addr} {T : Nat} {H : Hp} (h : DeckAt D C T H) : C ≠ D := by
  obtain ⟨m, t, js, a, b, c, d⟩ := h.ex
  rintro rfl
  rw [a] at b
  cases b
/-- what is no list and no dict is none of the deck's -/
theorem Off.at {D C : Addr} {T : Nat} {H H' : Hp} {a : Addr} {o : HO} (f : Off D C H H') (k : DeckAt D C T H) (h : H a = some o) (n : (∀ xs, o ≠ .lst xs) ∧ ∀ kvs, o ≠ .dK kvs) : H' a = some o := by
  obtain ⟨m, t, js, x, y, _, _⟩ := k.ex
  refine f a o ?_ ?_ h
  · rintro rfl
    rw [x] at h
    cases h
    exact n.2 _ rfl
  · rintro rfl
    rw [y] at h
    cases h
    exact n.1 _ rfl
theorem Off.tup {K : PySem.W.Frag} {D C : Addr} {T : Nat} {H H' : Hp} {a : Addr} {xs : List V} (f : Off D C H H') (k : DeckAt D C T H) (h : SqT K H a xs) : SqT K H' a xs := by
  rcases h with (h | ⟨o, h⟩) | h
  · exact Or.inl (Or.inl (f.at k h ⟨(fun _ z => nomatch z), (fun _ z => nomatch z)⟩))
  · exact Or.inl (Or.inr ⟨o, f.at k h ⟨(fun _ z => nomatch z), (fun _ z => nomatch z)⟩⟩)
  · exact Or.inr h
theorem dp_ints' {K : PySem.W.Frag} {H : Hp} : ∀ js : List Int, DpAll K H (js.map V.int) (js.map PyData.int)
  | [] => .nil
  | t :: ts => .cons (.int _) (dp_ints' ts)
theorem lay_ints' (js : List Int) : PyData.canLayAll0 (js.map PyData.int) = true ∧ PyData.depthAll (js.map PyData.int) = 0 := by
  induction js with
  | nil => exact ⟨rfl, rfl⟩
  | cons t ts ih =>
    refine ⟨ih.1, ?_⟩
    show max 0 _ = 0
    rw [ih.2]
    rfl
theorem shaped_ints (js : List Int) : SeqAt.shaped (.list (js.map PyData.int)) = true := by
  unfold SeqAt.shaped
  obtain ⟨a, b⟩ := lay_ints' js
  rw [show (PyData.list (js.map PyData.int)).canLay0 = true from a]
  have : (PyData.list (js.map PyData.int)).depth ≤ 64 := by
    show PyData.depthAll _ + 1 ≤ 64
    omega
  rw [decide_eq_true this]
  rfl
def spDraw : Sp := fun vs H Q _ => ∃ (D C : Addr) (T b : Nat), vs = [.ref D, .int (b : Nat)] ∧ DeckAt D C T H ∧ T ≤ 1000000 ∧ 0 < b ∧ b ≤ 1000 ∧
  ∀ H' (r : Nat), r < b → DeckAt D C (T + 1) H' → Off D C H H' → Q (.int (r : Nat)) H'
theorem fmod_nat (i : Int) {b : Nat} (h : 0 < b) : ∃ r : Nat, i.fmod (b : Int) = (r : Nat) ∧ r < b := by
  have h1 : 0 ≤ i.fmod (b : Int) := Int.fmod_nonneg_of_pos i (by omega)
  have h2 : i.fmod (b : Int) < b := Int.fmod_lt_of_pos i (by omega)
  exact ⟨(i.fmod b).toNat, by omega, by omega⟩
theorem bound_mod (i : Int) : -(2 ^ 64) < i.fmod 2147483647 ∧ i.fmod 2147483647 < 2 ^ 64 := by
  obtain ⟨r, e, l⟩ := fmod_nat i (b := 2147483647) (by decide)
  have e' : i.fmod 2147483647 = (r : Nat) := e
  rw [e']
  omega
theorem mod_fin {b : Nat} (h : 0 < b) (i : Int) {H : Hp} {Q : VK} (k : ∀ r : Nat, r < b → Q (.int (r : Nat)) H) : Q (.int (i.fmod (b : Nat))) H := by
  obtain ⟨r, e, l⟩ := fmod_nat i h
  rw [e]
  exact k r l
section
variable {P : Program} {w : World} {K : PySem.W.Frag} {mg : Str → Option Value} {base : Heap}
theorem ok_draw {f : Addr} {fd : FuncData} (F : Fun K "_law_draw" "_law_draw" s__law_draw f fd) (B : Blt mg) :
    FnOk P w K mg base CX0 1 f fd ["_law_deck_here", "_law_below"] spDraw := by
  refine F.ok sc__law_draw (fun vs H Q E h => ?_) (fun cdv A outer s H vs Q E hr h => ?_)
  · obtain ⟨_, _, _, _, rfl, _⟩ := h
    rfl
  · obtain ⟨D, C, T, b, rfl, hdk, hT, hb0, hb1, q⟩ := h
    have hu : (A.deeper (envOfC "_law_draw" (defScope s__law_draw) s.heap.objs.size f cdv)).units + 64 < cLine := by
      have := hr.units
      omega
    have hu1 : (A.deeper (envOfC "_law_draw" (defScope s__law_draw) s.heap.objs.size f cdv)).units + 1 < cLine := by omega
    refine ⟨_, (pss_cons (ps_dput hu1 (pv 0) pe_str (pe_op op_add (pe_dget hu1 (pv 0) pe_str (fun _ _ => rfl)) pe_int) rfl)
      (pss_cons (ps_set (i := 2) sc__law_draw.nd rfl (Or.inl rfl) (pe_op op_add (pe_dget hu1 (pv 0) pe_str (fun _ _ => rfl)) (pe_op op_mul (pe_op op_mul pe_int (pe_dget hu1 (pv 0) pe_str (fun _ _ => rfl))) (pe_dget hu1 (pv 0) pe_str (fun _ _ => rfl)))))
      (pss_cons (ps_if (pt_cmpR (op_neD hu) (pe_dget hu1 (pv 0) pe_str (fun _ _ => rfl)) (pe_ls pa_nil) (nomark _)) (pss_cons (ps_set (i := 3) sc__law_draw.nd rfl (Or.inl rfl) (pe_bm0 PySem.F.plainAttrs_list PySem.F.slot_list_pop PySem.F.type_list_pop mt_pop (pe_dget hu1 (pv 0) pe_str (fun _ _ => rfl))))
        (pss_cons (ps_if (pt_cmpR op_ge (pv 3) (pe_op op_pow pe_int pe_int) (nomark _)) (pss_cons (ps_expr (pe_bm PySem.F.plainAttrs_list PySem.F.slot_list_append PySem.F.type_list_append mt_append (pe_dget hu1 (pv 0) pe_str (fun _ _ => rfl)) (pa_cons (pe_op op_fdivN (pv 3) (pv 1)) pa_nil)))
          (pss_one (ps_ret (pe_op op_modN (pe_callTy call_int1 (by rfl) B.int (by decide +kernel) (pa_cons (pv 3) pa_nil)) (pv 1))))) pss_nil)
        (pss_one (ps_set (i := 2) sc__law_draw.nd rfl (Or.inl rfl) (pe_op op_add (pv 2) (pe_op op_modN (pe_callTy call_int1 (by rfl) B.int (by decide +kernel) (pa_cons (pv 3) pa_nil)) pe_int)))))) pss_nil)
      (pss_cons (ps_set (i := 2) sc__law_draw.nd rfl (Or.inl rfl) (pe_op op_modN (pe_callTy call_int1 (by rfl) B.int (by decide +kernel) (pa_cons (pe_op op_add (pe_op op_mul (pe_op op_modN (pv 2) pe_int) pe_int) (pe_dget hu1 (pv 0) pe_str (fun _ _ => rfl))) pa_nil)) pe_int))
      (pss_cons (ps_set (i := 2) sc__law_draw.nd rfl (Or.inl rfl) (pe_op op_modN (pe_callTy call_int1 (by rfl) B.int (by decide +kernel) (pa_cons (pe_op op_add (pe_op op_add (pe_op op_mul (pv 2) (pv 2)) (pe_op op_mul pe_int (pe_dget hu1 (pv 0) pe_str (fun _ _ => rfl)))) pe_int) pa_nil)) pe_int))
      (pss_one (ps_ret (pe_op op_modN (pe_op op_fdivN (pe_op op_modN (pe_callTy call_int1 (by rfl) B.int (by decide +kernel) (pa_cons (pe_op op_mul (pv 2) pe_int) pa_nil)) pe_int) pe_int) (pv 1))))))))), ?_⟩
    obtain ⟨m, t, js, hD, hC, hjs, ht⟩ := hdk.ex
    have ne := hdk.ne
    have e : ((t : Nat) : Int) + 1 = ((t + 1 : Nat) : Int) := by omega
    have eH : upd H D (.dK (deckKv C m (t + 1))) = upd H D (.dK (putK (deckKv C m t) (.inr "turn") (.int (((t : Nat) : Int) + 1)))) := by
      rw [e]
      rfl
    have o1 : Off D C H (upd H D (.dK (deckKv C m (t + 1)))) := fun x o h1 h2 h => (upd_ne h1).trans h
    have hD1 : upd H D (.dK (deckKv C m (t + 1))) D = some (.dK (deckKv C m (t + 1))) := upd_same
    have hC1 : upd H D (.dK (deckKv C m (t + 1))) C = some (.lst (js.map V.int)) := (upd_ne ne).trans hC
    refine ⟨_, rfl, D, .int (t : Nat), rfl, (DGet.k (k := .inr "turn") hD : DGet H D (.str "turn") (some (.int (t : Nat)))), _, _, rfl, rfl, _, rfl, D, upd H D (.dK (deckKv C m (t + 1))), rfl, Or.inl ⟨deckKv C m t, .inr "turn", hD, rfl, sz_lt (by show 3 ≤ _; decide), eH⟩, ?_⟩
    generalize upd H D (.dK (deckKv C m (t + 1))) = H1 at o1 hD1 hC1 ⊢
    have gT : ∀ {H2 : Hp}, H2 D = some (.dK (deckKv C m (t + 1))) → DGet H2 D (.str "turn") (some (.int (t + 1 : Nat))) := fun h => DGet.k (k := .inr "turn") h
    have gM : ∀ {H2 : Hp}, H2 D = some (.dK (deckKv C m (t + 1))) → DGet H2 D (.str "mixed") (some (.int m)) := fun h => DGet.k (k := .inr "mixed") h
    have gC : ∀ {H2 : Hp}, H2 D = some (.dK (deckKv C m (t + 1))) → DGet H2 D (.str "cells") (some (.ref C)) := fun h => DGet.k (k := .inr "cells") h
    have cT : -(2 ^ 64) < (((t + 1 : Nat)) : Int) ∧ (((t + 1 : Nat)) : Int) < 2 ^ 64 := by omega
    refine ⟨_, rfl, D, _, rfl, gM hD1, _, rfl, D, _, rfl, gT hD1, _, _, rfl, rfl, Or.inl (by decide), _, rfl, D, _, rfl, gT hD1, _, _, rfl, rfl, Or.inr cT, _, _, rfl, rfl, ?_⟩
    refine ⟨_, rfl, D, _, rfl, gC hD1, sz_le (n := 0) (by decide), fun p hp _ => ?_⟩
    have sp1 : Same H1 (upd H1 p (.lst [])) := same_new hp
    refine ⟨.list (js.map PyData.int), .list [], .lst (SqL.of (sp1 _ _ hC1)) (dp_ints' js), .lst (SqL.of upd_same) .nil, shaped_ints js, by decide +kernel, _, rfl, ?_⟩
    have hD2 := sp1 _ _ hD1
    have hC2 := sp1 _ _ hC1
    have o2 : Off D C H (upd H1 p (.lst [])) := o1.trans (Off.same sp1)
    generalize upd H1 p (.lst []) = H2 at hD2 hC2 o2 ⊢
    have fin : ∀ (H3 : Hp) (js' : List Int), H3 D = some (.dK (deckKv C m (t + 1))) → H3 C = some (.lst (js'.map V.int)) → js'.length ≤ 100 → Off D C H H3 → ∀ r : Nat, r < b → Q (.int (r : Nat)) H3 :=
      fun H3 js' h1 h2 h3 h4 r hr => q H3 r hr ⟨m, t + 1, js', h1, h2, h3, by omega⟩ h4
    rcases List.eq_nil_or_concat js with rfl | ⟨js', j, rfl⟩
    · refine ifF rfl ?_
      have hDx := hD2
      have kq := fin H2 [] hD2 hC2 (by decide) o2
      refine ⟨_, rfl, _, _, rfl, rfl, (show (2147483549 : Int) ≠ 0 by decide), _, _, rfl, rfl, Or.inr (by decide), _, rfl, D, _, rfl, gT hDx, _, _, rfl, rfl, Or.inl ⟨_, rfl, _, _, rfl, rfl, (show (2147483647 : Int) ≠ 0 by decide), ?_⟩⟩
      refine ⟨_, rfl, _, rfl, _, _, rfl, rfl, Or.inl ?_, _, rfl, D, _, rfl, gT hDx, _, _, rfl, rfl, Or.inl (by decide), _, _, rfl, rfl, _, _, rfl, rfl, Or.inl ⟨_, rfl, _, _, rfl, rfl, (show (2147483579 : Int) ≠ 0 by decide), ?_⟩⟩
      · exact bound_mod _
      · refine ⟨_, rfl, _, _, rfl, rfl, Or.inr (by decide), Or.inl ⟨_, rfl, _, _, rfl, rfl, (show (2147483629 : Int) ≠ 0 by decide), _, _, rfl, rfl, ⟨by decide, by decide⟩, _, rfl, _, _, rfl, rfl, (show ((b : Nat) : Int) ≠ 0 by omega), ?_⟩⟩
        exact mod_fin hb0 _ kq
    · rw [List.concat_eq_append] at *
      refine ifT (by cases js' <;> rfl) ?_
      have hlast : ((js' ++ [j]).map V.int)[((js' ++ [j]).map V.int).length - 1]? = some (.int j) := by simp
      have hdrop : ((js' ++ [j]).map V.int).dropLast = js'.map V.int := by simp
      refine ⟨_, rfl, D, _, rfl, gC hD2, Or.inl ⟨rfl, _, Or.inl (Or.inl hC2)⟩, C, _, _, rfl, rfl, hC2, hlast, ?_⟩
      rw [hdrop]
      have hD3 : upd H2 C (.lst (js'.map V.int)) D = some (.dK (deckKv C m (t + 1))) := (upd_ne (Ne.symm ne)).trans hD2
      have hC3 : upd H2 C (.lst (js'.map V.int)) C = some (.lst (js'.map V.int)) := upd_same
      have o3 : Off D C H (upd H2 C (.lst (js'.map V.int))) := o2.trans (fun x o h1 h2 h => (upd_ne h2).trans h)
      generalize upd H2 C (.lst (js'.map V.int)) = H3 at hD3 hC3 o3 ⊢
      have hl' : js'.length + 1 ≤ 100 := by simpa using hjs
      refine ⟨_, rfl, _, _, rfl, rfl, ⟨by decide, by decide, by decide⟩, _, _, rfl, rfl, _, rfl, ite2 (fun hc => ?_) (fun hc => ?_)⟩
      · have hj : (10 : Int) ^ 18 ≤ j := of_decide_eq_true hc
        refine ⟨_, rfl, D, _, rfl, gC hD3, Or.inl ⟨rfl, _, Or.inl (Or.inl hC3)⟩, _, rfl, _, rfl, _, _, rfl, rfl, ⟨by omega, by omega⟩, C, _, _, rfl, rfl, hC3, sz_lt (by rw [List.length_map]; omega), ?_⟩
        have hD4 : upd H3 C (.lst (js'.map V.int ++ [.int (j.fdiv (b : Nat))])) D = some (.dK (deckKv C m (t + 1))) := (upd_ne (Ne.symm ne)).trans hD3
        have hC4 : upd H3 C (.lst (js'.map V.int ++ [.int (j.fdiv (b : Nat))])) C = some (.lst ((js' ++ [j.fdiv (b : Nat)]).map V.int)) := upd_same.trans (by rw [List.map_append]; rfl)
        have o4 : Off D C H (upd H3 C (.lst (js'.map V.int ++ [.int (j.fdiv (b : Nat))]))) := o3.trans (fun x o h1 h2 h => (upd_ne h2).trans h)
        have kq := fin _ _ hD4 hC4 (by rw [List.length_append]; exact hl') o4
        refine ⟨_, rfl, Or.inl ⟨_, rfl, _, rfl, _, _, rfl, rfl, (show ((b : Nat) : Int) ≠ 0 by omega), ?_⟩⟩
        exact mod_fin hb0 _ kq
      · refine ⟨_, rfl, _, rfl, Or.inl ⟨_, rfl, _, _, rfl, rfl, (show (2147483563 : Int) ≠ 0 by decide), _, _, rfl, rfl, ?_⟩⟩
        have hDx := hD3
        have kq := fin H3 js' hD3 hC3 (by omega) o3
        refine ⟨_, rfl, _, _, rfl, rfl, (show (2147483549 : Int) ≠ 0 by decide), _, _, rfl, rfl, Or.inr (by decide), _, rfl, D, _, rfl, gT hDx, _, _, rfl, rfl, Or.inl ⟨_, rfl, _, _, rfl, rfl, (show (2147483647 : Int) ≠ 0 by decide), ?_⟩⟩
        refine ⟨_, rfl, _, rfl, _, _, rfl, rfl, Or.inl ?_, _, rfl, D, _, rfl, gT hDx, _, _, rfl, rfl, Or.inl (by decide), _, _, rfl, rfl, _, _, rfl, rfl, Or.inl ⟨_, rfl, _, _, rfl, rfl, (show (2147483579 : Int) ≠ 0 by decide), ?_⟩⟩
        · exact bound_mod _
        · refine ⟨_, rfl, _, _, rfl, rfl, Or.inr (by decide), Or.inl ⟨_, rfl, _, _, rfl, rfl, (show (2147483629 : Int) ≠ 0 by decide), _, _, rfl, rfl, ⟨by decide, by decide⟩, _, rfl, _, _, rfl, rfl, (show ((b : Nat) : Int) ≠ 0 by omega), ?_⟩⟩
          exact mod_fin hb0 _ kq
end
end Lw

namespace Lw
open PySem PySem.Spec PyProof.Rows L2 Mq
open SX (S)
def spDeck (K : PySem.W.Frag) : Sp := fun vs H Q _ => ∃ (a : Addr) (ns : List Int), vs = [.ref a] ∧ SqL K H a (ns.map V.int) ∧ ns.length ≤ 63 ∧
  ∀ H' D C, Same H H' → DeckAt D C 0 H' → Q (.ref D) H'
def spPick : Sp := fun vs H Q _ => ∃ (D C : Addr) (T : Nat) (x : V), vs = [.ref D, x] ∧ DeckAt D C T H ∧ T ≤ 1000000 ∧
  ((∃ l : List Nat, x = .str (S l) ∧ 0 < l.length ∧ l.length ≤ 1000 ∧ ∀ H' c, c ∈ l → DeckAt D C (T + 1) H' → Off D C H H' → Q (.str (S [c])) H') ∨
   ∃ (p : Addr) (xs : List V), x = .ref p ∧ H p = some (.lst xs) ∧ p ≠ C ∧ 0 < xs.length ∧ xs.length ≤ 1000 ∧ ∀ H' v, v ∈ xs → DeckAt D C (T + 1) H' → Off D C H H' → Q v H')
section
variable {P : Program} {w : World} {K : PySem.W.Frag} {mg : Str → Option Value} {base : Heap}
theorem ok_deck {f : Addr} {fd : FuncData} (F : Fun K "_law_deck" "_law_deck" s__law_deck f fd) (B : Blt mg) :
    FnOk P w K mg base CX0 1 f fd ["_law_script"] (spDeck K) := by
  refine F.ok sc__law_deck (fun vs H Q E h => ?_) (fun cdv A outer s H vs Q E hr h => ?_)
  · obtain ⟨_, _, rfl, _⟩ := h
    rfl
  · obtain ⟨a, ns, rfl, ha, hn, q⟩ := h
    refine ⟨_, (pss_cons (ps_par (i := 1) (j := 2) rfl sc__law_deck.nd rfl rfl (by decide) rfl rfl (pa_cons (pe_callTy call_list_of (by rfl) B.list (by decide +kernel) (pa_cons (pe_slice sl_list (pv 0) po_none (po_some pe_int)) pa_nil)) (pa_cons pe_int pa_nil)) (by rfl))
      (pss_cons (ps_for PassesOwn.never rfl (pi_list (pv 1)) (pg_name (i := 3) sc__law_deck.nd rfl (Or.inl rfl))
        (pss_one (ps_set (i := 2) sc__law_deck.nd rfl (Or.inl rfl) (pe_op op_modN (pe_callTy call_int1 (by rfl) B.int (by decide +kernel) (pa_cons (pe_op op_add (pe_op op_add (pe_op op_mul (pv 2) pe_int) (pe_op op_modN (pe_callTy call_int1 (by rfl) B.int (by decide +kernel) (pa_cons (pv 3) pa_nil)) pe_int)) pe_int) pa_nil)) pe_int))))
      (pss_one (ps_ret (pe_disp (pps_cons pe_str (pe_revL (pv 1)) (pps_cons pe_str (pv 2) (pps_cons pe_str pe_int pps_nil))) (by rfl) (by rfl) (fun z => by cases z) (by decide)))))), ?_⟩
    obtain ⟨ms, hms, hml⟩ : ∃ ms : List Int, cutV (ns.map V.int) none (some 63) = ms.map V.int ∧ ms.length ≤ 63 := by
      refine ⟨(ns.drop (HT.sIx (ns.map V.int).length 0 none)).take (HT.sIx (ns.map V.int).length (ns.map V.int).length (some 63) - HT.sIx (ns.map V.int).length 0 none), ?_, ?_⟩
      · unfold cutV
        rw [← List.map_drop, ← List.map_take]
      · rw [List.length_take, List.length_drop]
        omega
    refine ⟨_, rfl, 63, rfl, a, _, rfl, ha, fun p1 hp1 => ⟨p1, _, rfl, Or.inl (SqL.of upd_same), fun c hc => ?_⟩⟩
    rw [hms] at hc ⊢
    have s1 : Same H (upd H p1 (.lst (ms.map V.int))) := same_new hp1
    generalize upd H p1 (.lst (ms.map V.int)) = H1 at s1 hc ⊢
    have s2 : Same H (upd H1 c (.lst (ms.map V.int))) := s1.trans (same_new hc)
    have hC : upd H1 c (.lst (ms.map V.int)) c = some (.lst (ms.map V.int)) := upd_same
    generalize upd H1 c (.lst (ms.map V.int)) = H2 at s2 hC ⊢
    refine ⟨_, _, rfl, ?_⟩
    refine ⟨_, rfl, c, rfl, ⟨_, SqL.of hC⟩, ?_⟩
    refine for_list (xs := ms.map V.int) (fun i σ H' => H' = H2 ∧ ∃ (m : Int) (o : Option V), σ = [some (.ref a), some (.ref c), some (.int m), o]) ⟨rfl, _, _, rfl⟩ (fun i σ H' _ p => by rw [p.1]; exact SqL.of hC) ?_ ?_
    · rintro i x σ H' hx ⟨rfl, m, o, rfl⟩
      obtain ⟨j, rfl⟩ : ∃ j, x = .int j := by
        rw [List.getElem?_map] at hx
        cases h : ms[i]? with
        | none => rw [h] at hx; cases hx
        | some j => rw [h] at hx; cases hx; exact ⟨j, rfl⟩
      refine ⟨_, rfl, _, _, rfl, rfl, Or.inr (by decide), _, rfl, Or.inl ⟨_, rfl, _, _, rfl, rfl, (show (2147483587 : Int) ≠ 0 by decide), _, _, rfl, rfl, _, _, rfl, rfl, Or.inl ⟨_, rfl, _, _, rfl, rfl, (show (2147483629 : Int) ≠ 0 by decide), rfl, _, _, rfl⟩⟩⟩
    · rintro σ H' ⟨rfl, m, o, rfl⟩
      refine fun p hp => ?_
      have s3 : Same H' (upd H' p (.dK [])) := same_new hp
      refine ⟨_, rfl, c, _, rfl, SqL.of (s3 _ _ hC), fun p2 hp2 => ⟨_, rfl, ?_⟩⟩
      have s4 : Same H' (upd (upd H' p (.dK [])) p2 (.lst (ms.map V.int).reverse)) := s3.trans (same_new hp2)
      have hp4 : upd (upd H' p (.dK [])) p2 (.lst (ms.map V.int).reverse) p = some (.dK []) := (same_new hp2) _ _ upd_same
      refine ⟨hp4, deckKv p2 m 0, rfl, by show 3 ≤ 15; decide, ?_⟩
      have ne : p2 ≠ p := by
        rintro rfl
        rw [upd_same] at hp2
        cases hp2
      refine q _ p p2 ?_ ⟨m, 0, ms.reverse, upd_same.trans ?_, ?_, by rw [List.length_reverse]; omega, Nat.le_refl _⟩
      · intro b o e
        have e2 := s2 b o e
        rw [upd_ne (ne_of_none e2 hp)]
        exact s4 b o e2
      · rfl
      · rw [upd_ne ne, upd_same, List.map_reverse]
end
end Lw

namespace Lw
open PySem PySem.Spec PyProof.Rows L2 Mq
open SX (S)
section
variable {P : Program} {w : World} {K : PySem.W.Frag} {mg : Str → Option Value} {base : Heap}
theorem ok_pick {f fD : Addr} {fd fdD : FuncData} (F : Fun K "_law_pick" "_law_pick" s__law_pick f fd) (B : Blt mg)
    (FD : Fun K "_law_draw" "_law_draw" s__law_draw fD fdD) (gD : mg "_law_draw" = some (.ref fD)) (bD : Binds K fdD ["_law_deck_here", "_law_below"] []) :
    FnOk P w K mg base CX0 2 f fd ["_law_deck_here", "_law_some"] spPick := by
  have GD : FnOk P w K mg base CX0 1 fD fdD ["_law_deck_here", "_law_below"] spDraw := ok_draw FD B
  refine F.ok sc__law_pick (fun vs H Q E h => ?_) (fun cdv A outer s H vs Q E hr h => ?_)
  · obtain ⟨_, _, _, _, rfl, _⟩ := h
    rfl
  · obtain ⟨D, C, T, x, rfl, hdk, hT, h⟩ := h
    refine ⟨_, (pss_one (ps_ret (pe_ix ix_seq (pv 1) (pe_call GD (hr.mono (by decide)) (by rfl) gD FD.kp bD .nil pass0 (pa_cons (pv 0) (pa_cons (pe_callB call_len (by rfl) B.len (by decide +kernel) (pa_cons (pv 1) pa_nil)) pa_nil))) (fun _ _ => rfl)))), ?_⟩
    rcases h with ⟨l, rfl, h0, h1, q⟩ | ⟨p, xs, rfl, hp, hpC, h0, h1, q⟩
    · refine ⟨_, rfl, _, rfl, _, rfl, _, _, rfl, len_S (by omega), D, C, T, l.length, rfl, hdk, hT, h0, h1, fun H' r hr dk off => ?_⟩
      refine Or.inr (Or.inr ⟨S l, _, l.getD r 0, rfl, rfl, sz_le (by rw [SX.S_len]; omega), at_get hr, ?_⟩)
      refine q H' _ ?_ dk off
      rw [List.getD_eq_getElem?_getD, List.getElem?_eq_getElem hr]
      exact List.getElem_mem hr
    · refine ⟨_, rfl, _, rfl, _, rfl, _, _, rfl, Or.inl ⟨xs, SqL.of hp, rfl⟩, D, C, T, xs.length, rfl, hdk, hT, h0, h1, fun H' r hr dk off => ?_⟩
      have hpD : p ≠ D := by
        rintro rfl
        obtain ⟨_, _, _, e, _⟩ := hdk.ex
        rw [hp] at e
        cases e
      have hp' := off p _ hpD hpC hp
      refine Or.inl ⟨p, xs, _, xs[r], rfl, rfl, SqL.of hp', atI_nat (List.getElem?_eq_getElem hr), q H' _ (List.getElem_mem hr) dk off⟩
end
end Lw

namespace Mq
open PySem PySem.Spec PyProof.Rows L2
/-! ### the keys of a dict, drawn one by one, whatever they are -/
section
variable {prog : Program} {w : World} {d : Addr} {o : Obj} {es : Array DictEntry} {ep : Nat}
theorem walks_keys {A : Around} (hh : A.handled = none) (I : Addr) (hne : d ≠ I) (hdat : o.data = .dict es ep) :
    Walks prog w A I [I, d] [I] es.size (fun i v => ∃ en, es[i]? = some en ∧ v = en.key) (fun i h => h.IsKeyIter I d i es.size ep ∧ h.get? d = some o) where
  sub := fun b hb => by rw [List.mem_singleton.mp hb]; exact List.mem_cons_self
  frame := fun i h h' st k => ⟨st.1.at fun x e => k I (by simp) x e, k d (by simp) o st.2⟩
  item := fun i s Q E hi st hQ => by
    refine next_key_item st.1 st.2 hdat rfl (en := es[i]) (by simp [hi]) fun h' st' sb => ?_
    refine hQ _ h' s.toks ⟨es[i], by simp [hi], rfl⟩ ⟨st', (sb.2 d hne).trans st.2⟩ fun b x hb e => ?_
    exact (sb.2 b fun z => hb (by rw [z]; exact List.mem_singleton.mpr rfl)).trans e
  done := fun s Q E st hQ => by
    refine next_key_end hh st.1 st.2 hdat rfl (Nat.le_refl _) fun h' eb => hQ h' s.toks fun b x hb e => ?_
    exact eb b x (fun z => hb (by rw [z]; exact List.mem_singleton.mpr rfl)) e
  self := fun i s Q E st h => by
    have t := st.1.typeIs
    refine wpAny_pyIter_slot t F.slot_dict_keyiterator_iter (wpAny_call_entry F.slot_dict_keyiterator_iter t F.entry_dict_keyiterator_iter ?_ (F.args_dict_keyiterator_iter_1 _))
    refine wpAny_pure ⟨.ref I, rfl, "dict_keyiterator", _, t, F.slot_dict_keyiterator_next.lookup, h⟩
theorem src_keys (hd : (d == sysModules) = false) (hx : o.ExactDict) (hdat : o.data = .dict es ep) :
    PySem.W.KdlSrc prog w "dict" d d es.size (fun i v => ∃ en, es[i]? = some en ∧ v = en.key) (fun h => h.get? d = some o) where
  type := fun _ ho => ⟨o, ho, hx.1⟩
  there := fun _ ho => ⟨Heap.lt_size ho, Heap.lt_size ho⟩
  keep := fun _ _ ho k => k d (.inl rfl) o ho
  notList := by decide
  notTuple := by decide
  hint := fun _ _ _ _ ho hq => PySem.W.kdl_hint_dict ⟨o, ho, hx.1⟩ hq
  iter := fun A s hh ho => ⟨_, _, (fun _ _ hq => iter_keys hd ho hx hdat hq), walks_keys hh s.heap.objs.size (Nat.ne_of_lt (Heap.lt_size ho)) hdat,
    ⟨⟨_, Heap.get?_push_size _ rfl, rfl, rfl⟩, Heap.get?_push_of_some _ ho⟩⟩
end
/-! ### sorted(d), d's keys being pairs of texts -/
def txt2 (x : Str × Str) : List (Int ⊕ List Nat) := [.inr x.1.cps.toList, .inr x.2.cps.toList]
/-- ahead as pairs -/
def ltSS (x y : Str × Str) : Bool := (PyProof.Rows.listOrd PyProof.Rows.itemOrd).blt (txt2 x) (txt2 y)
def prOf (H : Hp) (b : Addr) : Str × Str := match H b with
  | some (.tup [.str x, .str y]) => (x, y)
  | _ => ("", "")
def rSortedT : List V → Hp → VK → Prop := fun xs H Q => ∃ (a : Addr) (kvs : List (List Key × V)) (ks : List (Str × Str)), xs = [.ref a] ∧ Rd H a (.dT kvs) ∧ kvs.map (·.1) = ks.map (fun x => [Sum.inr x.1, Sum.inr x.2]) ∧
  ∀ (as qs : List Addr) (p : Addr), as.map (prOf H) = ks → (∀ b ∈ as, H b = some (.tup [.str (prOf H b).1, .str (prOf H b).2])) → qs.Perm as →
    (∀ i j, i ≤ j → j < qs.length → ltSS (prOf H (qs.getD j 0)) (prOf H (qs.getD i 0)) = false) → H p = none → Q (.ref p) (upd H p (.lst (qs.map V.ref)))
theorem key_pair {H : Hp} {b : Addr} {x : Str × Str} (h : H b = some (.tup (([Sum.inr x.1, Sum.inr x.2] : List Key).map kV))) : prOf H b = x ∧ H b = some (.tup [.str (prOf H b).1, .str (prOf H b).2]) := by
  have h' : H b = some (.tup [.str x.1, .str x.2]) := h
  have e : prOf H b = x := by
    unfold prOf
    rw [h']
  rw [e]
  exact ⟨rfl, h'⟩
/-- the keys' own tuples -/
theorem keys_rel {H : Hp} : ∀ {kvs : List (List Key × V)} {xs : List (List Key × Addr × Value)} {ks : List (Str × Str)}, KT H kvs xs → kvs.map (·.1) = ks.map (fun x => [Sum.inr x.1, Sum.inr x.2]) →
    (xs.map fun q => q.2.1).map (prOf H) = ks ∧ ∀ b ∈ xs.map (fun q => q.2.1), H b = some (.tup [.str (prOf H b).1, .str (prOf H b).2])
  | [], [], [], .nil, _ => ⟨rfl, fun b h => by cases h⟩
  | p :: kvs, q :: xs, k :: ks, .cons h t, e => by
    obtain ⟨h1, h2, _⟩ := h
    injection e with e1 e2
    obtain ⟨a, b⟩ := keys_rel t e2
    have e1' : p.1 = [Sum.inr k.1, Sum.inr k.2] := e1
    rw [e1'] at h2
    obtain ⟨c, d⟩ := key_pair h2
    refine ⟨?_, fun x hx => ?_⟩
    · show prOf H q.2.1 :: _ = _
      rw [c, a]
    · rcases List.mem_cons.mp hx with e | hx
      · rw [e]
        exact d
      · exact b x hx
  | [], [], _ :: _, .nil, e => by cases e
  | _ :: _, _ :: _, [], .cons _ _, e => by cases e
def unR : Value → Addr
  | .ref b => b
  | _ => 0
theorem perm_back {l : List Value} {as : List Addr} (h : l.Perm (as.map Value.ref)) : ∃ qs : List Addr, l = qs.map Value.ref ∧ qs.Perm as := by
  refine ⟨l.map unR, ?_, ?_⟩
  · rw [List.map_map]
    have e : ∀ v ∈ l, (Value.ref ∘ unR) v = v := fun v hv => by
      obtain ⟨b, _, rfl⟩ := List.mem_map.mp (h.mem_iff.mp hv)
      rfl
    have e2 : l.map (Value.ref ∘ unR) = l.map id := List.map_congr_left fun v hv => e v hv
    rw [e2, List.map_id]
  · have h2 := h.map unR
    rw [List.map_map] at h2
    have e : as.map (unR ∘ Value.ref) = as := by
      have e3 : as.map (unR ∘ Value.ref) = as.map id := List.map_congr_left fun v _ => rfl
      rw [e3, List.map_id]
    rw [e] at h2
    exact h2
section
variable {X : Cx}
theorem call_sortedT (hcalm : X.calm = true) : CallR X (.builtin "sorted") rSortedT := by
  intro pins s σ H xs us Q I r q
  obtain ⟨a, kvs, ks, rfl, hd, hks, q⟩ := q
  obtain ⟨u, rfl, rx⟩ := vals1 r
  cases rx
  obtain ⟨z, lo, vs, rel, o, es, ep, ho, hx, hdat, hes, nd⟩ := (show ObjOk X.prog X.w H s.heap a (.dT kvs) from rd_of I.hok hd)
  obtain ⟨k1, k2⟩ := keys_rel rel hks
  have hlen : es.size = vs.length := by
    rw [← Array.length_toList, hes, List.length_map]
  have hz : kvs.length = vs.length := Paired.length rel
  refine Calls.call_function_entry PyProof.Rows.kind_sorted PyProof.Rows.plain_sorted PyProof.Rows.entry_sorted (PyProof.Rows.args_sorted1 _) ?_
  unfold Builtin.«sorted»
  refine wpAny_bind (m := checkCount "sorted" 1 1 _) (wpAny_pure ?_)
  refine wpAny_bind (PySem.W.kdu_collect (A := X.A.in1) (src_keys lo hx hdat) (I.ok.hd hcalm) ho (by omega) fun h' tk acc hk hacc => ?_)
  have hacc' : acc.toList = (vs.map fun q => q.2.1).map Value.ref := by
    refine List.ext_getElem? fun j => ?_
    rw [List.map_map, List.getElem?_map]
    have e1 : acc.toList[j]? = acc[j]? := Array.getElem?_toList
    rw [e1]
    cases h1 : acc[j]? with
    | none =>
      have h2 : acc.size ≤ j := Array.getElem?_eq_none_iff.mp h1
      rw [hacc.1, hlen] at h2
      rw [List.getElem?_eq_none h2]
      rfl
    | some v =>
      obtain ⟨en, h2, rfl⟩ := hacc.2 j v h1
      have h3 : es.toList[j]? = some en := by rw [Array.getElem?_toList]; exact h2
      rw [hes, List.getElem?_map] at h3
      cases h4 : vs[j]? with
      | none => rw [h4] at h3; cases h3
      | some y =>
        rw [h4] at h3
        cases h3
        rfl
  have I1 : Inv X pins σ H { s with heap := h', toks := tk } := I.kept hk
  generalize vs.map (fun q => q.2.1) = as at k1 k2 hacc'
  have hal : acc.toList.length ≤ sizeLine := by
    rw [Array.length_toList, hacc.1]
    omega
  refine wpAny_bind (wpAny_newList ?_ hal)
  rw [hacc']
  rw [hacc'] at hal
  have hoL : (h'.push (seqObj "list" (as.map Value.ref).toArray 0)).get? h'.objs.size = some (seqObj "list" (as.map Value.ref).toArray 0) := Heap.get?_push_size _ rfl
  show wpAny _ _ _ _ _ { s with heap := h'.push (seqObj "list" (as.map Value.ref).toArray 0), toks := tk }
  have obj : ∀ b ∈ as, ∃ (ob : Obj) (n : Nat) (t1 t2 : Tok), (h'.push (seqObj "list" (as.map Value.ref).toArray 0)).get? b = some ob ∧ ob.cls = .type "tuple" ∧ ob.data = .seq #[.str (prOf H b).1 t1, .str (prOf H b).2 t2] n := by
    intro b hb
    obtain ⟨_, its, r2, ob, h1, h2, n, h3⟩ := (show ObjOk X.prog X.w H h' b (.tup [.str (prOf H b).1, .str (prOf H b).2]) from I1.hok b _ (k2 b hb))
    obtain ⟨u1, u2, rfl, ⟨t1, rfl⟩, ⟨t2, rfl⟩⟩ := vals2 r2
    exact ⟨ob, n, t1, t2, Heap.get?_push_of_some _ h1, h2, h3⟩
  have tups : ∀ l : List Addr, (∀ b ∈ l, b ∈ as) → ∃ fs, PyProof.Rows.TupsOf (h'.push (seqObj "list" (as.map Value.ref).toArray 0)) (fun _ => true) (l.map Value.ref) fs := by
    intro l
    induction l with
    | nil => intro _; exact ⟨[], .nil⟩
    | cons b l ih =>
      intro hl
      obtain ⟨fs, hf⟩ := ih fun x hx => hl x (List.mem_cons_of_mem _ hx)
      obtain ⟨ob, n, t1, t2, h1, h2, h3⟩ := obj b (hl b List.mem_cons_self)
      exact ⟨_, .cons ⟨b, ob, _, n, rfl, h1, h2, h3, rfl, fun z => (by cases z), fun _ => ⟨_, _, rfl⟩⟩ hf⟩
  obtain ⟨fs, hfs⟩ := tups as fun _ h => h
  have keyC : ∀ b ∈ as, PyProof.Rows.G.tupKeyC (h'.push (seqObj "list" (as.map Value.ref).toArray 0)) (fun _ => true) (.ref b) = some (txt2 (prOf H b)) := by
    intro b hb
    obtain ⟨ob, n, t1, t2, h1, h2, h3⟩ := obj b hb
    have hT : PyProof.Rows.G.isTupObj (h'.push (seqObj "list" (as.map Value.ref).toArray 0)) (.ref b) = true := by
      simp [PyProof.Rows.G.isTupObj, h1, h2]
    unfold PyProof.Rows.G.tupKeyC
    rw [if_pos hT]
    simp only [PyProof.Rows.tupKey, h1, h3]
    rfl
  refine wpAny_bind (wpAny_holding (wpAny_call_entry PyProof.Rows.slot_list_sort ⟨_, hoL, rfl⟩ PyProof.Rows.entry_list_sort
    (PyProof.Rows.G.list_sort_tups (s := { s with heap := h'.push (seqObj "list" (as.map Value.ref).toArray 0), toks := tk }) hoL hfs
      (fun v hv => ?_) hal fun st' hp hs _ => ⟨_, rfl, ?_⟩) (PyProof.Rows.args_list_sort _)))
  · obtain ⟨b, hb, rfl⟩ := List.mem_map.mp hv
    exact ⟨_, keyC b hb⟩
  obtain ⟨e', he'⟩ := PyProof.Rows.sortedHeap_at (vs := as.map Value.ref) (out := (arrOf st').map (·.2)) hoL
  have mem : ∀ p ∈ (arrOf st').toList, p.1 = p.2 ∧ p.1 ∈ as.map Value.ref := fun p hp' => by
    have h1 := (hp.toList.mem_iff (a := p)).mp hp'
    rw [PyProof.Rows.pairsOf_toList] at h1
    exact PyProof.Rows.mem_zip_self h1
  obtain ⟨qs, hq1, hq2⟩ : ∃ qs : List Addr, (arrOf st').toList.map (·.2) = qs.map Value.ref ∧ qs.Perm as := by
    have h1 : ((arrOf st').toList.map (·.2)).Perm (as.map Value.ref) := by
      have h2 := hp.toList.map (fun p : Keyed => p.2)
      rw [PyProof.Rows.pairsOf_toList] at h2
      rw [List.map_snd_zip (Nat.le_refl _)] at h2
      exact h2
    exact perm_back h1
  have hql : qs.length = as.length := hq2.length_eq
  have harr : (arrOf st').toList.length = qs.length := by
    have h1 := congrArg List.length hq1
    rw [List.length_map, List.length_map] at h1
    exact h1
  have hkk : ∀ i, i < qs.length → PyProof.Rows.KK (PyProof.Rows.G.tupKindC (h'.push (seqObj "list" (as.map Value.ref).toArray 0)) fun _ => true) (arrOf st') i = txt2 (prOf H (qs.getD i 0)) := by
    intro i hi
    have hi' : i < (arrOf st').toList.length := by omega
    have e1 : (arrOf st')[i]? = some (arrOf st').toList[i] := by
      rw [← Array.getElem?_toList, List.getElem?_eq_getElem hi']
    obtain ⟨m1, m2⟩ := mem _ (List.getElem_mem hi')
    have e2 : (arrOf st').toList[i].2 = .ref (qs.getD i 0) := by
      have h1 := congrArg (fun l => l[i]?) hq1
      simp only [List.getElem?_map, List.getElem?_eq_getElem hi', List.getElem?_eq_getElem hi, Option.map_some, Option.some.injEq] at h1
      rw [h1, List.getD_eq_getElem?_getD, List.getElem?_eq_getElem hi]
      rfl
    have hin : qs.getD i 0 ∈ as := hq2.mem_iff.mp (by rw [List.getD_eq_getElem?_getD, List.getElem?_eq_getElem hi]; exact List.getElem_mem hi)
    unfold PyProof.Rows.KK
    rw [e1]
    show (PyProof.Rows.G.tupKeyC _ _ (arrOf st').toList[i].1).getD _ = _
    rw [m1, e2, keyC _ hin]
    rfl
  have srt : ∀ i j, i ≤ j → j < qs.length → ltSS (prOf H (qs.getD j 0)) (prOf H (qs.getD i 0)) = false := by
    intro i j hij hj
    have h1 := hs i j hij (by rw [PyProof.Rows.pairsOf_size, List.length_map]; omega)
    rw [hkk i (by omega), hkk j hj] at h1
    exact h1
  have vals : ∀ l : List Addr, Vals (l.map V.ref) (l.map Value.ref) := fun l => by
    induction l with
    | nil => exact .nil
    | cons b l ih => exact .cons rfl ih
  have hout : ((arrOf st').map (·.2)).toList = qs.map Value.ref := by
    rw [Array.toList_map]
    exact hq1
  have hz2 : (qs.map V.ref).length ≤ sizeLine := by
    rw [List.length_map, hql]
    rw [List.length_map] at hal
    exact hal
  have fresh := I1.hok.fresh (Nat.le_refl h'.objs.size)
  refine wpAny_pure ⟨.ref h'.objs.size, rfl, .ref h'.objs.size, upd H h'.objs.size (.lst (qs.map V.ref)), ?_, rfl, q as qs _ k1 k2 hq2 srt fresh⟩
  refine I1.laid (t' := tk) (fun b u e => ?_) (Nat.le_refl _) ⟨hz2, qs.map Value.ref, e', vals qs, ?_⟩
  · have hb : b < h'.objs.size := Heap.lt_size e
    rw [PyProof.Rows.sortedHeap_old (Nat.ne_of_lt hb) (by rw [size_push']; exact Nat.lt_succ_of_lt hb)]
    exact Heap.get?_push_of_some _ e
  · rw [← hout, Array.toArray_toList]
    exact he'
end
end Mq

namespace Mq
open PySem PySem.Spec PyProof.Rows L2
/-! ### pairs of texts by <= -/
def leSS (x y : Str × Str) : Bool := if x.1 = y.1 then (if x.2 = y.2 then true else !decide (y.2.cps.toList < x.2.cps.toList)) else !decide (y.1.cps.toList < x.1.cps.toList)
theorem op_leSS {X : Cx} (hu : X.A.units < cLine) : OpR X (compareOp .LtE) (fun x y H Q => ∃ (a b : Addr) (p q : Str × Str), x = .ref a ∧ y = .ref b ∧ SqT X.K H a [.str p.1, .str p.2] ∧ SqT X.K H b [.str q.1, .str q.2] ∧ Q (.bl (leSS p q)) H) := by
  intro pins s σ H x y v u Q I rx ry h
  obtain ⟨a, b, p, q, rfl, rfl, ha, hb, k⟩ := h
  cases rx
  cases ry
  obtain ⟨its, r1, p1, _⟩ := I.tuple ha
  obtain ⟨its2, r2, p2, _⟩ := I.tuple hb
  obtain ⟨u1, u2, rfl, ⟨t1, rfl⟩, ⟨t2, rfl⟩⟩ := vals2 r1
  obtain ⟨v1, v2, rfl, ⟨t3, rfl⟩, ⟨t4, rfl⟩⟩ := vals2 r2
  let e : Nat → Bool := fun j => if j = 0 then p.1 == q.1 else p.2 == q.2
  let r : Nat → Bool := fun j => if j = 0 then !decide (q.1.cps.toList < p.1.cps.toList) else !decide (q.2.cps.toList < p.2.cps.toList)
  have R := Ob.RcOp.tuples_le (A := X.A) (s := s) (e := e) (r := r) p1 p2 hu (fun j h1 h2 => by
    match j, h1, h2 with
    | 0, _, _ => exact SeqAt.EqAt.str_str _ _ _ _
    | 1, _, _ => exact SeqAt.EqAt.str_str _ _ _ _) (fun j h1 h2 _ => by
    match j, h1, h2 with
    | 0, _, _ => exact fun prog w E Q h => PySem.P.le_str h
    | 1, _, _ => exact fun prog w E Q h => PySem.P.le_str h)
  have z : Ob.lexAt e r (decide ((#[Value.str p.1 t1, Value.str p.2 t2] : Array Value).size ≤ (#[Value.str q.1 t3, Value.str q.2 t4] : Array Value).size)) 0 2 = leSS p q := by
    show (if (p.1 == q.1) = true then (if (p.2 == q.2) = true then true else !decide (q.2.cps.toList < p.2.cps.toList)) else !decide (q.1.cps.toList < p.1.cps.toList)) = _
    unfold leSS
    simp only [beq_iff_eq]
  have R2 : Ob.RcOp .LtE X.A s (.ref a) (.ref b) (leSS p q) := by
    rw [← z]
    exact R
  exact R2 X.prog X.w X.xe (EP X pins σ Q) ⟨.bl _, H, I, rfl, k⟩
/-- ahead, so not behind or equal -/
theorem le_of_lt {x y : Str × Str} (h : ltSS y x = true) : leSS x y = false := by
  have h1 : (decide (y.1.cps.toList < x.1.cps.toList) || (!decide (x.1.cps.toList < y.1.cps.toList) && (decide (y.2.cps.toList < x.2.cps.toList) || (!decide (x.2.cps.toList < y.2.cps.toList) && false)))) = true := h
  unfold leSS
  by_cases c1 : y.1.cps.toList < x.1.cps.toList
  · rw [if_neg (fun z => by rw [z] at c1; exact List.lt_irrefl _ c1), decide_eq_true c1]
    rfl
  · rw [decide_eq_false c1] at h1
    simp only [Bool.false_or, Bool.and_false, Bool.or_false, Bool.and_eq_true, Bool.not_eq_true', decide_eq_false_iff_not, decide_eq_true_eq] at h1
    obtain ⟨c2, c3⟩ := h1
    have e : x.1.cps.toList = y.1.cps.toList := List.le_antisymm (List.not_lt.mp c1) (List.not_lt.mp c2)
    have e' : x.1 = y.1 := congrArg Str.mk (Array.ext' e)
    rw [if_pos e', if_neg (fun z => by rw [z] at c3; exact List.lt_irrefl _ c3), decide_eq_true c3]
    rfl
theorem lt_of {x y : Str × Str} (h : ltSS x y = false) (n : x ≠ y) : ltSS y x = true := by
  cases e : ltSS y x with
  | true => rfl
  | false =>
    have h2 : txt2 x = txt2 y := (PyProof.Rows.listOrd PyProof.Rows.itemOrd).total _ _ h e
    injection h2 with h3 h4
    injection h4 with h5 _
    have e1 : x.1.cps.toList = y.1.cps.toList := by injection h3
    have e2 : x.2.cps.toList = y.2.cps.toList := by injection h5
    exact (n (Prod.ext (congrArg Str.mk (Array.ext' e1)) (congrArg Str.mk (Array.ext' e2)))).elim
end Mq

namespace Mq
open PySem PySem.Spec PyProof.Rows L2
open SX (S)
/-! ### a text cut at a sign -/
def spl (c : Nat) (a : List Nat) : List (List Nat) := (Txt.split (S a) (S [c])).map fun x => x.cps.toList
theorem spl_S (c : Nat) (a : List Nat) : Txt.split (S a) (S [c]) = (spl c a).map S := by
  unfold spl
  rw [List.map_map]
  exact (List.map_id _).symm
theorem spl_join (c : Nat) (a : List Nat) : TL.joinL [c] (spl c a) = a := by
  have h := StrLaws.join_split (S a) (S [c])
  rw [spl_S] at h
  have h2 : Txt.join (S [c]) ((spl c a).map S) = S a := (TL.join_eq _ _).trans h
  rw [SX.join_S] at h2
  exact SX.S_inj h2
theorem spl_of {c : Nat} (hc : c < 256) {ps : List (List Nat)} (hn : ps ≠ []) (h : ∀ p ∈ ps, c ∉ p) : spl c (TL.joinL [c] ps) = ps := by
  have h1 := TL.split_join (y := S [c]) (s := c) (S := []) rfl (by simp [S, hc]) (parts := ps.map S) (by simpa using hn) (fun p hp => by
    obtain ⟨q, hq, rfl⟩ := List.mem_map.mp hp
    exact h q hq)
  rw [SX.join_S, spl_S] at h1
  have h2 := congrArg (List.map fun x : Str => x.cps.toList) h1
  rw [List.map_map, List.map_map] at h2
  have e : ∀ xs : List (List Nat), xs.map ((fun x : Str => x.cps.toList) ∘ S) = xs := fun xs => List.map_id _
  rw [e, e] at h2
  exact h2
theorem spl_ne (c : Nat) (a : List Nat) : spl c a ≠ [] := by
  intro h
  have := PyProof.Rows.split_pos (S a) (S [c])
  rw [spl_S, h] at this
  cases this
theorem join_len (c : Nat) : ∀ ps : List (List Nat), ps ≠ [] → (TL.joinL [c] ps).length + 1 = (ps.map fun p => p.length + 1).sum
  | [], h => (h rfl).elim
  | [p], _ => by simp [TL.joinL]
  | p :: q :: r, _ => by
    have ih := join_len c (q :: r) (by simp)
    show (p ++ ([c] ++ TL.joinL [c] (q :: r))).length + 1 = (p.length + 1) + ((q :: r).map fun p => p.length + 1).sum
    rw [← ih]
    simp only [List.length_append, List.length_singleton]
    omega
theorem join_mem (c : Nat) : ∀ {ps : List (List Nat)} {p : List Nat}, p ∈ ps → ∀ d ∈ p, d ∈ TL.joinL [c] ps
  | [q], p, h, d, hd => by
    rw [List.mem_singleton.mp h] at hd
    exact hd
  | q :: q2 :: r, p, h, d, hd => by
    show d ∈ q ++ ([c] ++ TL.joinL [c] (q2 :: r))
    rcases List.mem_cons.mp h with rfl | h
    · exact List.mem_append_left _ hd
    · exact List.mem_append_right _ (List.mem_append_right _ (join_mem c h d hd))
theorem join_in (c : Nat) : ∀ {ps : List (List Nat)} {d : Nat}, d ∈ TL.joinL [c] ps → d = c ∨ ∃ p ∈ ps, d ∈ p
  | [], d, h => by cases h
  | [q], d, h => Or.inr ⟨q, List.mem_cons_self, h⟩
  | q :: q2 :: r, d, h => by
    have h : d ∈ q ++ ([c] ++ TL.joinL [c] (q2 :: r)) := h
    rcases List.mem_append.mp h with h | h
    · exact Or.inr ⟨q, List.mem_cons_self, h⟩
    rcases List.mem_append.mp h with h | h
    · exact Or.inl (List.mem_singleton.mp h)
    · rcases join_in c h with e | ⟨p, hp, e⟩
      · exact Or.inl e
      · exact Or.inr ⟨p, List.mem_cons_of_mem _ hp, e⟩
theorem sum_ge : ∀ {ps : List (List Nat)} {p : List Nat}, p ∈ ps → p.length + 1 ≤ (ps.map fun p => p.length + 1).sum
  | q :: r, p, h => by
    rw [List.map_cons, List.sum_cons]
    rcases List.mem_cons.mp h with rfl | h
    · omega
    · have := sum_ge h
      omega
theorem sum_many : ∀ ps : List (List Nat), ps.length ≤ (ps.map fun p => p.length + 1).sum
  | [] => Nat.zero_le _
  | q :: r => by
    rw [List.map_cons, List.sum_cons, List.length_cons]
    have := sum_many r
    omega
theorem spl_sum (c : Nat) (a : List Nat) : ((spl c a).map fun p => p.length + 1).sum = a.length + 1 := by
  have h := join_len c (spl c a) (spl_ne c a)
  rw [spl_join] at h
  exact h.symm
theorem spl_len {c : Nat} {a p : List Nat} (h : p ∈ spl c a) : p.length ≤ a.length := by
  have h1 := sum_ge h
  rw [spl_sum] at h1
  omega
theorem spl_many (c : Nat) (a : List Nat) : (spl c a).length ≤ a.length + 1 := by
  rw [← spl_sum c a]
  exact sum_many _
theorem spl_mem {c : Nat} {a p : List Nat} (h : p ∈ spl c a) {d : Nat} (hd : d ∈ p) : d ∈ a := by
  have := join_mem c h d hd
  rw [spl_join] at this
  exact this
end Mq


namespace MqE_line
open PySem PySem.Spec PyProof.Rows L2 Mq PySem.W PySem.Calls
/-! ### errors whose one parameter is line -/
def iA (p1 p2 : Pos) : Arguments := { posonlyargs := [], args := [{ arg := "self", annotation := none, pos := p1 }, { arg := "line", annotation := none, pos := p2 }], vararg := none, kwonlyargs := [], kw_defaults := [], kwarg := none, defaults := [] }
def iB (q1 q2 q3 q4 : Pos) : List Stmt := [.Assign [.Attribute (.Name "self" q1) "line" q2] (.Name "line" q3) q4]
def iS : Scope := { kind := .function, names := [(PySem.Str.ofString "self", .local), (PySem.Str.ofString "line", .local)], isGenerator := false, isCoroutine := false, more := [] }
/-- what the written part says of the class x at C, and of its __init__ at fI -/
structure Txt (K : Frag) (mg : Str → Option Value) (x qual : Str) (C fI : Addr) : Prop where
  gC : mg x = some (.ref C)
  kC : keepIn K (.ref C) = true
  ex : excInitIn K C exTail "Exception.__new__" = true
  ov : excOver K C exTail = true
  hdC : hasDictIn K C = true
  tk : takerIn K C "line" = some none
  sa : findIn K (.ref C) "__setattr__" = some (some (.builtin "object.__setattr__"))
  iC : findIn K (.ref C) "__init__" = some (some (.ref fI))
  tC : typeIn K (.ref fI) = some (.type "function")
  exC : subIn K (.ref C) (.type "BaseException") = some true
  tyC : typeIn K (.ref C) = some (.type "type")
  fn : ∃ (oc : Value) (od : Option Addr) (doc pm : Value) (an : Option Addr) (cdv ct : Value) (osl : Array (Option Value)) (p1 p2 q1 q2 q3 q4 : Pos),
    K.lookup fI = some ⟨oc, od, .func (fnOf "__init__" qual (iA p1 p2) (iB q1 q2 q3 q4) iS .none .none doc pm an cdv ct), osl⟩ ∧ codeIn K cdv qual = true
theorem ld_loc {M : Model} {s : Shared} {name : Str} {scope : Scope} {L a : Addr} {cd : Value} {m : Str → Option Value} {y : Str} {pos : Pos} {v : Value}
    {Q : Value → Shared → Prop} {A : Around} {E : Value → Shared → Prop} (hn : s.heap.Ns L m) (hv : m y = some v) (h : Q v s)
    (hk : scope.kind = .function := by rfl) (hl : (envOfC name scope L a cd).kindOf y = some .local := by rfl) (hd : (y == ("__debug__" : Str)) = false := by decide) :
    wpAny M A (eval (.Name y pos) (envOfC name scope L a cd)) Q E s := wpAny_Name (wpAny_loadName_local hk hl hn hv h) hd
/-- what __init__ leaves of a new error at e -/
structure Filled (h h' : Heap) (e C dx t1 : Addr) (v : Value) : Prop where
  keep : ∀ b o, b ≠ e → h.get? b = some o → h'.get? b = some o
  obj : h'.get? e = some (excObj C t1 (some dx) .none)
  big : h.objs.size ≤ dx
  ne : dx ≠ e
  ns : h'.Ns1 dx (fun y => if y = "line" then some v else none)
/-- a made error -/
structure Made (h h' : Heap) (e C d : Addr) (v : Value) : Prop where
  keep : ∀ b o, h.get? b = some o → h'.get? b = some o
  new : h.objs.size ≤ e
  obj : ∃ oe vs, h'.get? e = some oe ∧ oe.cls = .ref C ∧ oe.dict = some d ∧ oe.data = .fields vs ∧ vs[1]? = some .none
  big : h.objs.size ≤ d
  ne : d ≠ e
  ns : h'.Ns1 d (fun y => if y = "line" then some v else none)
section
variable {prog : Program} {w : World} {A : Around} {E : Value → Shared → Prop} {R : Result → Shared → Prop} {s : Shared} {K : Frag} {mg : Str → Option Value} {x qual : Str} {C fI : Addr}
theorem init_run (T : Txt K mg x qual C fI) {e t0 : Addr} {v : Value} (X : K.In s.heap) (lim : s.heap.NoLimit) (he : s.heap.get? e = some (excObj C t0 none .none)) (room : A.depth < recursionLimit)
    (hq : ∀ h' tk dx, Filled s.heap h' e C dx t0 v → R (.ok (.ret .none)) { s with heap := h', toks := tk }) :
    codeAny (model prog w) A (.call (.ref fI) ⟨[.ref e, v], []⟩) R s := by
  obtain ⟨oc, od, doc, pm, an, cdv, ct, osl, p1, p2, q1, q2, q3, q4, ho, hcd⟩ := T.fn
  refine Att.call_fn (binds := [("self", .ref e), ("line", v)]) X lim ho hcd room (BindsTo.of_eq (by first | rfl | with_unfolding_all rfl)) (by first | rfl | decide | with_unfolding_all rfl) (fun s₁ IC => ?_) rfl rfl rfl
  obtain ⟨h₁, tk₁, rfl⟩ := IC.toInCall.same
  have k : ∀ b o, s.heap.get? b = some o → h₁.get? b = some o := IC.toInCall.keep
  have hn := IC.toInCall.ns
  have X₁ : K.In h₁ := X.keeps k
  have he₁ := k _ _ he
  show wpAny _ _ (execs _ _) _ _ _
  refine wpAny_execs_cons (plainObj_wpAny_Assign_Attribute ?_)
  refine ld_loc (v := v) hn (by first | rfl | with_unfolding_all rfl | kernel_rfl) (ld_loc (v := .ref e) hn (by first | rfl | with_unfolding_all rfl | kernel_rfl) ?_)
  refine set_plain X₁ (ox := excObj C t0 none .none) (od := none) ⟨he₁, rfl, rfl, trivial⟩ T.sa ?_
  refine osa_first X₁ he₁ T.ov T.hdC T.tk (fun h₃ tk₃ dx k₃ dn dne he₃ hn₃ => ?_)
  show wpAny _ _ (execs _ _) _ _ _
  have z : s.heap.objs.size < h₁.objs.size := hn.lt
  exact wpAny_execs_nil (hq h₃ tk₃ dx ⟨fun b o hb e => k₃ b o hb (k b o e), he₃, Nat.le_of_lt (Nat.lt_of_lt_of_le z dn), dne, hn₃⟩)
theorem made_run (T : Txt K mg x qual C fI) {v : Value} (X : K.In s.heap) (lim : s.heap.NoLimit) (room : A.depth + 1 < recursionLimit)
    (hq : ∀ h' tk e d, Made s.heap h' e C d v → R (.ok (.ret (.ref e))) { s with heap := h', toks := tk }) :
    codeAny (model prog w) A (.call (.ref C) ⟨[v], []⟩) R s := by
  obtain ⟨nm, N, qn, bs, bm, hdct, sn, sub, ab, col, dd, k0, k1, k2, k3, k5, hC, hT⟩ := excInit_of X T.ex
  obtain ⟨hp, g, dr, tk, os⟩ := s
  have k : ∀ b o, hp.get? b = some o → ((hp.push (kdv_tup [v])).push (HandSPX.excO C hp.objs.size)).get? b = some o := fun b o e => Heap.get?_push_of_some _ (Heap.get?_push_of_some _ e)
  have hget : ((hp.push (kdv_tup [v])).push (HandSPX.excO C hp.objs.size)).get? (hp.objs.size + 1) = some (excObj C hp.objs.size none .none) := by heap_get
  refine HandSPX.call_own F.excBase_Exception hT hC (looks_findIn X T.iC) (fun self => bind_fn X self T.tC) (by rw [sizeLine_eq]; exact (by decide : 1 ≤ 16777216)) ?_
  refine init_run (s := ⟨(hp.push (kdv_tup [v])).push (HandSPX.excO C hp.objs.size), g, dr, tk, os⟩) T (X.keeps k) (lim.keeps k) hget ?_ (fun h' tk' dx M => ?_)
  · show A.depth + 1 < recursionLimit
    exact room
  · obtain ⟨k', hx, dn, dne, hns⟩ := M
    have old : ∀ b o, hp.get? b = some o → h'.get? b = some o := fun b o e => k' b o (Nat.ne_of_lt (Nat.lt_succ_of_lt (Heap.lt_size e))) (k b o e)
    have z : hp.objs.size + 1 + 1 ≤ dx := by
      have q := dn
      rw [Heap.size_push, Heap.size_push] at q
      exact q
    exact ⟨rfl, hq h' tk' (hp.objs.size + 1) dx ⟨old, Nat.le_succ _, ⟨_, _, hx, rfl, rfl, rfl, rfl⟩, Nat.le_trans (Nat.le_trans (Nat.le_succ _) (Nat.le_succ _)) z, dne, hns⟩⟩
end
theorem relO_f {v : V} {v' : Value} (r : RelV v v') (f : Str) : RelO (List.lookup f [(("line" : Str), v)]) (if f = "line" then some v' else none) := by
  by_cases hw : f = "line"
  · subst hw
    rw [if_pos rfl]
    have q : List.lookup ("line" : Str) [(("line" : Str), v)] = some v := by simp [List.lookup]
    rw [q]
    exact r
  · rw [if_neg hw]
    have qw : (f == ("line" : Str)) = false := by simpa using hw
    have q2 : List.lookup f [(("line" : Str), v)] = none := by simp [List.lookup, qw]
    rw [q2]
    trivial
section
variable {X : Cx} {C fI : Addr} {x qual : Str}
/-- x(e) -/
def tMk (C : Addr) (ta : TA) : L2.St → Hp → XK → Prop := fun σ H Q => ta σ H fun vs H1 => ∃ v, vs = [v] ∧ ∀ d, H1 d = none → Q (.ref C) (some d) (upd H1 d (.xd [(("line" : Str), v)]))
theorem pmk {a : Expr} {ta : TA} {p pos : Pos} {k : Nat} (T : Txt X.K X.mg x qual C fI) (hr : Room k X.A) (ha : PA X [a] ta) (hg : Gl X x := by rfl) (hdb : (x == ("__debug__" : Str)) = false := by decide)
    (he : starEach (a :: []) X.env = (false, eval a X.env) :: starEach [] X.env := by rfl) (hpl : (backTo pos (starEach [] X.env)).any (·.1) = false := by rfl) :
    PMk X (.Call (.Name x p) [a] [] pos) (tMk C ta) := by
  intro pins s σ H Q I h
  refine wpAny_Call_Name_kw (ld_glob I hg T.gC ?_ hdb)
  refine callWith_K (h₀ := X.base) I.ok.mod.kin T.kC (thn (ha.run pos pins s σ H _ I h) fun us s1 hh => ?_) he hpl
  obtain ⟨vs, H1, I1, r1, v, ev, q1⟩ := hh
  subst ev
  refine ⟨I1.kIn, ?_⟩
  cases r1 with
  | cons rv rn =>
    rename_i v' us'
    cases rn
    show wpAny _ _ (call (.ref C) [v']) _ _ _
    have hlim := I1.nolimit
    obtain ⟨hp, g, dr, tk, os⟩ := s1
    refine wpAny_call (made_run T I1.kIn hlim (by have := hr.dp; omega) (fun h' tk' e d M => ?_))
    show MkP X pins σ Q (.ref e) ⟨h', g, dr, tk', os⟩
    obtain ⟨oe, fv, hoe, hc, hd, hdat, h1⟩ := M.obj
    have hns := M.ns
    obtain ⟨G', g1, g2⟩ := restrict h' fun b => decide (b ≠ e)
    have gk : ∀ b, b ≠ e → G'.get? b = h'.get? b := fun b hb => g1 b (decide_eq_true hb)
    have ge : G'.get? e = none := g2 e (by simp)
    have old : ∀ b o, hp.get? b = some o → G'.get? b = some o := fun b o q => (gk b (Nat.ne_of_lt (Nat.lt_of_lt_of_le (Heap.lt_size q) M.new))).trans (M.keep b o q)
    have ob : ObjOk X.prog X.w (upd H1 d (.xd [(("line" : Str), v)])) G' d (.xd [(("line" : Str), v)]) :=
      ⟨_, hns.at (fun o q => (gk d M.ne).trans q), fun f => relO_f rv f⟩
    have J : L2.Inv X pins σ (upd H1 d (.xd [(("line" : Str), v)])) ⟨G', g, dr, tk', os⟩ := I1.laid (t' := tk') old M.big ob
    refine ⟨e, oe, fv, ⟨G', g, dr, tk', os⟩, _, .ref C, some d, rfl, J, (fun b o q => ?_), ge, hoe, ⟨hc, hd⟩, hdat, h1, ?_, rfl, I1.bare, raises_own T.exC T.tyC, q1 d (I1.hok.fresh M.big)⟩
    · by_cases hb : b = e
      · have q' : G'.get? b = some o := q
        rw [hb, ge] at q'
        cases q'
      · exact (gk b hb).symm.trans q
    · rw [upd_ne (Ne.symm M.ne)]
      exact I1.hok.fresh M.new
/-- raise x(e) -/
def tRaise (C : Addr) (W : WX) (ta : TA) : TS := fun _ σ H => tMk C ta σ H fun cls d H' => W cls d σ H'
theorem ps_raise {a : Expr} {ta : TA} {W : WX} {p pos pos2 : Pos} {k : Nat} (hc : X.calm = true) (T : Txt X.K X.mg x qual C fI) (hr : Room k X.A) (tk : Takes X W) (ha : PA X [a] ta) (hg : Gl X x := by rfl) (hdb : (x == ("__debug__" : Str)) = false := by decide)
    (he : starEach (a :: []) X.env = (false, eval a X.env) :: starEach [] X.env := by rfl) (hpl : (backTo pos (starEach [] X.env)).any (·.1) = false := by rfl) :
    PS X (.Raise (some (.Call (.Name x p) [a] [] pos)) none pos2) (tRaise C W ta) := L2.ps_raise hc tk (pmk T hr ha hg hdb he hpl)
end
end MqE_line

namespace Mq
open PySem PySem.Spec PyProof.Rows L2
/-- repr of a list or tuple without dicts in it, wherever it stands -/
def rRepP (K : PySem.W.Frag) : List V → Hp → VK → Prop := fun xs H Q => ∃ (a : Addr) (d : PyData), xs = [.ref a] ∧ Dp K H (.ref a) d ∧ d.showable = true ∧ d.hasDict = false ∧
  d.depth ≤ 40 ∧ d.shown.length ≤ sizeLine ∧ Q (.str d.shown) H
theorem call_repP {X : Cx} {k : Nat} (hr : Room k X.A) (gA : Still X.A) : CallR X (.builtin "repr") (rRepP X.K) := by
  intro pins s σ H xs us Q I r h
  obtain ⟨a, d, rfl, hd, hs, hz, hde, hl, q⟩ := h
  obtain ⟨u, rfl, rx⟩ := vals1 r
  have hu := hr.units
  obtain ⟨as, rd⟩ := Dp.reads I d _ _ hd rx
  cases rx
  exact repr_of_reads' rd hs (fun z => by rw [hz] at z; cases z) gA (by omega) (fun _ _ e => e) (fun h' u tk k => ⟨.str _, H, I.kept k, ⟨_, rfl⟩, q⟩) hl
/-- what a rule asks, told otherwise -/
theorem PE_imp {X : Cx} {e : Expr} {t t' : TE} (h : PE X e t) (i : ∀ σ H Q, t' σ H Q → t σ H Q) : PE X e t' := ⟨fun pins s σ H Q I q => h.run pins s σ H Q I (i σ H Q q)⟩
end Mq

namespace Mq
open PySem PySem.Spec PyProof.Rows L2
/-! ### (number, text) < (number, text) -/
def ltIS (x y : Int × Str) : Bool := if x.1 = y.1 then (if x.2 = y.2 then false else decide (x.2.cps.toList < y.2.cps.toList)) else decide (x.1 < y.1)
theorem op_ltIS {X : Cx} (hu : X.A.units < cLine) : OpR X (compareOp .Lt) (fun x y H Q => ∃ (a b : Addr) (p q : Int × Str), x = .ref a ∧ y = .ref b ∧ SqT X.K H a [.int p.1, .str p.2] ∧ SqT X.K H b [.int q.1, .str q.2] ∧ Q (.bl (ltIS p q)) H) := by
  intro pins s σ H x y v u Q I rx ry h
  obtain ⟨a, b, p, q, rfl, rfl, ha, hb, k⟩ := h
  cases rx
  cases ry
  obtain ⟨its, r1, p1, _⟩ := I.tuple ha
  obtain ⟨its2, r2, p2, _⟩ := I.tuple hb
  obtain ⟨u1, u2, rfl, ⟨t1, rfl⟩, ⟨t2, rfl⟩⟩ := vals2 r1
  obtain ⟨v1, v2, rfl, ⟨t3, rfl⟩, ⟨t4, rfl⟩⟩ := vals2 r2
  let e : Nat → Bool := fun j => if j = 0 then p.1 == q.1 else p.2 == q.2
  let r : Nat → Bool := fun j => if j = 0 then decide (p.1 < q.1) else decide (p.2.cps.toList < q.2.cps.toList)
  have R := Ob.RcOp.tuples_lt (A := X.A) (s := s) (e := e) (r := r) p1 p2 hu (fun j h1 h2 => by
    match j, h1, h2 with
    | 0, _, _ => exact SeqAt.EqAt.int_int _ _ _ _
    | 1, _, _ => exact SeqAt.EqAt.str_str _ _ _ _) (fun j h1 h2 _ => by
    match j, h1, h2 with
    | 0, _, _ => exact Ob.RcOp.lt_int _ _ _ _
    | 1, _, _ => exact fun prog w E Q h => PySem.P.lt_str h)
  have z : Ob.lexAt e r (decide ((#[Value.int p.1 t1, Value.str p.2 t2] : Array Value).size < (#[Value.int q.1 t3, Value.str q.2 t4] : Array Value).size)) 0 2 = ltIS p q := by
    show (if (p.1 == q.1) = true then (if (p.2 == q.2) = true then false else decide (p.2.cps.toList < q.2.cps.toList)) else decide (p.1 < q.1)) = _
    unfold ltIS
    simp only [beq_iff_eq]
  have R2 : Ob.RcOp .Lt X.A s (.ref a) (.ref b) (ltIS p q) := by
    rw [← z]
    exact R
  exact R2 X.prog X.w X.xe (EP X pins σ Q) ⟨.bl _, H, I, rfl, k⟩
end Mq

namespace Mq
open PySem PySem.Spec PyProof.Rows L2
/-! ### pairs of texts by <; the order's own laws -/
theorem le_not (x y : Str × Str) : leSS x y = !ltSS y x := by
  cases h : ltSS y x with
  | true => exact le_of_lt h
  | false =>
    unfold leSS
    have h1 : (decide (y.1.cps.toList < x.1.cps.toList) || (!decide (x.1.cps.toList < y.1.cps.toList) && (decide (y.2.cps.toList < x.2.cps.toList) || (!decide (x.2.cps.toList < y.2.cps.toList) && false)))) = false := h
    simp only [Bool.and_false, Bool.or_false, Bool.or_eq_false_iff, decide_eq_false_iff_not, Bool.and_eq_false_iff, Bool.not_eq_false', decide_eq_true_eq] at h1
    obtain ⟨c1, c2⟩ := h1
    by_cases e : x.1 = y.1
    · rw [if_pos e]
      by_cases e2 : x.2 = y.2
      · rw [if_pos e2]
        rfl
      · rw [if_neg e2]
        rcases c2 with c2 | c2
        · rw [e] at c2
          exact (List.lt_irrefl _ c2).elim
        · rw [decide_eq_false c2]
    · rw [if_neg e, decide_eq_false c1]
theorem lt_trans {x y z : Str × Str} (h : ltSS x y = true) (k : ltSS y z = true) : ltSS x z = true := (PyProof.Rows.listOrd PyProof.Rows.itemOrd).trans _ _ _ h k
theorem lt_irr (x : Str × Str) : ltSS x x = false := (PyProof.Rows.listOrd PyProof.Rows.itemOrd).irrefl _
theorem op_ltSS {X : Cx} (hu : X.A.units < cLine) : OpR X (compareOp .Lt) (fun x y H Q => ∃ (a b : Addr) (p q : Str × Str), x = .ref a ∧ y = .ref b ∧ SqT X.K H a [.str p.1, .str p.2] ∧ SqT X.K H b [.str q.1, .str q.2] ∧ Q (.bl (ltSS p q)) H) := by
  intro pins s σ H x y v u Q I rx ry h
  obtain ⟨a, b, p, q, rfl, rfl, ha, hb, k⟩ := h
  cases rx
  cases ry
  obtain ⟨its, r1, p1, _⟩ := I.tuple ha
  obtain ⟨its2, r2, p2, _⟩ := I.tuple hb
  obtain ⟨u1, u2, rfl, ⟨t1, rfl⟩, ⟨t2, rfl⟩⟩ := vals2 r1
  obtain ⟨v1, v2, rfl, ⟨t3, rfl⟩, ⟨t4, rfl⟩⟩ := vals2 r2
  let e : Nat → Bool := fun j => if j = 0 then p.1 == q.1 else p.2 == q.2
  let r : Nat → Bool := fun j => if j = 0 then decide (p.1.cps.toList < q.1.cps.toList) else decide (p.2.cps.toList < q.2.cps.toList)
  have R := Ob.RcOp.tuples_lt (A := X.A) (s := s) (e := e) (r := r) p1 p2 hu (fun j h1 h2 => by
    match j, h1, h2 with
    | 0, _, _ => exact SeqAt.EqAt.str_str _ _ _ _
    | 1, _, _ => exact SeqAt.EqAt.str_str _ _ _ _) (fun j h1 h2 _ => by
    match j, h1, h2 with
    | 0, _, _ => exact fun prog w E Q h => PySem.P.lt_str h
    | 1, _, _ => exact fun prog w E Q h => PySem.P.lt_str h)
  have z : Ob.lexAt e r (decide ((#[Value.str p.1 t1, Value.str p.2 t2] : Array Value).size < (#[Value.str q.1 t3, Value.str q.2 t4] : Array Value).size)) 0 2 = ltSS p q := by
    show (if (p.1 == q.1) = true then (if (p.2 == q.2) = true then false else decide (p.2.cps.toList < q.2.cps.toList)) else decide (p.1.cps.toList < q.1.cps.toList)) = (decide (p.1.cps.toList < q.1.cps.toList) || (!decide (q.1.cps.toList < p.1.cps.toList) && (decide (p.2.cps.toList < q.2.cps.toList) || (!decide (q.2.cps.toList < p.2.cps.toList) && false))))
    simp only [beq_iff_eq, Bool.and_false, Bool.or_false]
    by_cases e1 : p.1 = q.1
    · rw [if_pos e1, e1, decide_eq_false (List.lt_irrefl _)]
      by_cases e2 : p.2 = q.2
      · rw [if_pos e2, e2, decide_eq_false (List.lt_irrefl _)]
        rfl
      · rw [if_neg e2]
        rfl
    · rw [if_neg e1]
      by_cases c : p.1.cps.toList < q.1.cps.toList
      · rw [decide_eq_true c]
        rfl
      · have c2 : q.1.cps.toList < p.1.cps.toList := by
          by_cases c2 : q.1.cps.toList < p.1.cps.toList
          · exact c2
          · exact (e1 (congrArg Str.mk (Array.ext' (List.le_antisymm (List.not_lt.mp c2) (List.not_lt.mp c))))).elim
        rw [decide_eq_false c, decide_eq_true c2]
        rfl
  have R2 : Ob.RcOp .Lt X.A s (.ref a) (.ref b) (ltSS p q) := by
    rw [← z]
    exact R
  exact R2 X.prog X.w X.xe (EP X pins σ Q) ⟨.bl _, H, I, rfl, k⟩
end Mq

namespace Mq
open PySem PySem.Spec PyProof.Rows L2
/-! ### f(k = v, ..), all by keyword -/
theorem vals_rev : ∀ {vs : List V} {us : List Value}, Vals vs us → Vals vs.reverse us.reverse
  | _, _, .nil => .nil
  | _, _, .cons r h => by
    rw [List.reverse_cons, List.reverse_cons]
    exact (vals_rev h).append (.cons r .nil)
def rev0 {α : Type} (_ ws : List α) : List α := ws.reverse
section
variable {X : Cx} {CX : CXT} {k : Nat} {f : Addr} {fd : FuncData} {ps ks : List Str} {sp : Sp}
  {E : L2.St → XK} {x : Str} {p pos : Pos} {kws : List Keyword} {tk : TA}
  {g : List Value → List Value → List Value} {gV : List V → List V → List V}
def tCallK0 (m : Nat) (sp : Sp) (gV : List V → List V → List V) (E : L2.St → XK) (tk : TA) : TE := fun σ H Q => tk σ H fun zs H2 => zs.length = m ∧ sp (gV [] zs) H2 Q (E σ)
theorem pe_callK0 (F : FnOk X.prog X.w X.K X.mg X.base CX k f fd ps sp) (hr : Room k X.A) (hg : Gl X x) (hm : X.mg x = some (.ref f)) (hk : PySem.W.keepIn X.K (.ref f) = true) (hb : KBn X.K fd ps 0 ks g gV)
    (hx : ∀ σ, PassesAt CX X σ (E σ)) (hkw : PK X kws tk)
    (hall : (backToKw pos (keywordEach kws X.env)).all (·.1.isSome) = true := by rfl)
    (hks : (backToKw pos (keywordEach kws X.env)).filterMap (·.1) = ks := by rfl)
    (hdb : (x == ("__debug__" : Str)) = false := by decide)
    (hpl : ((backTo pos (starEach [] X.env)).any (·.1) || (backToKw pos (keywordEach kws X.env)).any (·.1.isNone)) = false := by rfl) :
    PE X (.Call (.Name x p) [] kws pos) (tCallK0 ks.length sp gV E tk) := by
  refine ⟨fun pins s σ H Q I h => ?_⟩
  refine wpAny_Call_Name_kw (ld_glob I hg hm ?_ hdb)
  refine PySem.W.callWith_KW0 (h₀ := X.base) I.ok.mod.kin hk hall ?_ hpl
  refine thn (hkw.run pos pins s σ H _ I h) fun ws s2 ⟨zs, H2, I2, rz, hl, q2⟩ => ⟨I2.kIn, ?_⟩
  rw [hks]
  have r2 := hb.rel (vs := []) (us := []) .nil rz
  have lw : ws.length = ks.length := rz.length.symm.trans hl
  refine wpAny_call (codeAny_mono (F.run X.A X.stack s2 H2 ⟨[], ks.zip ws⟩ (g [] ws) (gV [] zs) Q (E σ) hr I2.env0
    (hb.to s2 [] ws I2.kIn rfl lw) r2 q2) (fun r s' hq => ?_))
  match r, hq with
  | .error er, hq => exact hx σ pins H2 s2 er s' I2 hq
  | .ok (.ret u), hq => exact I2.after hq
  | .ok .next, hq => exact hq.elim
  | .ok .brk, hq => exact hq.elim
  | .ok .cont, hq => exact hq.elim
end
theorem kbn_rev2 {K : PySem.W.Frag} {x qual : Str} {st : Stmt} {f : Addr} {fd : FuncData} {p1 p2 : Str} (F : Fun K x qual st f fd)
    (h : ∀ (kV doc pm : Value) (an : Option Addr) (cdv ct : Value) (a b : Value), bindArgs (PySem.W.fnOf x qual (defArgs st) (defBody st) (defScope st) .none kV doc pm an cdv ct) ⟨[], [(p2, a), (p1, b)]⟩ = pure [(p1, b), (p2, a)]) :
    KBn K fd [p1, p2] 0 [p2, p1] rev0 rev0 := by
  obtain ⟨oc, od, kV, doc, pm, an, cdv, ct, osl, rfl, lk, hcd⟩ := F.ex
  refine ⟨fun s us ws _ h1 h2 => ?_, fun a b => vals_rev b⟩
  match us, ws, h1, h2 with
  | [], [a, b], _, _ => exact .of_eq (h kV doc pm an cdv ct a b)
theorem kbn_rev3 {K : PySem.W.Frag} {x qual : Str} {st : Stmt} {f : Addr} {fd : FuncData} {p1 p2 p3 : Str} (F : Fun K x qual st f fd)
    (h : ∀ (kV doc pm : Value) (an : Option Addr) (cdv ct : Value) (a b c : Value), bindArgs (PySem.W.fnOf x qual (defArgs st) (defBody st) (defScope st) .none kV doc pm an cdv ct) ⟨[], [(p3, a), (p2, b), (p1, c)]⟩ = pure [(p1, c), (p2, b), (p3, a)]) :
    KBn K fd [p1, p2, p3] 0 [p3, p2, p1] rev0 rev0 := by
  obtain ⟨oc, od, kV, doc, pm, an, cdv, ct, osl, rfl, lk, hcd⟩ := F.ex
  refine ⟨fun s us ws _ h1 h2 => ?_, fun a b => vals_rev b⟩
  match us, ws, h1, h2 with
  | [], [a, b, c], _, _ => exact .of_eq (h kV doc pm an cdv ct a b c)
end Mq

namespace Mq
open PySem PySem.Spec PyProof.Rows L2 ClX
/-! ### classmethods where what is raised is wished for at the slots as they stand; a class that stands in a slot -/
section
variable {X : Cx} {CX : CXT} {k n : Nat} {f g C p0 : Addr} {mc : Value} {fd : FuncData} {ps ks : List Str} {sp : Sp} {E : XK} {ES : L2.St → XK}
  {gg : List Value → List Value → List Value} {gV : List V → List V → List V} {pins : List (Addr × Obj)} {σ : L2.St} {H : Hp} {s : Shared} {Q : VK} {us ws : List Value} {vs zs : List V}
  {x m : Str} {p pos apos : Pos} {kws : List Keyword} {tk t ta tf : TA} {o e : Expr} {es : List Expr} {tc : TE} {pl : Sem Bool}
/-- x(e, ..), x a slot that holds the class C -/
def tMakeV (C : Addr) (sp : Sp) (E : XK) (tc : TE) (t : TA) : TE := fun σ H Q => tc σ H fun c H1 => c = .ref C ∧ t σ H1 fun vs H2 => ∀ x dx, H2 x = none → H2 dx = none → dx ≠ x → sp (.ref x :: vs) (upd (upd H2 dx (.own x)) x (.ins C dx [])) (fun v H3 => v = .non ∧ Q (.ref x) H3) E
theorem pe_makeV (M : Mk X.K C f) (F : FnOk X.prog X.w X.K X.mg X.base CX k f fd ps sp) (hr : Room (k + 1) X.A) (hc : PE X (.Name x p) tc) (hb : Binds X.K fd ps []) (hx : Passes CX X E)
    (ha : PA X (e :: es) t) (he : starEach (e :: es) X.env = (false, eval e X.env) :: starEach es X.env := by rfl) (hpl : (backTo pos (starEach es X.env)).any (·.1) = false := by rfl) :
    PE X (.Call (.Name x p) (e :: es) [] pos) (tMakeV C sp E tc t) := by
  refine ⟨fun pins s σ H Q I h => ?_⟩
  refine wpAny_Call_Name_kw (thn (hc.run pins s σ H _ I h) fun u s1 ⟨c, H1, I1, rc, ec, q1⟩ => ?_)
  subst ec
  obtain rfl : u = Value.ref C := rc
  refine PySem.W.callWith_K (h₀ := X.base) I.ok.mod.kin M.kp (thn (ha.run pos pins s1 σ H1 _ I1 q1) fun us s2 ⟨vs, H2, I2, r, q⟩ => ⟨I2.kIn, ?_⟩) he hpl
  refine run_make (dvs := []) M F hr hb .nil hx I2 r fun y dy h1 h2 h3 => ?_
  rw [List.append_nil]
  exact q y dy h1 h2 h3
theorem run_cmS {q : Addr} (F : FnOk X.prog X.w X.K X.mg X.base CX k g fd ps sp) (hr : Room k X.A) (hb : KBn X.K fd ps (n + 1) ks gg gV) (hx : PassesAt CX X σ E)
    (I : Inv X ((q, PySem.W.methodObj (.ref g) (.ref C)) :: pins) σ H s) (ru : Vals vs us) (rz : Vals zs ws) (hn : vs.length = n) (hm : zs.length = ks.length) (h : sp (gV (.ref C :: vs) zs) H Q E) :
    wpAny (model X.prog X.w) X.A (call (.ref q) us (ks.zip ws)) (EP X pins σ Q) X.xe s := by
  have z : wpAny (model X.prog X.w) X.A (call (.ref q) us (ks.zip ws)) (EP X ((q, PySem.W.methodObj (.ref g) (.ref C)) :: pins) σ Q) X.xe s := by
    refine wpAny_call (PySem.W.method_call (pin_at I) ?_)
    refine codeAny_mono (F.run X.A X.stack s H ⟨.ref C :: us, ks.zip ws⟩ (gg (.ref C :: us) ws) (gV (.ref C :: vs) zs) Q E hr I.env0
      (hb.to s (.ref C :: us) ws I.kIn (by rw [List.length_cons, ← ru.length, hn]) (rz.length.symm.trans hm)) (hb.rel (.cons rfl ru) rz) h) (fun r s' hq => ?_)
    match r, hq with
    | .error er, hq => exact hx _ H s er s' I hq
    | .ok (.ret u), hq => exact I.after hq
    | .ok .next, hq => exact hq.elim
    | .ok .brk, hq => exact hq.elim
    | .ok .cont, hq => exact hq.elim
  exact thn z fun _ _ y => unpinE y
def tCMethS (C : Addr) (m : Nat) (sp : Sp) (ES : L2.St → XK) (tc : TE) (t : TA) : TE := fun σ H Q => tc σ H fun x H1 => x = .ref C ∧ t σ H1 fun vs H2 => vs.length = m ∧ sp (.ref C :: vs) H2 Q (ES σ)
theorem pe_cmethS {n : Nat} (he : PE X o tc) (r : CRead X.K C mc) (c : CMet X.K C mc m p0 g) (F : FnOk X.prog X.w X.K X.mg X.base CX k g fd ps sp) (hr : Room k X.A) (hb : Binds X.K fd ps []) (hps : ps.length = n + 1) (hx : ∀ σ, PassesAt CX X σ (ES σ)) (ha : PA X (e :: es) t)
    (hst : starEach (e :: es) X.env = (false, eval e X.env) :: starEach es X.env := by rfl) (hpl : (backTo pos (starEach es X.env)).any (·.1) = false := by rfl)
    (ht : eval (.Call (.Attribute o m apos) (e :: es) [] pos) X.env = (do
      let ov ← eval o X.env
      standAt apos.atName
      let (f, first) ← holding [ov] (getMethod ov m pl)
      callWith pos f first (backTo pos (starEach (e :: es) X.env)) (backToKw pos (keywordEach [] X.env))) := by rfl) :
    PE X (.Call (.Attribute o m apos) (e :: es) [] pos) (tCMethS C n sp ES tc t) := by
  refine ⟨fun pins s σ H Q I h => ?_⟩
  refine PySem.W.methodCall_KW (pl := pl) (thn (he.run pins s σ H _ I h) fun u s1 ⟨x, H1, I1, rx, ex, q⟩ => ?_) ht
  subst ex
  obtain rfl : u = Value.ref C := rx
  refine getmethcm_ok I1 r c fun s2 I2 => ?_
  refine callwith_cm I2 (base_none I1 (Nat.le_refl _)) c.fi (thn (ha.run pos _ s2 σ H1 _ I2 q) fun us s3 ⟨vs, H2, I3, rv, hl, q2⟩ => ⟨⟨pin_at I3, I3.kIn⟩, ?_⟩) hst hpl
  have kb : KBn X.K fd ps (n + 1) [] (fun us _ => us) (fun vs _ => vs) := by
    refine ⟨fun s us ws kin h1 h2 => ?_, fun a _ => a⟩
    have b := hb s us kin (by rw [List.append_nil, hps, h1])
    rw [List.append_nil] at b
    exact b
  exact run_cmS (n := n) (zs := []) (ws := []) (ks := []) F hr kb (hx σ) I3 rv .nil hl rfl q2
def tCMethK (C : Addr) (m : Nat) (sp : Sp) (gV : List V → List V → List V) (ES : L2.St → XK) (tc : TE) (t : TA) : TE := fun σ H Q => tc σ H fun x H1 => x = .ref C ∧ t σ H1 fun zs H2 => zs.length = m ∧ sp (gV [.ref C] zs) H2 Q (ES σ)
theorem pe_cmethK (he : PE X o tc) (r : CRead X.K C mc) (c : CMet X.K C mc m p0 g) (F : FnOk X.prog X.w X.K X.mg X.base CX k g fd ps sp) (hr : Room k X.A) (hb : KBn X.K fd ps 1 ks gg gV) (hx : ∀ σ, PassesAt CX X σ (ES σ)) (hkw : PK X kws t)
    (hall : (backToKw pos (keywordEach kws X.env)).all (·.1.isSome) = true := by rfl)
    (hks : (backToKw pos (keywordEach kws X.env)).filterMap (·.1) = ks := by rfl)
    (hpl : ((backTo pos (starEach [] X.env)).any (·.1) || (backToKw pos (keywordEach kws X.env)).any (·.1.isNone)) = false := by rfl)
    (ht : eval (.Call (.Attribute o m apos) [] kws pos) X.env = (do
      let ov ← eval o X.env
      standAt apos.atName
      let (f, first) ← holding [ov] (getMethod ov m pl)
      callWith pos f first (backTo pos (starEach [] X.env)) (backToKw pos (keywordEach kws X.env))) := by rfl) :
    PE X (.Call (.Attribute o m apos) [] kws pos) (tCMethK C ks.length sp gV ES tc t) := by
  refine ⟨fun pins s σ H Q I h => ?_⟩
  refine PySem.W.methodCall_KW (pl := pl) (thn (he.run pins s σ H _ I h) fun u s1 ⟨x, H1, I1, rx, ex, q⟩ => ?_) ht
  subst ex
  obtain rfl : u = Value.ref C := rx
  refine getmethcm_ok I1 r c fun s2 I2 => ?_
  refine PySem.W.callWith_of (P := PySem.W.MethP X.K s1.heap.objs.size g (.ref C)) hpl (PySem.W.keeps_M c.fi) (PyProof.Rows.evalArgs_kw2_nil hall ?_)
  refine thn (hkw.run pos _ s2 σ H1 _ I2 q) fun ws s3 ⟨zs, H2, I3, rz, hl, q2⟩ => ⟨⟨pin_at I3, I3.kIn⟩, ?_⟩
  rw [hks]
  exact run_cmS (n := 0) (vs := []) (us := []) F hr hb (hx σ) I3 .nil rz rfl hl q2
end
end Mq

namespace Mq
open PySem PySem.Spec PyProof.Rows L2
/-! ### a text, from its end -/
def revS (z : Str) : Str := ⟨z.cps.toList.reverse.toArray⟩
theorem rev_ix (n : Nat) : Builtin.Str.strSliceIndices none none (-1) n = (List.range n).reverse := by
  rw [← PySem.W.krv_range, ← PySem.W.krv_sliceRange]
  rfl
theorem rev_pick (z : Str) : (Builtin.Str.strSliceIndices none none (-1) z.length).filterMap (z.cps[·]?) = z.cps.toList.reverse := by
  rw [rev_ix]
  show ((List.range z.cps.size).reverse).filterMap (z.cps[·]?) = _
  rw [List.filterMap_reverse, PySem.W.krv_all]
def tRevS (te : TE) : TE := fun σ H Q => te σ H fun x H1 => ∃ z : Str, x = .str z ∧ z.length ≤ sizeLine ∧ Q (.str (revS z)) H1
theorem pe_revS {X : Cx} {e : Expr} {te : TE} {k : Nat} {p1 p2 p3 pos : Pos} (he : PE X e te) : PE X (.Subscript e (.Slice none none (some (.UnaryOp .USub (.Constant (.int 1) k p1) p2)) p3) pos) (tRevS te) := by
  refine ⟨fun pins s σ H Q I0 h => ?_⟩
  refine Subscript_ (thn (he.run pins s σ H _ I0 h) fun v s1 ⟨x, H1, I1, r1, q1⟩ => ?_)
  obtain ⟨z, ez, hz, q⟩ := q1
  subst ez
  obtain ⟨tz, rfl⟩ := r1
  have back : PO X (some (.UnaryOp .USub (.Constant (.int 1) k p1) p2)) (tPart (tUn (rU fun i => .int (-i)) (tC (.int 1)))) := po_some (pe_un un_neg pe_int)
  refine wpAny_Slice (thn (po_none.run pins s1 σ H1 (fun o G => o = none ∧ G = H1) I1 ⟨rfl, rfl⟩) fun v1 s2 ⟨o1, G1, I2, a1, b1, c1⟩ => ?_)
  subst b1 c1
  refine thn (po_none.run pins s2 σ G1 (fun o G => o = none ∧ G = G1) I2 ⟨rfl, rfl⟩) fun v2 s3 ⟨o2, G2, I3, a2, b2, c2⟩ => ?_
  subst b2 c2
  refine thn (back.run pins s3 σ G2 (fun o G => o = some (-1) ∧ G = G2) I3 ⟨1, rfl, -1, rfl, rfl, rfl⟩) fun v3 s4 ⟨o3, G3, I4, a3, b3, c3⟩ => ?_
  subst b3 c3
  obtain ⟨l1, rfl, f1⟩ := IsPart.raw a1
  obtain ⟨l2, rfl, f2⟩ := IsPart.raw a2
  obtain ⟨l3, rfl, f3⟩ := IsPart.raw a3
  have I5 : Inv X pins σ G3 { s4 with heap := s4.heap.push { cls := .type "slice", data := .fields #[partValue l1, partValue l2, partValue l3] } } := I4.kept (t' := s4.toks) fun b ob q => Heap.get?_push_of_some _ q
  show wpAny (model X.prog X.w) X.A (subscriptTail e (.Slice none none (some (.UnaryOp .USub (.Constant (.int 1) k p1) p2)) p3) (.str z tz) (.ref s4.heap.objs.size)) (EP X pins σ Q) X.xe { s4 with heap := s4.heap.push { cls := .type "slice", data := .fields #[partValue l1, partValue l2, partValue l3] } }
  refine tail_any (ops := [.str z tz, .ref s4.heap.objs.size]) (typeIs_str _ z tz) (F.slot_str_getitem.lookup) ?_ (by with_unfolding_all rfl)
  refine wpAny_getItem_str_slice (l := l1) (u := l2) (st := l3) ⟨_, Heap.get?_push_size _ rfl, rfl, rfl⟩ (by rw [f3]; rfl) ?_
  unfold sliceMade slicePicked
  rw [f1, f2, f3]
  show Made.post (if ((-1 : Int) == 1 && (Builtin.Str.strSliceIndices none none (-1) z.length).length == z.length) = true then Made.val (.str z tz) else Made.str ⟨((Builtin.Str.strSliceIndices none none (-1) z.length).filterMap (z.cps[·]?)).toArray⟩) (EP X pins σ Q) _
  rw [rev_pick, if_neg (show ¬ _ by rw [show ((-1 : Int) == 1) = false by decide, Bool.false_and]; exact Bool.false_ne_true)]
  refine ⟨?_, .str _, G3, I5.tok _, ⟨_, rfl⟩, q⟩
  show (z.cps.toList.reverse.toArray).size ≤ sizeLine
  rw [List.size_toArray, List.length_reverse, Array.length_toList]
  exact hz
end Mq

/-! Mq34: sets of texts that can be walked: set(text), sorted(set). -/
namespace PySem.Froz
open PySem
/-- the set of the texts l at a: its table rises, and it can be walked -/
def WkT (P : Program) (w : World) (h : Heap) (a : Addr) (l : List Str) : Prop :=
  ∃ D : SD, h.get? a = some (sObj "set" D) ∧ TxOk P w D l ∧ l.Nodup ∧ l.length < scanBound ∧ L2.Ris D.2.2.place.toList ∧ (w.params.followText "set-order" = true ∨ D.2.2.led = true)
section
variable {P : Program} {w : World} {A : Around} {E : Value → Shared → Prop} {s : Shared}
theorem WkT.at {h h' : Heap} {a : Addr} {l : List Str} (R : WkT P w h a l) (k : ∀ o, h.get? a = some o → h'.get? a = some o) : WkT P w h' a l := by
  obtain ⟨D, ho, r⟩ := R
  exact ⟨D, k _ ho, r⟩
theorem tail_ris {ep : Nat} {es1 : Array (Int × Value)} {t2 : SetTable} {wd : Bool} (r : L2.Ris t2.place.toList) : L2.Ris (tailTx ep es1 t2 wd).2.2.place.toList := by
  unfold tailTx
  split
  · exact L2.relayAll_ris _ _ _
  · exact r
theorem tail_led {ep : Nat} {es1 : Array (Int × Value)} {t2 : SetTable} {wd : Bool} : (tailTx ep es1 t2 wd).2.2.led = t2.led := by
  unfold tailTx
  split
  · exact L2.relayAll_led _ _ _
  · rfl
theorem add_ris {h : Int} {v : Value} {D : SD} (r : L2.Ris D.2.2.place.toList) : L2.Ris (addTx h v D).2.2.place.toList := by
  obtain ⟨es, ep, t⟩ := D
  have r1 := L2.layNew_ris t es h v r
  refine tail_ris ?_
  show L2.Ris (if (layNew t es h v).2.1.plain = true then { (layNew t es h v).2.1 with plain := false } else (layNew t es h v).2.1).place.toList
  split <;> exact r1
theorem add_led {h : Int} {v : Value} {D : SD} : (addTx h v D).2.2.led = D.2.2.led := by
  obtain ⟨es, ep, t⟩ := D
  have l1 := L2.layNew_led t es h v
  refine tail_led.trans ?_
  show (if (layNew t es h v).2.1.plain = true then { (layNew t es h v).2.1 with plain := false } else (layNew t es h v).2.1).led = t.led
  split <;> exact l1
/-- one that is there already -/
theorem add_old {a : Addr} {T : String} {D : SD} {l : List Str} {k : Str} {u : Tok} {Q : Bool → Shared → Prop} (ho : s.heap.get? a = some (sObj T D)) (F : TxOk P w D l) (hk : k ∈ l) (hb : l.length < scanBound)
    (h : Q false s) : wpAny (model P w) A (setAddHashed a (.str k u) (hashStr w k)) Q E s := by
  obtain ⟨es, ep, t⟩ := D
  have hd : (sObj T (es, ep, t)).data = .set es ep t := rfl
  have hf : t.fits es.size = true := F.fit
  have hel : ElemsOf (strKind P w) es.toList := F.el
  have hb0 : es.size < scanBound := by rw [show es.size = l.length from F.sz]; exact hb
  have hkey : (strKind P w).is k (.str k u) = true := is_str k u
  unfold setAddHashed setAddHashedIn
  refine wpAny_holding (wpAny_bind (wpAny_setState_of ho hd hf ?_))
  dsimp only
  rw [byScan_of rfl hb0 hel]
  simp only [↓reduceIte]
  unfold setAddByScan
  refine wpAny_bind ?_
  refine wpAny_bind (wpAny_rule ?_)
  refine wpAny_bind (wpAny_setScan_of (knd := strKind P w) (k := k) hkey ho hd hf hel ?_)
  cases hfi : List.findIdx? (fun e => (strKind P w).is k e.2) es.toList with
  | some j => exact wpAny_pure (wpAny_pure h)
  | none =>
    obtain ⟨e, he, q⟩ := (F.mem k).mp hk
    have c := List.findIdx?_eq_none_iff.mp hfi e he
    rw [q] at c
    cases c
/-- the members behind so many signs of a text -/
def Upto (x : Str) (i : Nat) (l : List Str) : Prop := l.length ≤ i ∧ ∀ k : Str, k ∈ l ↔ k ∈ (PyProof.Rows.signs x).take i
theorem upto_step {x : Str} {i c : Nat} {l : List Str} (u : Upto x i l) (hc : x.cps[i]? = some c) : (PyProof.Rows.signs x)[i]? = some (sing c) ∧
    ∀ k, k ∈ (PyProof.Rows.signs x).take (i + 1) ↔ k ∈ l ∨ k = sing c := by
  have e : (PyProof.Rows.signs x)[i]? = some (sing c) := by
    unfold PyProof.Rows.signs
    rw [List.getElem?_map, Array.getElem?_toList, hc]
    rfl
  refine ⟨e, fun k => ?_⟩
  rw [List.take_add_one, e, u.2 k]
  simp
theorem code_updT {I a : Addr} {fp wr : List Addr} {n : Nat} {St : Nat → Heap → Prop} {x : Str} {R : Result → Shared → Prop}
    (W : Walks P w A.in1 I fp wr n (SignAt x) St) (hn : n = x.cps.size) (hsz : n + 1 < scanBound) (haf : a ∉ fp) : ∀ (m i : Nat) (l : List Str) (s : Shared), n - i = m → i ≤ n → St i s.heap →
    WkT P w s.heap a l → Upto x i l →
    (∀ h' tk l', (∀ b o, b ∉ a :: wr → s.heap.get? b = some o → h'.get? b = some o) → WkT P w h' a l' → Upto x n l' → R (.ok (.ret .none)) { s with heap := h', toks := tk }) →
    codeAny (model P w) A (.builtin "set.update.loop" ⟨[.ref a, .ref I], []⟩) R s := by
  have haw : a ∉ wr := fun z => haf (W.sub _ z)
  have hsub : ∀ b, b ∉ a :: wr → b ∉ wr := fun b hb z => hb (List.mem_cons_of_mem _ z)
  intro m
  induction m with
  | zero =>
    intro i l s hm hi hst hS hu hR
    have hin : i = n := by omega
    subst hin
    refine codeAny_builtin PyProof.Rows.F.entry_set_update_loop ?_
    rw [Around.under_plainId PyProof.Rows.F.plain_set_update_loop _]
    show wpAny _ A.in1 (pyNext (.ref I) >>= _) _ _ s
    refine wpAny_bind (W.done s _ _ hst fun h' tk hk' => ?_)
    show wpAny _ A.in1 (ret Value.none) _ _ _
    exact wpAny_pure (hR h' tk l (fun b o hb e => hk' b o (hsub b hb) e) (hS.at fun o e => hk' a o haw e) hu)
  | succ m ih =>
    intro i l s hm hi hst hS hu hR
    have hlt : i < n := by omega
    refine codeAny_builtin PyProof.Rows.F.entry_set_update_loop ?_
    rw [Around.under_plainId PyProof.Rows.F.plain_set_update_loop _]
    show wpAny _ A.in1 (pyNext (.ref I) >>= _) _ _ s
    refine wpAny_bind (W.item i s _ _ hlt hst fun v h' tk hP hst' hk' => ?_)
    obtain ⟨c, t, hc, rfl⟩ := hP
    obtain ⟨e1, e2⟩ := upto_step hu hc
    have hS' : WkT P w h' a l := hS.at fun o e => hk' a o haw e
    obtain ⟨D, hD, F, nd, hb, hr, hl⟩ := hS'
    show wpAny _ A.in1 (holding [Value.str (sing c) t] (setAdd a (.str (sing c) t)) >>= _) _ _ _
    refine wpAny_bind (wpAny_holding ?_)
    unfold setAdd
    refine wpAny_holding ?_
    refine wpAny_bind ((strKind P w).pyHash (k := sing c) (is_str _ _) ?_)
    have hll : l.length ≤ i := hu.1
    by_cases hk : sing c ∈ l
    · refine add_old (s := { s with heap := h', toks := tk + 1 }) hD F hk hb ?_
      refine wpAny_pure ⟨plainId_quiet PyProof.Rows.F.plain_set_update_loop _, ih (i + 1) l { s with heap := h', toks := tk + 1 } (by omega) hlt hst' ⟨D, hD, F, nd, hb, hr, hl⟩ ⟨by omega, fun k => ?_⟩ fun h'' tk'' l' hk'' w' u' => ?_⟩
      · rw [e2 k]
        exact ⟨.inl, fun z => z.elim id fun q => q ▸ hk⟩
      · exact hR h'' tk'' l' (fun b o hb e => hk'' b o hb (hk' b o (hsub b hb) e)) w' u'
    · have hb2 : l.length + 1 < scanBound := by omega
      refine add_x (s := { s with heap := h', toks := tk + 1 }) hD F hk hb2 ?_
      have hne : ∀ b ∈ fp, b ≠ a := fun b hb z => haf (z ▸ hb)
      have k2 : ∀ b o, b ≠ a → h'.get? b = some o → (h'.update a (fun _ => sObj "set" (addTx (hashStr w (sing c)) (.str (sing c) t) D))).get? b = some o := fun b o hb e => PySem.Heap.get?_update_of_ne _ (Ne.symm hb) e
      have hw : WkT P w (h'.update a (fun _ => sObj "set" (addTx (hashStr w (sing c)) (.str (sing c) t) D))) a (sing c :: l) :=
        ⟨_, get_upd _ hD rfl, add_ok t F, List.nodup_cons.mpr ⟨hk, nd⟩, hb2, add_ris hr, hl.imp id fun z => by rw [add_led]; exact z⟩
      refine wpAny_pure ⟨plainId_quiet PyProof.Rows.F.plain_set_update_loop _, ih (i + 1) (sing c :: l) { s with heap := h'.update a (fun _ => sObj "set" (addTx (hashStr w (sing c)) (.str (sing c) t) D)), toks := tk + 1 } (by omega) hlt
        (W.frame _ h' _ hst' fun b hb o e => k2 b o (hne b hb) e) hw ⟨?_, fun k => ?_⟩ fun h'' tk'' l' hk'' w' u' => ?_⟩
      · show l.length + 1 ≤ i + 1
        omega
      · rw [e2 k, List.mem_cons]
        exact Or.comm
      · exact hR h'' tk'' l' (fun b o hb e => hk'' b o hb (k2 b o (fun z => hb (z ▸ List.mem_cons_self ..)) (hk' b o (hsub b hb) e))) w' u'
end
end PySem.Froz

/-! Mq35: set(text), sorted(set). -/
namespace PySem.Froz
open PySem PySem.Spec PyProof.Rows L2
def emptyO (w : World) : Obj := { cls := .type "set", dict := none, data := .set #[] 0 (.fresh 0 0 (!w.params.followText "set-order")) }
theorem wkt_new {P : Program} {w : World} {h : Heap} {a : Addr} (ho : h.get? a = some (emptyO w)) : WkT P w h a [] := by
  refine ⟨(#[], 0, .fresh 0 0 (!w.params.followText "set-order")), ho, TxOk.nil rfl, List.nodup_nil, by decide, List.Pairwise.nil, ?_⟩
  show _ ∨ (!w.params.followText "set-order") = true
  cases w.params.followText "set-order"
  · exact .inr rfl
  · exact .inl rfl
section
variable {P : Program} {w : World} {A : Around} {E : Value → Shared → Prop} {s : Shared}
set_option maxHeartbeats 3200000 in
theorem call_set_txt {x : Str} {u : Tok} {Q : Value → Shared → Prop} (hh : A.handled = none) (hsz : x.cps.size + 1 < scanBound)
    (h : ∀ (h' : Heap) (tk : Nat) (l : List Str), WkT P w h' s.heap.objs.size l → Upto x x.cps.size l → (∀ b o, s.heap.get? b = some o → h'.get? b = some o) → Q (.ref s.heap.objs.size) { s with heap := h', toks := tk }) :
    wpAny (model P w) A (call (.type "set") [.str x u]) Q E s := by
  obtain ⟨c, tl, hmro⟩ := PySem.F.called_set.mro
  have hmade := PySem.F.called_set.made
  have hsub := PySem.F.called_set.sub
  refine wpAny_call (codeAny_of_tree ?_)
  show wpAny _ _ (callAny (.type "set") _) _ _ _
  refine wpAny_pure ⟨Code.quiet_builtin _ (by decide +kernel), codeAny_builtin F.entry_type_call ?_⟩
  rw [Around.under_plain (weight_type_call_type "set" [.str x u] []) rfl]
  have h1 := PySem.F.called_set.notType
  have h2 := PySem.F.called_set.canCreate
  have hct := F.typeCall_set_1 (.str x u)
  repeat (any_goals (first | assumption | wp_step))
  refine codeAny_mono (code_set_led1 (.str x u) (E := E) (Q₁ := fun obj s₁ => obj = .ref s.heap.objs.size ∧ s₁ = { s with heap := s.heap.push (emptyO w) }) ⟨rfl, rfl⟩) fun r s₁ hr => ?_
  cases r with
  | error e => exact hr
  | ok fl =>
    cases fl with
    | ret obj =>
      obtain ⟨rfl, rfl⟩ := hr
      have hS : (s.heap.push (emptyO w)).get? s.heap.objs.size = some (emptyO w) := Heap.get?_push_size _ rfl
      have hT : Shared.TypeIs { s with heap := s.heap.push (emptyO w) } (.ref s.heap.objs.size) "set" := ⟨_, hS, rfl⟩
      have hli := PySem.F.called_set.init.lookup
      have hbi := PySem.F.called_set.init.bind (.ref s.heap.objs.size)
      repeat (any_goals (first | assumption | wp_step))
      refine codeAny_mono (codeAny_call_builtin (R := wants (fun r s₂ => r = .none ∧ ∃ h' tk l, s₂ = { s with heap := h', toks := tk } ∧ WkT P w h' s.heap.objs.size l ∧ Upto x x.cps.size l ∧
          (∀ b o, s.heap.get? b = some o → h'.get? b = some o)) E) PySem.F.called_set.init.plain F.entry_set_init (check_set_init_1 hT ?_)) fun r₂ s₂ hr₂ => ?_
      · unfold Builtin.«set.__init__» noKeywords Builtin.Frozenset.updateFrom
        generalize hPI : pyIter = PI
        have hA1 := PySem.F.sub_str_set
        have hA2 := PySem.F.sub_str_frozenset
        have hne : (Value.type "str" == Value.type "dict") = false := by decide
        unfold emptyO at hS hT ⊢
        wp_walk
        subst hPI
        refine wpAny_pyIter_str fun o St hW hst => ?_
        refine wpAny_bind (wpAny_runValue ?_)
        have hsz1 : (s.heap.push (emptyO w)).objs.size = s.heap.objs.size + 1 := Heap.size_push ..
        have hS2 : WkT P w ((s.heap.push (emptyO w)).push o) s.heap.objs.size [] := (wkt_new (P := P) (Heap.get?_push_size _ rfl)).at fun _ e => Heap.get?_push_of_some _ e
        refine code_updT (hW _ (by simp [hh])) rfl hsz ?hSf (x.cps.size - 0) 0 [] _ rfl (Nat.zero_le _) hst hS2 ⟨Nat.le_refl 0, fun k => by simp⟩ fun h' tk l hk hw hu => ?_
        case hSf =>
          rw [List.mem_singleton]
          show s.heap.objs.size ≠ (s.heap.push (emptyO w)).objs.size
          rw [hsz1]
          exact Nat.ne_of_lt (Nat.lt_succ_self _)
        show wpAny _ _ _ _ _ _
        refine wpAny_pure ?_
        show wpAny _ _ (ret Value.none) _ _ _
        refine wpAny_pure ⟨rfl, h', tk, l, rfl, hw, hu, fun b o' e => ?_⟩
        have hb0 : b < s.heap.objs.size := Heap.lt_size e
        refine hk b o' (fun z => ?_) (Heap.get?_push_of_some _ (Heap.get?_push_of_some _ e))
        rcases List.mem_cons.mp z with z | z
        · exact Nat.ne_of_lt hb0 z
        · have z2 : b = (s.heap.push (emptyO w)).objs.size := List.mem_singleton.mp z
          rw [hsz1] at z2
          exact absurd hb0 (by rw [z2]; exact Nat.not_lt_of_le (Nat.le_succ _))
      · cases r₂ with
        | error e => exact hr₂
        | ok fl₂ =>
          cases fl₂ with
          | ret r =>
            obtain ⟨rfl, h', tk, l, rfl, hS', hc', hk'⟩ := hr₂
            repeat (any_goals (first | assumption | wp_step))
            exact h _ _ _ hS' hc' hk'
          | _ => exact hr₂.elim
    | _ => exact hr.elim
end
end PySem.Froz

/-! Mq36: sorted(set) of texts. -/
namespace PySem.Froz
open PySem PySem.Spec PyProof.Rows L2
theorem nd_perm {α : Type} : ∀ (l m : List α), l.Nodup → (∀ x ∈ l, x ∈ m) → m.length ≤ l.length → m.Perm l
  | [], m, _, _, h => by
    have e : m = [] := List.length_eq_zero_iff.mp (Nat.le_zero.mp h)
    rw [e]
  | x :: l, m, nd, sub, h => by
    obtain ⟨n1, n2⟩ := List.nodup_cons.mp nd
    obtain ⟨m1, m2, e⟩ := List.append_of_mem (sub x (List.mem_cons_self ..))
    subst e
    refine List.perm_middle.trans ((nd_perm l (m1 ++ m2) n2 (fun y hy => ?_) ?_).cons x)
    · have q := sub y (List.mem_cons_of_mem _ hy)
      rcases List.mem_append.mp q with q | q
      · exact List.mem_append_left _ q
      · rcases List.mem_cons.mp q with q | q
        · exact absurd hy (q ▸ n1)
        · exact List.mem_append_right _ q
    · simp only [List.length_append, List.length_cons] at h ⊢
      omega
section
variable {P : Program} {w : World} {A : Around} {E : Value → Shared → Prop} {s : Shared}
theorem texts_perm {D : SD} {l : List Str} (F : TxOk P w D l) (nd : l.Nodup) : (∀ v ∈ D.1.toList.map (·.2), ∃ x t, v = Value.str x t) ∧ ((D.1.toList.map (·.2)).map strOf).Perm l := by
  have hs : ∀ v ∈ D.1.toList.map (·.2), ∃ x t, v = Value.str x t := fun v hv => by
    obtain ⟨e, he, q⟩ := List.mem_map.mp hv
    obtain ⟨⟨k, hk, _⟩, _⟩ := F.el e he
    obtain ⟨t, ev⟩ := Value.isStrOf_shape (x := k) (v := e.2) hk
    exact ⟨k, t, by rw [← q]; exact ev⟩
  refine ⟨hs, nd_perm _ _ nd (fun k hk => ?_) ?_⟩
  · obtain ⟨e, he, q⟩ := (F.mem k).mp hk
    obtain ⟨t, ev⟩ := Value.isStrOf_shape (x := k) (v := e.2) q
    refine List.mem_map.mpr ⟨e.2, List.mem_map.mpr ⟨e, he, rfl⟩, ?_⟩
    rw [ev]
    rfl
  · rw [List.length_map, List.length_map, Array.length_toList, F.sz]
    exact Nat.le_refl _
theorem sorted_txt {a : Addr} {l : List Str} {Q : Value → Shared → Prop} (R : WkT P w s.heap a l) (hh : A.handled = none) (h64 : l.length < 64)
    (hQ : ∀ s' p (out : Array Value) (c : Nat) (ys : List Str), (∀ b o, s.heap.get? b = some o → s'.heap.get? b = some o) → s'.gens = s.gens → s'.os = s.os → s.heap.objs.size ≤ p →
      s'.heap.get? p = some (seqObj "list" out c) → StrsAre out.toList ys → ys.Perm l → sortedS ys = true → Q (.ref p) s') :
    wpAny (model P w) A (call (.builtin "sorted") [.ref a]) Q E s := by
  obtain ⟨⟨es, ep, t⟩, ho, F, nd, hb, hr, hl⟩ := R
  obtain ⟨hs, hp⟩ := texts_perm F nd
  have hf : t.fits es.size = true := F.fit
  have hn : es.size = l.length := F.sz
  refine Calls.call_function_entry kind_sorted plain_sorted entry_sorted (args_sorted1 _) ?_
  unfold Builtin.«sorted»
  refine wpAny_bind (m := checkCount "sorted" 1 1 _) (wpAny_pure ?_)
  refine wpAny_bind (collect_set (A := A.in1) hh ⟨_, ho, rfl, rfl⟩ hf (by rw [hn]; exact hb) hr hl fun s1 vs k1 hz g1 o1 pm => ?_)
  have hvl : vs.length = l.length := by rw [pm.length_eq, List.length_map, Array.length_toList]; exact hn
  have hS : StrsAre vs (vs.map strOf) := strsAre_map vs fun v hv => hs v (pm.mem_iff.mp hv)
  refine wpAny_bind (wpAny_newList ?_ (by rw [hvl, sizeLine_eq]; omega))
  have hoL : (s1.heap.push (seqObj "list" vs.toArray 0)).get? s1.heap.objs.size = some (seqObj "list" vs.toArray 0) := Heap.get?_push_size _ rfl
  refine wpAny_bind (wpAny_holding (wpAny_call_entry slot_list_sort ⟨_, hoL, rfl⟩ entry_list_sort
    (list_sort_treeK strKind_oneLt hoL hS.keysOf (fun v₁ v₂ rest e => keyKind_strs (by rw [← e]; exact hS)) (by rw [hvl]; exact h64) fun st' hp' hs' => ⟨_, rfl, ?_⟩) (args_list_sort _)))
  obtain ⟨ys, a1, a2, a3⟩ := sorted_out_str hS hp' hs'
  obtain ⟨c, hc⟩ := sortedHeap_at (vs := vs) (out := (arrOf st').map (·.2)) hoL
  refine wpAny_pure ⟨_, rfl, hQ _ s1.heap.objs.size _ c ys (fun b u e => ?_) g1 o1 hz hc a1 (a2.trans ((pm.map strOf).trans hp)) a3⟩
  have q := k1 b u e
  have hlt := Heap.lt_size q
  show (sortedHeap (s1.heap.push (seqObj "list" vs.toArray 0)) s1.heap.objs.size vs ((arrOf st').map (·.2))).get? b = some u
  rw [sortedHeap_old (Nat.ne_of_lt hlt) (by rw [size_push']; exact Nat.lt_succ_of_lt hlt)]
  exact Heap.get?_push_of_some _ q
end
end PySem.Froz

/-! Mq37: set(text), sorted(set) as rules. -/
namespace Mq
open PySem PySem.Spec PyProof.Rows L2 PySem.Froz
/-- the set of the texts l at a -/
def TxO (P : Program) (w : World) (a : Addr) (l : List Str) : HO := .ext fun h => WkT P w h a l
section
variable {X : Cx}
theorem txO_new {w : World} {P : Program} {H : Hp} {h : Heap} {a : Addr} {l : List Str} (R : WkT P w h a l) : ObjOk P w H h a (TxO P w a l) := by
  have ⟨D, ho, _⟩ := R
  exact ⟨R, ⟨_, ho⟩, fun h1 h2 p k => WkT.at p k⟩
theorem txO_get {pins : List (Addr × Obj)} {σ : L2.St} {H : Hp} {s : Shared} {a : Addr} {l : List Str} (I : Inv X pins σ H s) (ha : H a = some (TxO X.prog X.w a l)) : WkT X.prog X.w s.heap a l := (I.hok a _ ha).1
/-- set(text) -/
def rSetTx (X : Cx) : List V → Hp → VK → Prop := fun xs H Q => ∃ x : Str, xs = [V.str x] ∧ x.cps.size + 1 < scanBound ∧
  ∀ (p : Addr) (l : List Str), H p = none → l.Nodup → l.length ≤ x.cps.size → (∀ k, k ∈ l ↔ k ∈ signs x) → Q (.ref p) (upd H p (TxO X.prog X.w p l))
theorem cr_setTx (hc : X.calm = true) : CallR X (.type "set") (rSetTx X) := by
  intro pins s σ H xs us Q I r h
  obtain ⟨x, rfl, hsz, q⟩ := h
  obtain ⟨v, rfl, rv⟩ := r.one
  obtain ⟨t, rfl⟩ := rv
  refine call_set_txt (I.ok.hd hc) hsz fun h' tk l hw hu hk => ?_
  have e : (signs x).take x.cps.size = signs x := List.take_of_length_le (by unfold signs; rw [List.length_map, Array.length_toList] <;> exact Nat.le_refl _)
  have hn : l.Nodup := by
    obtain ⟨D, _, _, nd, _⟩ := hw
    exact nd
  exact ⟨.ref _, upd H s.heap.objs.size (TxO X.prog X.w s.heap.objs.size l), I.laid (t' := tk) hk (Nat.le_refl _) (txO_new hw), rfl, q _ l (I.hok.fresh (Nat.le_refl _)) hn hu.1 fun k => by rw [hu.2 k, e]⟩
/-- sorted(s), s a set of fewer than 64 texts -/
def rSortTx (X : Cx) : List V → Hp → VK → Prop := fun vs H Q => ∃ (a : Addr) (l : List Str), vs = [V.ref a] ∧ H a = some (TxO X.prog X.w a l) ∧ l.length < 64 ∧
  ∀ (ys : List Str) (p : Addr), ys.Perm l → sortedS ys = true → H p = none → Q (.ref p) (upd H p (.lst (ys.map V.str)))
theorem cr_sortTx (hc : X.calm = true) : CallR X (.builtin "sorted") (rSortTx X) := by
  intro pins s σ H vs us Q I r h
  obtain ⟨a, l, rfl, ha, h64, q⟩ := h
  have R := txO_get I ha
  rw [Vals.ref1 r]
  refine sorted_txt R (I.ok.hd hc) h64 fun s' p out c ys k g o hp hg hi hs hm => ?_
  have hlen : (ys.map V.str).length ≤ sizeLine := by rw [List.length_map, hs.length_eq]; exact small64 h64
  have hn : H p = none := I.hok.fresh hp
  have J : Inv X pins σ (upd H p (.lst (ys.map V.str))) { s with heap := s'.heap, gens := s'.gens, drawn := s'.drawn, toks := s'.toks } :=
    I.call (ch := []) (Un.laid k hp hn) (I.hok.laid k hp ⟨hlen, out.toList, c, vals_of_strs hi, hg⟩) (by rw [g]; exact I.bare) (fun _ z => nomatch z)
  have e : s' = { s with heap := s'.heap, gens := s'.gens, drawn := s'.drawn, toks := s'.toks } := by
    cases s'
    cases s
    cases o
    rfl
  rw [e]
  exact ⟨.ref p, _, J, rfl, q ys p hs hm hn⟩
theorem txO_setOf {P : Program} {w : World} {h : Heap} {a : Addr} {l : List Str} (R : WkT P w h a l) : h.SetOf (PySem.strKind P w) a (fun k => decide (k ∈ l)) l.length := by
  obtain ⟨D, ho, F, nd, hb, _, _⟩ := R
  exact ⟨_, D.1, D.2.1, D.2.2, ho, ⟨rfl, rfl, rfl⟩, rfl, F.el, fun k => by rw [decide_eq_true_eq]; exact F.mem k, by rw [show D.1.size = l.length from F.sz]; exact hb, F.fit, F.sz⟩
/-- text in s, text not in s -/
def rTxIn (X : Cx) (neg : Bool) : V → V → Hp → VK → Prop := fun x y H Q => ∃ k a l, x = V.str k ∧ y = V.ref a ∧ H a = some (TxO X.prog X.w a l) ∧ Q (.bl (if neg then !decide (k ∈ l) else decide (k ∈ l))) H
theorem or_txIn : OpR X (compareOp .In) (rTxIn X false) := by
  intro pins s σ H x y v u Q I rx ry h
  obtain ⟨k, a, l, rfl, rfl, ha, q⟩ := h
  obtain ⟨tk, rfl⟩ := rx
  cases ry
  exact wpAny_inSet_of (strKind_is _ _ _ _) rfl (txO_setOf (txO_get I ha)) ⟨.bl _, H, I.tok _, rfl, q⟩
theorem or_txNotIn : OpR X (compareOp .NotIn) (rTxIn X true) := by
  intro pins s σ H x y v u Q I rx ry h
  obtain ⟨k, a, l, rfl, rfl, ha, q⟩ := h
  obtain ⟨tk, rfl⟩ := rx
  cases ry
  exact wpAny_notInSet_of (strKind_is _ _ _ _) rfl (txO_setOf (txO_get I ha)) ⟨.bl _, H, I.tok _, rfl, q⟩
end
end Mq

namespace Mq
open PySem PySem.Spec PyProof.Rows L2
/-! ### list(text) -/
def rListTx : List V → Hp → VK → Prop := fun xs H Q => ∃ x : Str, xs = [.str x] ∧ x.cps.size ≤ sizeLine ∧ ∀ p, H p = none → p ≠ sysModules → Q (.ref p) (upd H p (.lst (x.cps.toList.map fun c => V.str ⟨#[c]⟩)))
theorem call_listTx {X : Cx} (hc : X.calm = true) : CallR X (.type "list") rListTx := by
  intro pins s σ H xs us Q I r h
  obtain ⟨x, rfl, hx, q⟩ := h
  obtain ⟨v, rfl, rv⟩ := r.one
  obtain ⟨t, rfl⟩ := rv
  refine call_list_str (I.ok.hd hc) x t (fun h' tk acc' c' hk hD ha => ?_) hx
  refine ⟨.ref s.heap.objs.size, upd H s.heap.objs.size (.lst (x.cps.toList.map fun c => V.str ⟨#[c]⟩)), I.laid (t' := tk) hk (Nat.le_refl _) ⟨?_, acc'.toList, c', ?_, ?_⟩, rfl, q _ (I.hok.fresh (Nat.le_refl _)) (Nat.ne_of_gt (Inv.low I))⟩
  · rw [List.length_map, Array.length_toList]
    exact hx
  · have el : acc'.toList.length = acc'.size := by simp
    refine vals_of_at (by rw [List.length_map, el, ha.1, Array.length_toList]) fun j y w h1 h2 => ?_
    obtain ⟨c, u, hcx, rfl⟩ := ha.2 j w (by rw [← Array.getElem?_toList]; exact h2)
    rw [List.getElem?_map, Array.getElem?_toList, hcx] at h1
    cases h1
    exact ⟨u, rfl⟩
  · rw [Array.toArray_toList]
    exact hD
/-! ### t[::-1] -/
section
variable {prog : Program} {w : World} {A : Around} {E : Value → Shared → Prop} {s : Shared}
theorem adjust_rev (n : Nat) : Builtin.Slice.sliceAdjust none none (-1) (n : Int) = ((n : Int) - 1, -1) := by
  unfold Builtin.Slice.sliceAdjust
  rfl
theorem places_rev (n : Nat) : Builtin.Slice.slicePlaces ((n : Int) - 1) (-1) (-1) = n := by
  unfold Builtin.Slice.slicePlaces
  have h1 : ¬ ((-1 : Int) > 0) := by omega
  simp only [h1, if_false]
  split
  · show (((n : Int) - 1 - -1 - 1) / 1 + 1).toNat = n
    rw [Int.ediv_one]
    omega
  · show (0 : Int).toNat = n
    omega
theorem fm_congr {α β : Type} {f g : α → Option β} : ∀ {l : List α}, (∀ k ∈ l, f k = g k) → l.filterMap f = l.filterMap g
  | [], _ => rfl
  | k :: l, h => by
    rw [List.filterMap_cons, List.filterMap_cons, h k List.mem_cons_self, fm_congr fun x hx => h x (List.mem_cons_of_mem _ hx)]
theorem pick_rev (xs : Array Value) : ((List.range xs.size).filterMap fun (k : Nat) => xs[(((xs.size : Int) - 1) + (k : Int) * (-1)).toNat]?) = xs.toList.reverse := by
  have e : ∀ k ∈ List.range xs.size, xs[(((xs.size : Int) - 1) + (k : Int) * (-1)).toNat]? = (fun k => xs[xs.size - 1 - k]?) k := by
    intro k hk
    have h1 := List.mem_range.mp hk
    have : (((xs.size : Int) - 1) + (k : Int) * (-1)).toNat = xs.size - 1 - k := by omega
    rw [this]
  rw [fm_congr e]
  have h2 : (List.range xs.size).filterMap (fun k => xs[xs.size - 1 - k]?) = ((List.range xs.size).map fun k => xs.size - 1 - k).filterMap (xs[·]?) := by
    rw [List.filterMap_map]
    rfl
  rw [h2, PySem.W.krv_range, List.filterMap_reverse, PySem.W.krv_all]
theorem sliceApplied_rev {sl : Addr} {vl vu vs : Value} {n : Nat} {Q : Int × Int × Nat → Shared → Prop} (hs : s.heap.IsSliceOf sl vl vu vs) (pl : IsPart vl none) (pu : IsPart vu none) (ps : IsPart vs (some (-1)))
    (h : Q ((n : Int) - 1, -1, n) s) : wpAny (model prog w) A (Builtin.Slice.sliceApplied (.ref sl) (pure (n : Int))) Q E s := by
  obtain ⟨os, hos, hcs, hds⟩ := id hs
  unfold Builtin.Slice.sliceApplied Builtin.Slice.sliceFields
  refine wpAny_bind (wpAny_bind (wpAny_field hos hds (x := vl) rfl (wpAny_bind (wpAny_field hos hds (x := vu) rfl (wpAny_bind (wpAny_field hos hds (x := vs) rfl (wpAny_pure ?_)))))))
  refine wpAny_bind (HT.slicePart_ ps ?_)
  show wpAny _ _ (if ((-1 : Int) == 0) = true then _ else _) _ _ s
  rw [if_neg (by decide)]
  refine wpAny_bind (HT.slicePart_ pl (wpAny_bind (HT.slicePart_ pu (wpAny_bind (wpAny_pure ?_)))))
  show wpAny _ _ (match Builtin.Slice.sliceAdjust none none (-1) (n : Int) with | (lo, hi) => pure (lo, (-1 : Int), Builtin.Slice.slicePlaces lo hi (-1))) _ _ s
  rw [adjust_rev n]
  show wpAny _ _ (pure (((n : Int) - 1), (-1 : Int), Builtin.Slice.slicePlaces ((n : Int) - 1) (-1) (-1))) _ _ s
  rw [places_rev]
  exact wpAny_pure h
theorem getItem_tuple_rev {t sl : Addr} {items : Array Value} {vl vu vs : Value} {Q : Value → Shared → Prop} (ht : IsTup s.heap t items) (hs : s.heap.IsSliceOf sl vl vu vs) (pl : IsPart vl none) (pu : IsPart vu none) (ps : IsPart vs (some (-1)))
    (h : Q (.ref s.heap.objs.size) { s with heap := s.heap.push { cls := .type "tuple", data := .seq items.toList.reverse.toArray } })
    (hsz : items.size ≤ sizeLine) : wpAny (model prog w) A (getItem (.ref t) (.ref sl)) Q E s := by
  have htake : sizeOk (.seq items.toList.reverse.toArray) := by
    show items.toList.reverse.toArray.size ≤ sizeLine
    rw [List.size_toArray, List.length_reverse, Array.length_toList]
    exact hsz
  obtain ⟨os, hos, hcs, hds⟩ := id hs
  have hTs : s.TypeIs (.ref sl) "slice" := ⟨os, hos, hcs⟩
  unfold getItem
  try with_reducible refine wpAny_holding ?_
  first | refine wpAny_bind (wpAny_pure ?_) | skip
  refine wpAny_bind (wpAny_sequenceKey ht.typeIs (by decide) ?_)
  refine wpAny_bind (wpAny_callSpecial?_slot (name := Str.ofString "__getitem__") ht.typeIs PyProof.Rows.slot_tuple_getitem
    (wpAny_call_entry PyProof.Rows.slot_tuple_getitem ht.typeIs PyProof.Rows.entry_tuple_getitem ?_ (PyProof.Rows.args_tuple_getitem _ _)))
  show wpAny _ _ (Builtin.Tuple.tupleItemsOf (.ref t) >>= _) _ _ s
  refine wpAny_bind (tupleItemsOf_ ht ?_)
  refine wpAny_bind (wpAny_typeOf hTs ?_)
  rw [if_pos (by decide)]
  refine wpAny_bind (sliceApplied_rev hs pl pu ps ?_)
  have hno : ¬ ((((items.size : Int) - 1) == 0 && (-1 : Int) == 1 && items.size == items.size) = true) := by
    rw [show ((-1 : Int) == 1) = false by decide, Bool.and_false, Bool.false_and]
    exact Bool.false_ne_true
  show wpAny _ _ (if ((((items.size : Int) - 1) == 0 && (-1 : Int) == 1 && items.size == items.size)) = true then _ else _) _ _ s
  rw [if_neg hno, pick_rev]
  first
    | exact wpAny_bind (m := Builtin.Tuple.tupleExact _) (wpAny_newObj_type (wpAny_pure ⟨_, rfl, wpAny_pure h⟩) htake)
    | exact wpAny_bind (m := Builtin.Tuple.tupleExact _) (wpAny_newObj_type (wpAny_bind (wpAny_pure (wpAny_pure ⟨_, rfl, wpAny_pure h⟩))) htake)
    | exact wpAny_bind (wpAny_bind (m := Builtin.Tuple.tupleExact _) (wpAny_newObj_type (wpAny_pure (wpAny_pure ⟨_, rfl, wpAny_pure h⟩)) htake))
    | exact wpAny_bind (wpAny_bind (m := Builtin.Tuple.tupleExact _) (wpAny_newObj_type (wpAny_pure ⟨_, rfl, wpAny_pure h⟩) htake))
end
def tRevT (K : PySem.W.Frag) (te : TE) : TE := fun σ H Q => te σ H fun x H1 => ∃ a xs, x = .ref a ∧ SqT K H1 a xs ∧ ∀ p, H1 p = none → Q (.ref p) (upd H1 p (.tup xs.reverse))
theorem pe_revT {X : Cx} {e : Expr} {te : TE} {k : Nat} {p1 p2 p3 pos : Pos} (he : PE X e te) : PE X (.Subscript e (.Slice none none (some (.UnaryOp .USub (.Constant (.int 1) k p1) p2)) p3) pos) (tRevT X.K te) := by
  refine ⟨fun pins s σ H Q I h => ?_⟩
  refine Subscript_ (thn (he.run pins s σ H _ I h) fun v s1 ⟨x, H1, I1, r1, q1⟩ => ?_)
  obtain ⟨a, xs, ex, hx, q⟩ := q1
  subst ex
  cases r1
  have hst : PO X (some (.UnaryOp .USub (.Constant (.int 1) k p1) p2)) (tPart (tUn (rU fun i => .int (-i)) (tC (.int 1)))) := po_some (pe_un un_neg pe_int)
  refine wpAny_Slice (thn (po_none.run pins s1 σ H1 (fun o H2 => o = none ∧ H2 = H1) I1 ⟨rfl, rfl⟩) fun vl s2 ⟨l, H2, I2, pl, el, e2⟩ => ?_)
  subst el e2
  refine thn (po_none.run pins s2 σ H2 (fun o H3 => o = none ∧ H3 = H2) I2 ⟨rfl, rfl⟩) fun vu s3 ⟨u, H3, I3, pu, eu, e3⟩ => ?_
  subst eu e3
  refine thn (hst.run pins s3 σ H3 (fun o H4 => o = some (-1) ∧ H4 = H3) I3 ⟨1, rfl, -1, rfl, rfl, rfl⟩) fun vs s4 ⟨o, H4, I4, ps, eo, e4⟩ => ?_
  subst eo e4
  have I5 : Inv X pins σ H4 { s4 with heap := s4.heap.push { cls := .type "slice", data := .fields #[vl, vu, vs] } } := I4.kept (t' := s4.toks) fun b ob q => Heap.get?_push_of_some _ q
  obtain ⟨its, r, ht, hz⟩ := I5.tuple hx
  have hlen := r.length
  show wpAny (model X.prog X.w) X.A (subscriptTail e (.Slice none none (some (.UnaryOp .USub (.Constant (.int 1) k p1) p2)) p3) (.ref a) (.ref s4.heap.objs.size)) (EP X pins σ Q) X.xe { s4 with heap := s4.heap.push { cls := .type "slice", data := .fields #[vl, vu, vs] } }
  refine tail_any (ops := [.ref a, .ref s4.heap.objs.size]) ht.typeIs (PyProof.Rows.slot_tuple_getitem.lookup) ?_ (by with_unfolding_all rfl)
  refine getItem_tuple_rev ht (Heap.IsSliceOf.new _ vl vu vs) pl pu ps ?_ (by rw [List.size_toArray]; omega)
  refine ⟨.ref _, _, I5.laid (t' := s4.toks) (o := .tup xs.reverse) (fun b ob q => Heap.get?_push_of_some _ q) (Nat.le_refl _) ?_, rfl, q _ (I5.hok.fresh (Nat.le_refl _))⟩
  exact ⟨by rw [List.length_reverse]; exact hz, its.reverse, r.reverse, IsTup.new _ _⟩
end Mq

namespace Mq
open PySem PySem.Spec PyProof.Rows L2
open SX (S)
/-! ### tuples cut and joined: what stands in the end -/
def NewT (K : PySem.W.Frag) (xs : List V) (H : Hp) (Q : VK) : Prop := ∀ p H', Same H H' → SqT K H' p xs → Q (.ref p) H'
theorem NewT.put {K : PySem.W.Frag} {xs : List V} {H : Hp} {Q : VK} (q : NewT K xs H Q) {p : Addr} (hp : H p = none) : Q (.ref p) (upd H p (.tup xs)) := q p _ (same_new hp) (Or.inl (Or.inl upd_same))
def rSlN (K : PySem.W.Frag) : V → Option Int → Option Int → Hp → VK → Prop := fun x lo hi H Q => ∃ a xs, x = .ref a ∧ SqT K H a xs ∧ NewT K (cutV xs lo hi) H Q
section
variable {X : Cx}
theorem sl_tupN : SlR X (rSlN X.K) := by
  intro pins s σ H x v vl vu lo hi sl Q I rx hs pl pu h
  obtain ⟨a, xs, ex, hx, q⟩ := h
  refine sl_tupA pins s σ H x v vl vu lo hi sl Q I rx hs pl pu ⟨a, xs, ex, hx, fun h => q a H (Same.refl H) ?_, fun _ p hp => q.put hp⟩
  have : cutV xs lo hi = xs := by
    unfold cutV
    rw [h.1, h.2, Nat.sub_zero, List.drop_zero, List.take_length]
  rw [this]
  exact hx
def rCatN (K : PySem.W.Frag) : R2 := fun x y H Q => ∃ a b xs ys, x = .ref a ∧ y = .ref b ∧ SqT K H a xs ∧ SqT K H b ys ∧ xs.length + ys.length ≤ sizeLine ∧ NewT K (xs ++ ys) H Q
theorem op_catN : OpR X (binaryOp .Add) (rCatN X.K) := by
  intro pins s σ H x y v u Q I rx ry h
  obtain ⟨a, b, xs, ys, ex, ey, hx, hy, hz, q⟩ := h
  refine op_catA pins s σ H x y v u Q I rx ry ⟨a, b, xs, ys, ex, ey, hx, hy, hz, fun e => q b H (Same.refl H) ?_, fun _ e => q a H (Same.refl H) ?_, fun _ _ p hp => q.put hp⟩
  · subst e
    exact hy
  · subst e
    rw [List.append_nil]
    exact hx
/-! ### twice a text -/
theorem op_2S : OpR X (binaryOp .Mult) (fun x y H Q => ∃ z : List Nat, x = .int 2 ∧ y = .str (S z) ∧ z.length ≤ 1000 ∧ Q (.str (S (z ++ z))) H) := by
  intro pins s σ H x y v u Q I rx ry h
  obtain ⟨z, rfl, rfl, hz, q⟩ := h
  obtain ⟨t, rfl⟩ := rx
  obtain ⟨t', rfl⟩ := ry
  have hl : (S z).length = z.length := SX.S_len z
  refine lm_binaryOp_repeat_right (T := "str") (U := "int") (by decide) (fun s' => typeIs_int s' 2 t) (typeIs_str s (S z) t') F.fills_int_mul noFill_str_mul F.slot_int_mul lm_noRepeat_int repeat_str F.slot_int_index.lookup
    (call_gives F.slot_int_mul (typeIs_int s 2 t) F.entry_int_mul (F.args_int_mul_2 _ _) (AutoIntG3.int___mul___int_str_0 2 t (S z) t')
      ⟨rfl, typeIs_str _ _ _, call_gives F.slot_str_mul (typeIs_str _ (S z) t') F.entry_str_mul (F.args_str_mul_2 _ _) (gives_str_mul (S z) 2 t' t (by decide) (fun _ _ => ?_) (fun _ _ => ?_)) ?_⟩)
  · rw [hl]
    have : (1000 : Int) ≤ (2 ^ 63 - 1) / 2 := by decide
    omega
  · rw [hl]
    unfold Builtin.Str.tooLong
    exact decide_eq_false (by
      have : (1000 * 2 : Nat) ≤ sizeLine := by decide
      show ¬ (z.length * 2 > sizeLine)
      omega)
  · rw [if_neg (by decide)]
    cases z with
    | nil => exact ⟨.str (S []), H, I, ⟨_, rfl⟩, q⟩
    | cons c z =>
      rw [show (((2 : Int) == 1) || ((S (c :: z)).length == 0)) = false by rw [hl]; rfl, if_neg Bool.false_ne_true]
      have e : (⟨(List.replicate (2 : Int).toNat (S (c :: z)).cps).foldl (· ++ ·) #[]⟩ : Str) = S ((c :: z) ++ (c :: z)) := by
        show (⟨(#[] ++ (c :: z).toArray) ++ (c :: z).toArray⟩ : Str) = ⟨((c :: z) ++ (c :: z)).toArray⟩
        simp
      rw [e]
      refine ⟨?_, .str (S ((c :: z) ++ (c :: z))), H, I.tok _, ⟨_, rfl⟩, q⟩
      show (S ((c :: z) ++ (c :: z))).length ≤ sizeLine
      rw [SX.S_len, List.length_append]
      have : (2000 : Nat) ≤ sizeLine := by decide
      omega
end
end Mq

namespace Mq
open PySem PySem.Spec PyProof.Rows L2
/-! ### sorted(xs), xs a list of tuples of three texts -/
def txt3 (x : Str × Str × Str) : List (Int ⊕ List Nat) := [.inr x.1.cps.toList, .inr x.2.1.cps.toList, .inr x.2.2.cps.toList]
def ltS3 (x y : Str × Str × Str) : Bool := (PyProof.Rows.listOrd PyProof.Rows.itemOrd).blt (txt3 x) (txt3 y)
def Is3 (H : Hp) (f : Addr → Str × Str × Str) (b : Addr) : Prop := H b = some (.tup [.str (f b).1, .str (f b).2.1, .str (f b).2.2])
def rSorted3 (K : PySem.W.Frag) : List V → Hp → VK → Prop := fun xs H Q => ∃ (a : Addr) (as : List Addr) (f : Addr → Str × Str × Str), xs = [.ref a] ∧ SqL K H a (as.map V.ref) ∧ (∀ b ∈ as, Is3 H f b) ∧
  ∀ (qs : List Addr) (p : Addr), qs.Perm as → (∀ i j, i ≤ j → j < qs.length → ltS3 (f (qs.getD j 0)) (f (qs.getD i 0)) = false) → H p = none → Q (.ref p) (upd H p (.lst (qs.map V.ref)))
theorem vals_refs : ∀ {as : List Addr} {us : List Value}, Vals (as.map V.ref) us → us = as.map Value.ref
  | [], _, .nil => rfl
  | b :: as, _, @Paired.cons _ _ _ _ y _ _ r rr => by
    have e : y = Value.ref b := r
    rw [e, vals_refs rr]
    rfl
section
variable {X : Cx}
theorem call_sorted3 : CallR X (.builtin "sorted") (rSorted3 X.K) := by
  intro pins s σ H xs us Q I r q
  obtain ⟨a, as, f, rfl, ha, h3, q⟩ := q
  obtain ⟨u, rfl, rx⟩ := vals1 r
  cases rx
  obtain ⟨its, rv, hl, hz⟩ := I.list ha
  have ei : its = as.map Value.ref := vals_refs rv
  subst ei
  have obj : ∀ b ∈ as, ∃ (ob : Obj) (n : Nat) (t1 t2 t3 : Tok), s.heap.get? b = some ob ∧ ob.cls = .type "tuple" ∧ ob.data = .seq #[.str (f b).1 t1, .str (f b).2.1 t2, .str (f b).2.2 t3] n := by
    intro b hb
    obtain ⟨_, its, r2, ob, h1, h2, n, h4⟩ := (show ObjOk X.prog X.w H s.heap b (.tup [.str (f b).1, .str (f b).2.1, .str (f b).2.2]) from I.hok b _ (h3 b hb))
    cases r2 with
    | cons a1 r2 =>
      cases r2 with
      | cons a2 r2 =>
        cases r2 with
        | cons a3 r2 =>
          cases r2
          obtain ⟨t1, rfl⟩ := a1
          obtain ⟨t2, rfl⟩ := a2
          obtain ⟨t3, rfl⟩ := a3
          exact ⟨ob, n, t1, t2, t3, h1, h2, h4⟩
  have tups : ∀ l : List Addr, (∀ b ∈ l, b ∈ as) → ∃ fs, PyProof.Rows.TupsOf s.heap (fun _ => true) (l.map Value.ref) fs := by
    intro l
    induction l with
    | nil => intro _; exact ⟨[], .nil⟩
    | cons b l ih =>
      intro hl
      obtain ⟨fs, hf⟩ := ih fun x hx => hl x (List.mem_cons_of_mem _ hx)
      obtain ⟨ob, n, t1, t2, t3, h1, h2, h4⟩ := obj b (hl b List.mem_cons_self)
      exact ⟨_, .cons ⟨b, ob, _, n, rfl, h1, h2, h4, rfl, fun z => (by cases z), fun _ => ⟨_, _, rfl⟩⟩ hf⟩
  obtain ⟨fs, hfs⟩ := tups as fun _ h => h
  have keyC : ∀ b ∈ as, PyProof.Rows.G.tupKeyC s.heap (fun _ => true) (.ref b) = some (txt3 (f b)) := by
    intro b hb
    obtain ⟨ob, n, t1, t2, t3, h1, h2, h4⟩ := obj b hb
    have hT : PyProof.Rows.G.isTupObj s.heap (.ref b) = true := by
      simp [PyProof.Rows.G.isTupObj, h1, h2]
    unfold PyProof.Rows.G.tupKeyC
    rw [if_pos hT]
    simp only [PyProof.Rows.tupKey, h1, h4]
    rfl
  refine PyProof.Rows.G.sorted_tups (vs := as.map Value.ref) hl.isList hfs (fun v hv => ?_) (by rw [List.length_map] at hz ⊢; exact hz) fun st' hp hs _ => ?_
  · obtain ⟨b, hb, rfl⟩ := List.mem_map.mp hv
    exact ⟨_, keyC b hb⟩
  obtain ⟨e', he'⟩ := PyProof.Rows.sortedAll_at s.heap (as.map Value.ref) ((arrOf st').map (·.2))
  have mem : ∀ p ∈ (arrOf st').toList, p.1 = p.2 ∧ p.1 ∈ as.map Value.ref := fun p hp' => by
    have h1 := (hp.toList.mem_iff (a := p)).mp hp'
    rw [PyProof.Rows.pairsOf_toList] at h1
    exact PyProof.Rows.mem_zip_self h1
  obtain ⟨qs, hq1, hq2⟩ : ∃ qs : List Addr, (arrOf st').toList.map (·.2) = qs.map Value.ref ∧ qs.Perm as := by
    have h1 : ((arrOf st').toList.map (·.2)).Perm (as.map Value.ref) := by
      have h2 := hp.toList.map (fun p : Keyed => p.2)
      rw [PyProof.Rows.pairsOf_toList] at h2
      rw [List.map_snd_zip (Nat.le_refl _)] at h2
      exact h2
    exact perm_back h1
  have hql : qs.length = as.length := hq2.length_eq
  have harr : (arrOf st').toList.length = qs.length := by
    have h1 := congrArg List.length hq1
    rw [List.length_map, List.length_map] at h1
    exact h1
  have hkk : ∀ i, i < qs.length → PyProof.Rows.KK (PyProof.Rows.G.tupKindC s.heap fun _ => true) (arrOf st') i = txt3 (f (qs.getD i 0)) := by
    intro i hi
    have hi' : i < (arrOf st').toList.length := by omega
    have e1 : (arrOf st')[i]? = some (arrOf st').toList[i] := by
      rw [← Array.getElem?_toList, List.getElem?_eq_getElem hi']
    obtain ⟨m1, m2⟩ := mem _ (List.getElem_mem hi')
    have e2 : (arrOf st').toList[i].2 = .ref (qs.getD i 0) := by
      have h1 := congrArg (fun l => l[i]?) hq1
      simp only [List.getElem?_map, List.getElem?_eq_getElem hi', List.getElem?_eq_getElem hi, Option.map_some, Option.some.injEq] at h1
      rw [h1, List.getD_eq_getElem?_getD, List.getElem?_eq_getElem hi]
      rfl
    have hin : qs.getD i 0 ∈ as := hq2.mem_iff.mp (by rw [List.getD_eq_getElem?_getD, List.getElem?_eq_getElem hi]; exact List.getElem_mem hi)
    unfold PyProof.Rows.KK
    rw [e1]
    show (PyProof.Rows.G.tupKeyC _ _ (arrOf st').toList[i].1).getD _ = _
    rw [m1, e2, keyC _ hin]
    rfl
  have srt : ∀ i j, i ≤ j → j < qs.length → ltS3 (f (qs.getD j 0)) (f (qs.getD i 0)) = false := by
    intro i j hij hj
    have h1 := hs i j hij (by rw [PyProof.Rows.pairsOf_size, List.length_map]; omega)
    rw [hkk i (by omega), hkk j hj] at h1
    exact h1
  have vals : ∀ l : List Addr, Vals (l.map V.ref) (l.map Value.ref) := fun l => by
    induction l with
    | nil => exact .nil
    | cons b l ih => exact .cons rfl ih
  have hout : ((arrOf st').map (·.2)).toList = qs.map Value.ref := by
    rw [Array.toList_map]
    exact hq1
  have hz2 : (qs.map V.ref).length ≤ sizeLine := by
    rw [List.length_map, hql]
    rw [List.length_map] at hz
    exact hz
  have fresh := I.hok.fresh (Nat.le_succ s.heap.objs.size)
  refine ⟨.ref (s.heap.objs.size + 1), upd H (s.heap.objs.size + 1) (.lst (qs.map V.ref)), ?_, rfl, q qs _ hq2 srt fresh⟩
  refine I.laid (t' := s.toks) (fun b u e => PyProof.Rows.sortedAll_old e) (Nat.le_succ _) ⟨hz2, qs.map Value.ref, e', vals qs, ?_⟩
  rw [← hout, Array.toArray_toList]
  exact he'
end
end Mq

namespace Mq
open PySem PySem.Spec PyProof.Rows L2
/-! ### sorted(xs), xs a list of pairs of texts -/
def Is2 (H : Hp) (b : Addr) : Prop := H b = some (.tup [.str (prOf H b).1, .str (prOf H b).2])
def rSorted2 (K : PySem.W.Frag) : List V → Hp → VK → Prop := fun xs H Q => ∃ (a : Addr) (as : List Addr), xs = [.ref a] ∧ SqL K H a (as.map V.ref) ∧ (∀ b ∈ as, Is2 H b) ∧
  ∀ (qs : List Addr) (p : Addr), qs.Perm as → (∀ i j, i ≤ j → j < qs.length → ltSS (prOf H (qs.getD j 0)) (prOf H (qs.getD i 0)) = false) → H p = none → Q (.ref p) (upd H p (.lst (qs.map V.ref)))
section
variable {X : Cx}
theorem call_sorted2 : CallR X (.builtin "sorted") (rSorted2 X.K) := by
  intro pins s σ H xs us Q I r q
  obtain ⟨a, as, rfl, ha, h3, q⟩ := q
  obtain ⟨u, rfl, rx⟩ := vals1 r
  cases rx
  obtain ⟨its, rv, hl, hz⟩ := I.list ha
  have ei : its = as.map Value.ref := vals_refs rv
  subst ei
  have obj : ∀ b ∈ as, ∃ (ob : Obj) (n : Nat) (t1 t2 : Tok), s.heap.get? b = some ob ∧ ob.cls = .type "tuple" ∧ ob.data = .seq #[.str (prOf H b).1 t1, .str (prOf H b).2 t2] n := by
    intro b hb
    obtain ⟨_, its, r2, ob, h1, h2, n, h4⟩ := (show ObjOk X.prog X.w H s.heap b (.tup [.str (prOf H b).1, .str (prOf H b).2]) from I.hok b _ (h3 b hb))
    cases r2 with
    | cons a1 r2 =>
      cases r2 with
      | cons a2 r2 =>
        cases r2
        obtain ⟨t1, rfl⟩ := a1
        obtain ⟨t2, rfl⟩ := a2
        exact ⟨ob, n, t1, t2, h1, h2, h4⟩
  have tups : ∀ l : List Addr, (∀ b ∈ l, b ∈ as) → ∃ fs, PyProof.Rows.TupsOf s.heap (fun _ => true) (l.map Value.ref) fs := by
    intro l
    induction l with
    | nil => intro _; exact ⟨[], .nil⟩
    | cons b l ih =>
      intro hl
      obtain ⟨fs, hf⟩ := ih fun x hx => hl x (List.mem_cons_of_mem _ hx)
      obtain ⟨ob, n, t1, t2, h1, h2, h4⟩ := obj b (hl b List.mem_cons_self)
      exact ⟨_, .cons ⟨b, ob, _, n, rfl, h1, h2, h4, rfl, fun z => (by cases z), fun _ => ⟨_, _, rfl⟩⟩ hf⟩
  obtain ⟨fs, hfs⟩ := tups as fun _ h => h
  have keyC : ∀ b ∈ as, PyProof.Rows.G.tupKeyC s.heap (fun _ => true) (.ref b) = some (txt2 (prOf H b)) := by
    intro b hb
    obtain ⟨ob, n, t1, t2, h1, h2, h4⟩ := obj b hb
    have hT : PyProof.Rows.G.isTupObj s.heap (.ref b) = true := by
      simp [PyProof.Rows.G.isTupObj, h1, h2]
    unfold PyProof.Rows.G.tupKeyC
    rw [if_pos hT]
    simp only [PyProof.Rows.tupKey, h1, h4]
    rfl
  refine PyProof.Rows.G.sorted_tups (vs := as.map Value.ref) hl.isList hfs (fun v hv => ?_) (by rw [List.length_map] at hz ⊢; exact hz) fun st' hp hs _ => ?_
  · obtain ⟨b, hb, rfl⟩ := List.mem_map.mp hv
    exact ⟨_, keyC b hb⟩
  obtain ⟨e', he'⟩ := PyProof.Rows.sortedAll_at s.heap (as.map Value.ref) ((arrOf st').map (·.2))
  have mem : ∀ p ∈ (arrOf st').toList, p.1 = p.2 ∧ p.1 ∈ as.map Value.ref := fun p hp' => by
    have h1 := (hp.toList.mem_iff (a := p)).mp hp'
    rw [PyProof.Rows.pairsOf_toList] at h1
    exact PyProof.Rows.mem_zip_self h1
  obtain ⟨qs, hq1, hq2⟩ : ∃ qs : List Addr, (arrOf st').toList.map (·.2) = qs.map Value.ref ∧ qs.Perm as := by
    have h1 : ((arrOf st').toList.map (·.2)).Perm (as.map Value.ref) := by
      have h2 := hp.toList.map (fun p : Keyed => p.2)
      rw [PyProof.Rows.pairsOf_toList] at h2
      rw [List.map_snd_zip (Nat.le_refl _)] at h2
      exact h2
    exact perm_back h1
  have hql : qs.length = as.length := hq2.length_eq
  have harr : (arrOf st').toList.length = qs.length := by
    have h1 := congrArg List.length hq1
    rw [List.length_map, List.length_map] at h1
    exact h1
  have hkk : ∀ i, i < qs.length → PyProof.Rows.KK (PyProof.Rows.G.tupKindC s.heap fun _ => true) (arrOf st') i = txt2 (prOf H (qs.getD i 0)) := by
    intro i hi
    have hi' : i < (arrOf st').toList.length := by omega
    have e1 : (arrOf st')[i]? = some (arrOf st').toList[i] := by
      rw [← Array.getElem?_toList, List.getElem?_eq_getElem hi']
    obtain ⟨m1, m2⟩ := mem _ (List.getElem_mem hi')
    have e2 : (arrOf st').toList[i].2 = .ref (qs.getD i 0) := by
      have h1 := congrArg (fun l => l[i]?) hq1
      simp only [List.getElem?_map, List.getElem?_eq_getElem hi', List.getElem?_eq_getElem hi, Option.map_some, Option.some.injEq] at h1
      rw [h1, List.getD_eq_getElem?_getD, List.getElem?_eq_getElem hi]
      rfl
    have hin : qs.getD i 0 ∈ as := hq2.mem_iff.mp (by rw [List.getD_eq_getElem?_getD, List.getElem?_eq_getElem hi]; exact List.getElem_mem hi)
    unfold PyProof.Rows.KK
    rw [e1]
    show (PyProof.Rows.G.tupKeyC _ _ (arrOf st').toList[i].1).getD _ = _
    rw [m1, e2, keyC _ hin]
    rfl
  have srt : ∀ i j, i ≤ j → j < qs.length → ltSS (prOf H (qs.getD j 0)) (prOf H (qs.getD i 0)) = false := by
    intro i j hij hj
    have h1 := hs i j hij (by rw [PyProof.Rows.pairsOf_size, List.length_map]; omega)
    rw [hkk i (by omega), hkk j hj] at h1
    exact h1
  have vals : ∀ l : List Addr, Vals (l.map V.ref) (l.map Value.ref) := fun l => by
    induction l with
    | nil => exact .nil
    | cons b l ih => exact .cons rfl ih
  have hout : ((arrOf st').map (·.2)).toList = qs.map Value.ref := by
    rw [Array.toList_map]
    exact hq1
  have hz2 : (qs.map V.ref).length ≤ sizeLine := by
    rw [List.length_map, hql]
    rw [List.length_map] at hz
    exact hz
  have fresh := I.hok.fresh (Nat.le_succ s.heap.objs.size)
  refine ⟨.ref (s.heap.objs.size + 1), upd H (s.heap.objs.size + 1) (.lst (qs.map V.ref)), ?_, rfl, q qs _ hq2 srt fresh⟩
  refine I.laid (t' := s.toks) (fun b u e => PyProof.Rows.sortedAll_old e) (Nat.le_succ _) ⟨hz2, qs.map Value.ref, e', vals qs, ?_⟩
  rw [← hout, Array.toArray_toList]
  exact he'
end
/-- what stands in order is left as it is -/
theorem perm_asc {α : Type} {r : α → α → Bool} : ∀ {l m : List α}, l.Perm m → l.Pairwise (fun a b => r b a = false) → m.Pairwise (fun a b => r a b = true) → l = m
  | [], m, h, _, _ => h.nil_eq
  | a :: l, [], h, _, _ => h.eq_nil
  | a :: l, b :: m, h, hl, hm => by
    obtain ⟨h1, h2⟩ := List.pairwise_cons.mp hl
    obtain ⟨h3, h4⟩ := List.pairwise_cons.mp hm
    have e : a = b := by
      rcases List.mem_cons.mp (h.mem_iff.mp (List.mem_cons_self (a := a) (l := l))) with e | e
      · exact e
      · rcases List.mem_cons.mp (h.mem_iff.mpr (List.mem_cons_self (a := b) (l := m))) with e2 | e2
        · exact e2.symm
        · have h5 := h1 b e2
          rw [h3 a e] at h5
          cases h5
    subst e
    rw [perm_asc h.cons_inv h2 h4]
theorem lt_first {x y : Str × Str} (h : x.1.cps.toList < y.1.cps.toList) : ltSS x y = true := by
  show (decide (x.1.cps.toList < y.1.cps.toList) || (!decide (y.1.cps.toList < x.1.cps.toList) && (decide (x.2.cps.toList < y.2.cps.toList) || (!decide (y.2.cps.toList < x.2.cps.toList) && false)))) = true
  rw [decide_eq_true h]
  rfl
end Mq

namespace Mq
open PySem PySem.Spec PyProof.Rows L2
open SX (S)
/-! ### data of tuples, texts and numbers: where tuples stay, it stays -/
mutual
inductive Td (K : PySem.W.Frag) (H : Hp) : V → PyData → Prop
  | int (i : Int) : Td K H (.int i) (.int i)
  | str (x : Str) : Td K H (.str x) (.str x)
  | tup {a : Addr} {xs : List V} {ds : List PyData} : SqT K H a xs → TdAll K H xs ds → Td K H (.ref a) (.tuple ds)
inductive TdAll (K : PySem.W.Frag) (H : Hp) : List V → List PyData → Prop
  | nil : TdAll K H [] []
  | cons {v : V} {vs : List V} {d : PyData} {ds : List PyData} : Td K H v d → TdAll K H vs ds → TdAll K H (v :: vs) (d :: ds)
end
section
variable {K : PySem.W.Frag} {H H' : Hp}
mutual
theorem Td.kp (e : ∀ a xs, SqT K H a xs → SqT K H' a xs) : ∀ {v : V} {d : PyData}, Td K H v d → Td K H' v d
  | _, _, .int i => .int i
  | _, _, .str x => .str x
  | _, _, .tup h a => .tup (e _ _ h) (TdAll.kp e a)
theorem TdAll.kp (e : ∀ a xs, SqT K H a xs → SqT K H' a xs) : ∀ {v : List V} {d : List PyData}, TdAll K H v d → TdAll K H' v d
  | _, _, .nil => .nil
  | _, _, .cons a b => .cons (Td.kp e a) (TdAll.kp e b)
end
theorem Td.same (e : Same H H') {v : V} {d : PyData} (h : Td K H v d) : Td K H' v d := h.kp fun _ _ z => Same.tup e z
theorem TdAll.same (e : Same H H') {v : List V} {d : List PyData} (h : TdAll K H v d) : TdAll K H' v d := h.kp fun _ _ z => Same.tup e z
mutual
theorem Td.dg : ∀ {v : V} {d : PyData}, Td K H v d → Dg K H v d
  | _, _, .int i => .int i
  | _, _, .str x => .str x
  | _, _, .tup h a => .tup h (TdAll.dg a)
theorem TdAll.dg : ∀ {v : List V} {d : List PyData}, TdAll K H v d → DgAll K H v d
  | _, _, .nil => .nil
  | _, _, .cons a b => .cons (Td.dg a) (TdAll.dg b)
end
mutual
theorem Td.dp : ∀ {v : V} {d : PyData}, Td K H v d → Dp K H v d
  | _, _, .int i => .int i
  | _, _, .str x => .str x
  | _, _, .tup h a => .tup h (TdAll.dp a)
theorem TdAll.dp : ∀ {v : List V} {d : List PyData}, TdAll K H v d → DpAll K H v d
  | _, _, .nil => .nil
  | _, _, .cons a b => .cons (Td.dp a) (TdAll.dp b)
end
theorem TdAll.len : ∀ {vs : List V} {ds : List PyData}, TdAll K H vs ds → vs.length = ds.length
  | _, _, .nil => rfl
  | _, _, .cons a b => congrArg (· + 1) b.len
theorem TdAll.snoc : ∀ {vs : List V} {ds : List PyData} {v : V} {d : PyData}, TdAll K H vs ds → Td K H v d → TdAll K H (vs ++ [v]) (ds ++ [d])
  | _, _, _, _, .nil, h => .cons h .nil
  | _, _, _, _, .cons a b, h => .cons a (b.snoc h)
theorem TdAll.unsnoc : ∀ {vs : List V} {ds : List PyData} {d : PyData}, TdAll K H vs (ds ++ [d]) → ∃ us v, vs = us ++ [v] ∧ TdAll K H us ds ∧ Td K H v d
  | _, [], _, .cons a .nil => ⟨[], _, rfl, .nil, a⟩
  | _, e :: ds, _, .cons a b => by
    obtain ⟨us, v, rfl, h1, h2⟩ := b.unsnoc
    exact ⟨_ :: us, v, rfl, .cons a h1, h2⟩
theorem TdAll.at : ∀ {vs : List V} {ds : List PyData} {i : Nat} {v : V}, TdAll K H vs ds → vs[i]? = some v → ∃ d, ds[i]? = some d ∧ Td K H v d
  | _, _, 0, _, .cons a b, h => ⟨_, rfl, by cases h; exact a⟩
  | _, _, i + 1, _, .cons a b, h => TdAll.at (i := i) b h
theorem TdAll.of_strs {xs : List Str} : TdAll K H (xs.map V.str) (xs.map PyData.str) := by
  induction xs with
  | nil => exact .nil
  | cons x xs ih => exact .cons (.str x) ih
/-- a tuple of two -/
theorem Td.two {v : V} {d e : PyData} (h : Td K H v (.tuple [d, e])) : ∃ a x y, v = .ref a ∧ SqT K H a [x, y] ∧ Td K H x d ∧ Td K H y e := by
  cases h with
  | tup h a =>
    cases a with
    | cons a b =>
      cases b with
      | cons b c =>
        cases c
        exact ⟨_, _, _, rfl, h, a, b⟩
theorem Td.two' {a : Addr} {x y : V} {d e : PyData} (h : SqT K H a [x, y]) (h1 : Td K H x d) (h2 : Td K H y e) : Td K H (.ref a) (.tuple [d, e]) := .tup h (.cons h1 (.cons h2 .nil))
theorem Td.isStr {v : V} {x : Str} (h : Td K H v (.str x)) : v = .str x := by
  cases h
  rfl
end
/-! ### what can be shown, and how long it is -/
structure ShowOk (d : PyData) : Prop where
  sh : d.showable = true
  de : d.depth ≤ 40
  le : d.shown.length ≤ sizeLine
structure Gd (w n : Nat) (d : PyData) : Prop where
  cl : d.canLay0 = true
  sh : d.showable = true
  de : d.depth ≤ n
  we : d.weight ≤ w
  it : d.intsShort 13 = true
theorem gd_str {l : List Nat} {w : Nat} (h : ∀ c ∈ l, c < 1114112) (hl : l.length ≤ w) : Gd w 0 (.str (S l)) := by
  refine ⟨?_, rfl, Nat.le_refl 0, ?_, rfl⟩
  · show (l.toArray : Array Nat).all (fun d => decide (d < 1114112)) = true
    rw [List.all_toArray]
    exact List.all_eq_true.mpr fun c hc => decide_eq_true (h c hc)
  · show (S l).length ≤ w
    rw [SX.S_len]
    exact hl
theorem gd_int {k : Nat} (h : k ≤ 1000) : Gd 20 0 (.int (k : Nat)) := by
  obtain ⟨a, b, c⟩ := small_short k h
  exact ⟨rfl, b, Nat.le_refl 0, c, by show decide _ = true; exact decide_eq_true a⟩
theorem Gd.mono {w n w' n' : Nat} {d : PyData} (h : Gd w n d) (hw : w ≤ w') (hn : n ≤ n') : Gd w' n' d := ⟨h.cl, h.sh, Nat.le_trans h.de hn, Nat.le_trans h.we hw, h.it⟩
theorem gd_all {w n : Nat} : ∀ {ds : List PyData}, (∀ d ∈ ds, Gd w n d) → PyData.canLayAll0 ds = true ∧ PyData.showableAll ds = true ∧ PyData.depthAll ds ≤ n ∧ PyData.weightAll ds ≤ ds.length * (w + 1) ∧ PyData.intsShortAll 13 ds = true
  | [], _ => ⟨rfl, rfl, Nat.zero_le _, Nat.zero_le _, rfl⟩
  | d :: ds, h => by
    obtain ⟨a, b, c, e, f⟩ := gd_all fun x hx => h x (List.mem_cons_of_mem _ hx)
    have g := h d List.mem_cons_self
    refine ⟨?_, ?_, ?_, ?_, ?_⟩
    · show (d.canLay0 && PyData.canLayAll0 ds) = true
      rw [g.cl, a]
      rfl
    · show (d.showable && PyData.showableAll ds) = true
      rw [g.sh, b]
      rfl
    · exact Nat.max_le.mpr ⟨g.de, c⟩
    · show d.weight + 1 + PyData.weightAll ds ≤ (ds.length + 1) * (w + 1)
      have := g.we
      rw [Nat.add_mul, Nat.one_mul]
      omega
    · show (d.intsShort 13 && PyData.intsShortAll 13 ds) = true
      rw [g.it, f]
      rfl
theorem gd_tup {w n m : Nat} {ds : List PyData} (h : ∀ d ∈ ds, Gd w n d) (hl : ds.length ≤ m) : Gd (m * (w + 1)) (n + 1) (.tuple ds) := by
  obtain ⟨a, b, c, e, f⟩ := gd_all h
  exact ⟨a, b, Nat.succ_le_succ c, Nat.le_trans e (Nat.mul_le_mul_right _ hl), f⟩
theorem gd_lst {w n m : Nat} {ds : List PyData} (h : ∀ d ∈ ds, Gd w n d) (hl : ds.length ≤ m) : Gd (m * (w + 1)) (n + 1) (.list ds) := by
  obtain ⟨a, b, c, e, f⟩ := gd_all h
  exact ⟨a, b, Nat.succ_le_succ c, Nat.le_trans e (Nat.mul_le_mul_right _ hl), f⟩
theorem Gd.ok {w n : Nat} {d : PyData} (h : Gd w n d) (hw : w ≤ 1000000) (hn : n ≤ 40) : ShowOk d :=
  ⟨h.sh, Nat.le_trans h.de hn, shown_fits h.cl (Nat.le_trans h.de (Nat.le_trans hn (by decide))) (Nat.le_trans h.we hw) h.it⟩
end Mq

namespace Mq
open PySem PySem.Spec PyProof.Rows L2
open SX (S)
/-! ### signs of what is shown -/
def Low (x : Str) : Prop := ∀ c ∈ x.cps.toList, c < 16 ^ 8
theorem low_of (s : String) : Low (Str.ofString s) := by
  intro c hc
  rw [Str.ofString_eq_toList] at hc
  obtain ⟨d, _, rfl⟩ := List.mem_map.mp (by simpa using hc : c ∈ s.toList.map Char.toNat)
  have h : d.toNat < 4294967296 := d.val.toBitVec.isLt
  exact Nat.lt_of_lt_of_le h (by decide)
theorem low_app {x y : Str} (hx : Low x) (hy : Low y) : Low (x ++ y) := by
  intro c hc
  have e : (x ++ y).cps.toList = x.cps.toList ++ y.cps.toList := Array.toList_append ..
  rw [e] at hc
  exact (List.mem_append.mp hc).elim (hx c) (hy c)
theorem low_join {sep : Str} (hs : Low sep) : ∀ ts : List Str, (∀ t ∈ ts, Low t) → Low (Str.join sep ts)
  | [], _ => fun c hc => by cases (by simpa [Str.join, Str.empty] using hc : False)
  | [x], h => h x List.mem_cons_self
  | x :: y :: r, h => low_app (low_app (h x List.mem_cons_self) hs) (low_join hs (y :: r) fun t ht => h t (List.mem_cons_of_mem _ ht))
theorem low_from : ∀ (ts : List Str) (k : Nat) (acc : Str), Low acc → (∀ t ∈ ts, Low t) → Low (textFrom k acc ts)
  | [], _, _, h, _ => h
  | t :: r, k, acc, h, ht => by
    refine low_from r (k + 1) _ (low_app (low_app h ?_) (ht t List.mem_cons_self)) fun u hu => ht u (List.mem_cons_of_mem _ hu)
    exact low_of _
theorem low_digits {c : Nat} : ∀ d ∈ (Nat.toDigits 16 c).map Char.toNat, d < 16 ^ 8 := by
  intro d hd
  obtain ⟨e, _, rfl⟩ := List.mem_map.mp hd
  have h : e.toNat < 4294967296 := e.val.toBitVec.isLt
  exact Nat.lt_of_lt_of_le h (by decide)
theorem low_char {q c : Nat} (hc : c < 16 ^ 8) : ∀ d ∈ Builtin.Str.reprChar q c, d < 16 ^ 8 := by
  have hx : ∀ w : Nat, ∀ d ∈ List.replicate (w - ((Nat.toDigits 16 c).map Char.toNat).length) 48 ++ (Nat.toDigits 16 c).map Char.toNat, d < 16 ^ 8 := by
    intro w d hd
    rcases List.mem_append.mp hd with h | h
    · rw [(List.mem_replicate.mp h).2]
      decide
    · exact low_digits d h
  have two : ∀ a b : Nat, a < 16 ^ 8 → b < 16 ^ 8 → ∀ d ∈ [a, b], d < 16 ^ 8 := by
    intro a b ha hb d hd
    simp only [List.mem_cons, List.not_mem_nil, or_false] at hd
    rcases hd with rfl | rfl
    · exact ha
    · exact hb
  have both : ∀ (a b : List Nat), (∀ d ∈ a, d < 16 ^ 8) → (∀ d ∈ b, d < 16 ^ 8) → ∀ d ∈ a ++ b, d < 16 ^ 8 := fun a b ha hb d hd => (List.mem_append.mp hd).elim (ha d) (hb d)
  unfold Builtin.Str.reprChar
  dsimp only
  split
  · exact two _ _ (by decide) hc
  split
  · exact two _ _ (by decide) (by decide)
  split
  · exact two _ _ (by decide) (by decide)
  split
  · exact two _ _ (by decide) (by decide)
  split
  · intro d hd
    rw [List.mem_singleton.mp hd]
    exact hc
  split
  · exact both _ _ (two _ _ (by decide) (by decide)) (hx 2)
  split
  · exact both _ _ (two _ _ (by decide) (by decide)) (hx 4)
  · exact both _ _ (two _ _ (by decide) (by decide)) (hx 8)
theorem low_fold (q : Nat) : ∀ (l : List Nat) (acc : Array Nat), (∀ c ∈ l, c < 16 ^ 8) → (∀ c ∈ acc.toList, c < 16 ^ 8) → ∀ c ∈ (l.foldl (fun out c => out ++ (Builtin.Str.reprChar q c).toArray) acc).toList, c < 16 ^ 8
  | [], acc, _, h => h
  | c :: l, acc, hl, h => by
    refine low_fold q l _ (fun d hd => hl d (List.mem_cons_of_mem _ hd)) fun d hd => ?_
    rw [Array.toList_append] at hd
    rcases List.mem_append.mp hd with hd | hd
    · exact h d hd
    · exact low_char (hl c List.mem_cons_self) d hd
theorem low_quote (x : Str) : reprQuote x < 16 ^ 8 := by
  unfold reprQuote
  split <;> decide
theorem low_repr {x : Str} (h : Low x) : Low (reprText x) := by
  intro c hc
  unfold reprText at hc
  have hc : c ∈ ((x.cps.foldl (fun out c => out ++ (Builtin.Str.reprChar (reprQuote x) c).toArray) #[reprQuote x]).push (reprQuote x)).toList := hc
  rw [Array.toList_push, ← Array.foldl_toList] at hc
  rcases List.mem_append.mp hc with hc | hc
  · refine low_fold _ _ _ h (fun d hd => ?_) c hc
    have hd : d ∈ [reprQuote x] := hd
    rw [List.mem_singleton.mp hd]
    exact low_quote x
  · rw [List.mem_singleton.mp hc]
    exact low_quote x
mutual
theorem low_shown {B : Nat} : ∀ d : PyData, d.leavesShort B = true → Low d.shown
  | .none, _ => low_of "None"
  | .bool true, _ => low_of "True"
  | .bool false, _ => low_of "False"
  | .int i, _ => low_of _
  | .str x, h => by
    have hx : ∀ c ∈ x.cps.toList, c < 16 ^ 8 := by simpa only [PyData.leavesShort, List.all_eq_true, decide_eq_true_eq] using h
    exact low_repr hx
  | .list xs, h => by
    have h1 := low_all xs (by simpa only [PyData.leavesShort] using h)
    show Low (listText (PyData.shownAll xs))
    unfold listText
    exact low_app (low_from _ 0 _ (low_of "[") h1) (low_of "]")
  | .tuple xs, h => by
    have h1 := low_all xs (by simpa only [PyData.leavesShort] using h)
    show Low (tupleText (PyData.shownAll xs))
    unfold tupleText
    exact low_app (low_app (low_of "(") (low_join (low_of ", ") _ h1)) (low_of _)
  | .dict kvs, h => by
    have h1 := low_kv kvs (by simpa only [PyData.leavesShort] using h)
    show Low (dictText (PyData.shownKv kvs))
    unfold dictText
    exact low_app (low_app (low_of "{") (low_join (low_of ", ") _ h1)) (low_of "}")
theorem low_all {B : Nat} : ∀ xs : List PyData, PyData.leavesShortAll B xs = true → ∀ t ∈ PyData.shownAll xs, Low t
  | [], _ => fun t ht => by cases ht
  | x :: xs, h => by
    have h' : x.leavesShort B = true ∧ PyData.leavesShortAll B xs = true := by simpa only [PyData.leavesShortAll, Bool.and_eq_true] using h
    have h1 := low_shown x h'.1
    have h2 := low_all xs h'.2
    intro t ht
    rcases List.mem_cons.mp (show t ∈ x.shown :: PyData.shownAll xs from ht) with rfl | ht
    · exact h1
    · exact h2 t ht
theorem low_kv {B : Nat} : ∀ kvs : List (PyData × PyData), PyData.leavesShortKv B kvs = true → ∀ t ∈ PyData.shownKv kvs, Low t
  | [], _ => fun t ht => by cases ht
  | (k, v) :: r, h => by
    have h' : (k.leavesShort B = true ∧ v.leavesShort B = true) ∧ PyData.leavesShortKv B r = true := by simpa only [PyData.leavesShortKv, Bool.and_eq_true] using h
    have h1 := low_shown k h'.1.1
    have h2 := low_shown v h'.1.2
    have h3 := low_kv r h'.2
    intro t ht
    rcases List.mem_cons.mp (show t ∈ (k.shown ++ ": " ++ v.shown) :: PyData.shownKv r from ht) with rfl | ht
    · exact low_app (low_app h1 (low_of ": ")) h2
    · exact h3 t ht
end
/-! ### bounds, dicts and long numbers among them -/
structure Gs (w n : Nat) (d : PyData) : Prop where
  sh : d.showable = true
  de : d.depth ≤ n
  we : d.weight ≤ w
  le : d.leavesShort 60 = true
def gsB (w n : Nat) (d : PyData) : Bool := d.showable && (decide (d.depth ≤ n) && (decide (d.weight ≤ w) && d.leavesShort 60))
theorem gs_of {w n : Nat} {d : PyData} (h : gsB w n d = true) : Gs w n d := by
  obtain ⟨a, h⟩ := Bool.and_eq_true_iff.mp h
  obtain ⟨b, h⟩ := Bool.and_eq_true_iff.mp h
  obtain ⟨c, e⟩ := Bool.and_eq_true_iff.mp h
  exact ⟨a, of_decide_eq_true b, of_decide_eq_true c, e⟩
theorem Gs.mono {w n w' n' : Nat} {d : PyData} (h : Gs w n d) (hw : w ≤ w') (hn : n ≤ n') : Gs w' n' d := ⟨h.sh, Nat.le_trans h.de hn, Nat.le_trans h.we hw, h.le⟩
theorem Gs.len {w n : Nat} {d : PyData} (h : Gs w n d) : d.shown.length ≤ 62 * w + 60 := by
  have h1 := PyData.shown_le 60 (by decide) d h.le
  have h2 := h.we
  omega
theorem Gs.ok {w n : Nat} {d : PyData} (h : Gs w n d) (hw : w ≤ 200000) (hn : n ≤ 40) : ShowOk d :=
  ⟨h.sh, Nat.le_trans h.de hn, by have := h.len; rw [sizeLine_eq]; omega⟩
theorem gs_str {l : List Nat} {w : Nat} (h : ∀ c ∈ l, c < 1114112) (hl : l.length ≤ w) : Gs w 0 (.str (S l)) := by
  refine ⟨rfl, Nat.le_refl 0, ?_, ?_⟩
  · show (S l).length ≤ w
    rw [SX.S_len]
    exact hl
  · show (l.toArray.toList.all fun c => decide (c < 16 ^ 8)) = true
    refine List.all_eq_true.mpr fun c hc => decide_eq_true ?_
    exact Nat.lt_of_lt_of_le (h c (by simpa using hc)) (by decide)
theorem Gs.shown {w n : Nat} {d : PyData} (h : Gs w n d) : Gs (62 * w + 60) 0 (.str d.shown) := by
  refine ⟨rfl, Nat.le_refl 0, h.len, ?_⟩
  show (d.shown.cps.toList.all fun c => decide (c < 16 ^ 8)) = true
  exact List.all_eq_true.mpr fun c hc => decide_eq_true (low_shown d h.le c hc)
theorem gs_all {w n : Nat} : ∀ {ds : List PyData}, (∀ d ∈ ds, Gs w n d) → PyData.showableAll ds = true ∧ PyData.depthAll ds ≤ n ∧ PyData.weightAll ds ≤ ds.length * (w + 1) ∧ PyData.leavesShortAll 60 ds = true
  | [], _ => ⟨rfl, Nat.zero_le _, Nat.zero_le _, rfl⟩
  | d :: ds, h => by
    obtain ⟨b, c, e, f⟩ := gs_all fun x hx => h x (List.mem_cons_of_mem _ hx)
    have g := h d List.mem_cons_self
    refine ⟨?_, ?_, ?_, ?_⟩
    · show (d.showable && PyData.showableAll ds) = true
      rw [g.sh, b]
      rfl
    · exact Nat.max_le.mpr ⟨g.de, c⟩
    · show d.weight + 1 + PyData.weightAll ds ≤ (ds.length + 1) * (w + 1)
      have := g.we
      rw [Nat.add_mul, Nat.one_mul]
      omega
    · show (d.leavesShort 60 && PyData.leavesShortAll 60 ds) = true
      rw [g.le, f]
      rfl
theorem gs_tup {w n m : Nat} {ds : List PyData} (h : ∀ d ∈ ds, Gs w n d) (hl : ds.length ≤ m) : Gs (m * (w + 1)) (n + 1) (.tuple ds) := by
  obtain ⟨b, c, e, f⟩ := gs_all h
  exact ⟨b, Nat.succ_le_succ c, Nat.le_trans e (Nat.mul_le_mul_right _ hl), f⟩
theorem gs_lst {w n m : Nat} {ds : List PyData} (h : ∀ d ∈ ds, Gs w n d) (hl : ds.length ≤ m) : Gs (m * (w + 1)) (n + 1) (.list ds) := by
  obtain ⟨b, c, e, f⟩ := gs_all h
  exact ⟨b, Nat.succ_le_succ c, Nat.le_trans e (Nat.mul_le_mul_right _ hl), f⟩
theorem gs_bool {w n : Nat} (b : Bool) : Gs w n (.bool b) := ⟨rfl, Nat.zero_le _, Nat.zero_le _, rfl⟩
/-! ### data whose lists and dicts stand at told places: it stays where these stay -/
mutual
inductive Dv (K : PySem.W.Frag) (N : Addr → Prop) (H : Hp) : V → PyData → Prop
  | non : Dv K N H .non .none
  | bl (b : Bool) : Dv K N H (.bl b) (.bool b)
  | int (i : Int) : Dv K N H (.int i) (.int i)
  | str (x : Str) : Dv K N H (.str x) (.str x)
  | lst {a : Addr} {xs : List V} {ds : List PyData} : N a → a ≠ sysModules → H a = some (.lst xs) → DvAll K N H xs ds → Dv K N H (.ref a) (.list ds)
  | tup {a : Addr} {xs : List V} {ds : List PyData} : SqT K H a xs → DvAll K N H xs ds → Dv K N H (.ref a) (.tuple ds)
  | dct {a : Addr} : N a → H a = some (.dK []) → Dv K N H (.ref a) (.dict [])
inductive DvAll (K : PySem.W.Frag) (N : Addr → Prop) (H : Hp) : List V → List PyData → Prop
  | nil : DvAll K N H [] []
  | cons {v : V} {vs : List V} {d : PyData} {ds : List PyData} : Dv K N H v d → DvAll K N H vs ds → DvAll K N H (v :: vs) (d :: ds)
end
section
variable {K : PySem.W.Frag} {N N' : Addr → Prop} {H H' : Hp}
mutual
theorem Dv.kp (e1 : ∀ a o, N a → H a = some o → H' a = some o) (e2 : ∀ a xs, SqT K H a xs → SqT K H' a xs) : ∀ {v : V} {d : PyData}, Dv K N H v d → Dv K N H' v d
  | _, _, .non => .non
  | _, _, .bl b => .bl b
  | _, _, .int i => .int i
  | _, _, .str x => .str x
  | _, _, .lst n m h a => .lst n m (e1 _ _ n h) (DvAll.kp e1 e2 a)
  | _, _, .tup h a => .tup (e2 _ _ h) (DvAll.kp e1 e2 a)
  | _, _, .dct n h => .dct n (e1 _ _ n h)
theorem DvAll.kp (e1 : ∀ a o, N a → H a = some o → H' a = some o) (e2 : ∀ a xs, SqT K H a xs → SqT K H' a xs) : ∀ {v : List V} {d : List PyData}, DvAll K N H v d → DvAll K N H' v d
  | _, _, .nil => .nil
  | _, _, .cons a b => .cons (Dv.kp e1 e2 a) (DvAll.kp e1 e2 b)
end
mutual
theorem Dv.mono (e : ∀ a, N a → N' a) : ∀ {v : V} {d : PyData}, Dv K N H v d → Dv K N' H v d
  | _, _, .non => .non
  | _, _, .bl b => .bl b
  | _, _, .int i => .int i
  | _, _, .str x => .str x
  | _, _, .lst n m h a => .lst (e _ n) m h (DvAll.mono e a)
  | _, _, .tup h a => .tup h (DvAll.mono e a)
  | _, _, .dct n h => .dct (e _ n) h
theorem DvAll.mono (e : ∀ a, N a → N' a) : ∀ {v : List V} {d : List PyData}, DvAll K N H v d → DvAll K N' H v d
  | _, _, .nil => .nil
  | _, _, .cons a b => .cons (Dv.mono e a) (DvAll.mono e b)
end
mutual
theorem Dv.dg : ∀ {v : V} {d : PyData}, Dv K N H v d → Dg K H v d
  | _, _, .non => .non
  | _, _, .bl b => .bl b
  | _, _, .int i => .int i
  | _, _, .str x => .str x
  | _, _, .lst _ m h a => .lst m (SqL.of h) (DvAll.dg a)
  | _, _, .tup h a => .tup h (DvAll.dg a)
  | _, _, .dct n h => .dct h .nil
theorem DvAll.dg : ∀ {v : List V} {d : List PyData}, DvAll K N H v d → DgAll K H v d
  | _, _, .nil => .nil
  | _, _, .cons a b => .cons (Dv.dg a) (DvAll.dg b)
end
mutual
theorem Td.dv : ∀ {v : V} {d : PyData}, Td K H v d → Dv K N H v d
  | _, _, .int i => .int i
  | _, _, .str x => .str x
  | _, _, .tup h a => .tup h (TdAll.dv a)
theorem TdAll.dv : ∀ {v : List V} {d : List PyData}, TdAll K H v d → DvAll K N H v d
  | _, _, .nil => .nil
  | _, _, .cons a b => .cons (Td.dv a) (TdAll.dv b)
end
theorem Dv.same (e : Same H H') {v : V} {d : PyData} (h : Dv K N H v d) : Dv K N H' v d := h.kp (fun a o _ z => e a o z) fun _ _ z => Same.tup e z
theorem DvAll.same (e : Same H H') {v : List V} {d : List PyData} (h : DvAll K N H v d) : DvAll K N H' v d := h.kp (fun a o _ z => e a o z) fun _ _ z => Same.tup e z
theorem DvAll.len : ∀ {vs : List V} {ds : List PyData}, DvAll K N H vs ds → vs.length = ds.length
  | _, _, .nil => rfl
  | _, _, .cons a b => congrArg (· + 1) b.len
theorem DvAll.app : ∀ {vs us : List V} {ds es : List PyData}, DvAll K N H vs ds → DvAll K N H us es → DvAll K N H (vs ++ us) (ds ++ es)
  | _, _, _, _, .nil, h => h
  | _, _, _, _, .cons a b, h => .cons a (b.app h)
theorem DvAll.at : ∀ {vs : List V} {ds : List PyData} {i : Nat} {v : V}, DvAll K N H vs ds → vs[i]? = some v → ∃ d, ds[i]? = some d ∧ Dv K N H v d
  | _, _, 0, _, .cons a b, h => ⟨_, rfl, by cases h; exact a⟩
  | _, _, i + 1, _, .cons a b, h => DvAll.at (i := i) b h
theorem DvAll.mem {vs : List V} {ds : List PyData} {v : V} (h : DvAll K N H vs ds) (hv : v ∈ vs) : ∃ d ∈ ds, Dv K N H v d := by
  obtain ⟨i, hi, e⟩ := List.getElem_of_mem hv
  obtain ⟨d, h1, h2⟩ := h.at (i := i) (by rw [List.getElem?_eq_getElem hi, e])
  exact ⟨d, List.mem_of_getElem? h1, h2⟩
end
/-! ### capital letters -/
theorem upper_low (l : List Nat) (h : ∀ c ∈ l, c < 128) : ∃ u : List Nat, Txt.upper (S l) = S u ∧ u.length = l.length ∧ ∀ c ∈ u, c < 128 := by
  have h1 : ((List.range 128).all fun c => match Unicode.upperOf c with | [d] => decide (d < 128) | _ => false) = true := by decide +kernel
  have h2 : ∀ c, c < 128 → ∃ d, Unicode.upperOf c = [d] ∧ d < 128 := by
    intro c hc
    have h3 := List.all_eq_true.mp h1 c (List.mem_range.mpr hc)
    split at h3
    · rename_i d e
      exact ⟨d, e, of_decide_eq_true h3⟩
    · cases h3
  refine ⟨l.map fun c => (Unicode.upperOf c).headD 0, ?_, List.length_map .., ?_⟩
  · have e1 : (placed (S l) fun _ c => Unicode.upperOf c).toList = l.map fun c => (Unicode.upperOf c).headD 0 := by
      unfold placed
      rw [Array.toList_flatten, Array.toList_mapIdx]
      show ((List.mapIdx (fun (_ : Nat) (c : Nat) => (Unicode.upperOf c).toArray) l).map Array.toList).flatten = _
      rw [show ((List.mapIdx (fun (_ : Nat) (c : Nat) => (Unicode.upperOf c).toArray) l).map Array.toList) = l.map Unicode.upperOf from ?_]
      · clear h1
        induction l with
        | nil => rfl
        | cons c l ih =>
          obtain ⟨d, hd, _⟩ := h2 c (h c List.mem_cons_self)
          rw [List.map_cons, List.flatten_cons, List.map_cons, ih fun x hx => h x (List.mem_cons_of_mem _ hx), hd]
          rfl
      · refine List.ext_getElem? fun i => ?_
        rw [List.getElem?_map, List.getElem?_mapIdx, List.getElem?_map, Option.map_map]
        rfl
    show Str.mk _ = Str.mk _
    exact congrArg Str.mk (Array.toList_inj.mp e1)
  · intro c hc
    obtain ⟨d, hd, rfl⟩ := List.mem_map.mp hc
    obtain ⟨e, h3, h4⟩ := h2 d (h d hd)
    rw [h3]
    exact h4
end Mq

namespace Mq
open PySem PySem.Spec PyProof.Rows L2
/-! ### text.replace(c, d) of two written texts, behind a first item that gives out a token -/
section
variable {X : Cx}
theorem pat_of {es : List Expr} {t : TA} (h : PA X es t) : PAT X es t := fun pos pins s σ H Q _ I q => h.run pos pins s σ H Q I q
theorem pet_of {e : Expr} {t : TE} (h : PE X e t) : PET X e t := fun pins s σ H Q _ I q => h.run pins s σ H Q I q
/-- [a op 'c', ..]: behind the first item a token is out -/
theorem pa_consT {op : Operator} {r : R2} {a : Expr} {c : Str} {j : Nat} {es : List Expr} {ta : TE} {t : TA} {cp pos : Pos} (ho : OpR X (binaryOp op) r) (ha : PE X a ta) (hr : PAT X es t)
    (hs : starEach (.BinOp a op (.Constant (.str c) j cp) pos :: es) X.env = (false, eval (.BinOp a op (.Constant (.str c) j cp) pos) X.env) :: starEach es X.env := by rfl) :
    PA X (.BinOp a op (.Constant (.str c) j cp) pos :: es) (tCons (tOp r ta (tC (.str c))) t) := by
  refine ⟨fun pos2 pins s σ H Q I h => ?_⟩
  rw [hs]
  show wpAny _ _ (spliced ((false, eval (.BinOp a op (.Constant (.str c) j cp) pos) X.env) :: backTo pos2 (starEach es X.env))) _ _ s
  refine Calls.spliced_cons (wpAny_BinOp (thn (ha.run pins s σ H _ I h) fun v s1 ⟨x, H1, I1, r1, q1⟩ => ?_))
  refine Calls.Constant_str ?_
  have I2 := I1.tok (s1.toks + 1)
  refine wpAny_mono (PySem.wpAny_toks (ho pins _ σ H1 x (.str c) v _ _ I2 r1 ⟨_, rfl⟩ q1)) (fun u s3 hq => ?_) fun _ _ z => z.2
  obtain ⟨hk, y, H3, I3, r3, q3⟩ := hq
  have hk' : s1.toks + 1 ≤ s3.toks := hk
  exact thn (hr pos2 pins s3 σ H3 _ (by omega) I3 q3) fun us s4 ⟨xs, H4, I4, r4, q4⟩ => ⟨y :: xs, H4, I4, .cons r3 r4, q4⟩
def tRepC (ik : Nat) (y z : Str) : TE := fun σ H Q => ∃ x, σ[ik]? = some (some (.str x)) ∧ x.length + (x.length + 1) * z.length ≤ 16777216 ∧ Q (.str (Txt.replace x y z)) H
theorem pet_repC {ik j0 j1 : Nat} {kx y z : Str} {p1 c0 c1 apos pos : Pos} (hNk : X.N[ik]? = some kx) (hvk : Vis X.env.scope kx) (hyz : (y == z) = false)
    (hdk : (kx == ("__debug__" : Str)) = false := by decide) (hck : (kx == ("__classdict__" : Str)) = false := by decide)
    (hst : starEach [.Constant (.str y) j0 c0, .Constant (.str z) j1 c1] X.env = [(false, eval (.Constant (.str y) j0 c0) X.env), (false, eval (.Constant (.str z) j1 c1) X.env)] := by rfl)
    (hbase : attributeBase (.Name kx p1) "replace" X.env (eval (.Name kx p1) X.env) = eval (.Name kx p1) X.env := by rfl) (hline : (apos.endLine == pos.line) = true := by rfl) :
    PET X (.Call (.Attribute (.Name kx p1) "replace" apos) [.Constant (.str y) j0 c0, .Constant (.str z) j1 c1] [] pos) (tRepC ik y z) := by
  intro pins s σ H Q h0 I h
  obtain ⟨x, hx, hb, q⟩ := h
  refine PySem.Call_method2 hbase hst hline (raw_name hNk hvk I hx (fun v r => ?_) hdk hck)
  obtain ⟨tx, e⟩ := r
  subst e
  refine ⟨"str", _, F.plainAttrs_str, F.slot_str_replace, F.type_str_replace, typeIs_str _ _ _, (fun _ e => nomatch e), Calls.callWith_builtin rfl (Calls.evalArgs_plain (Calls.spliced_cons ?_))⟩
  refine Calls.Constant_str (Calls.spliced_cons (Calls.Constant_str (Calls.spliced_nil ?_)))
  exact PySem.SC.replace (show s.toks ≠ 0 by omega) (show s.toks + 1 ≠ 0 by omega) (show s.toks ≠ s.toks + 1 by omega) hyz hb fun t' k => ⟨.str (Txt.replace x y z), H, I.tok k, ⟨t', rfl⟩, q⟩
end
end Mq

namespace Lw
open PySem PySem.Spec PyProof.Rows L2 Mq
open SX (S)
theorem PT_imp {X : Cx} {e : Expr} {t t' : TT} (h : PT X e t) (i : ∀ σ H Q, t' σ H Q → t σ H Q) : PT X e t' := ⟨fun pins s σ H Q I q => h.run pins s σ H Q I (i σ H Q q)⟩
def KpT (K : PySem.W.Frag) (H H' : Hp) : Prop := ∀ a xs, SqT K H a xs → SqT K H' a xs
theorem KpT.trans {K : PySem.W.Frag} {H H' H'' : Hp} (a : KpT K H H') (b : KpT K H' H'') : KpT K H H'' := fun x y h => b x y (a x y h)
theorem KpT.off {K : PySem.W.Frag} {D C : Addr} {T : Nat} {H H' : Hp} (f : Off D C H H') (k : DeckAt D C T H) : KpT K H H' := fun _ _ h => f.tup k h
theorem KpT.same {K : PySem.W.Frag} {H H' : Hp} (e : Same H H') : KpT K H H' := fun _ _ h => Same.tup e h
theorem KpT.lst {K : PySem.W.Frag} {H : Hp} {L : Addr} {xs ys : List V} (h : H L = some (.lst xs)) : KpT K H (upd H L (.lst ys)) := by
  intro a zs hz
  have ne : ∀ {o : HO}, H a = some o → (∀ xs, o ≠ .lst xs) → upd H L (.lst ys) a = some o := by
    intro o e n
    by_cases q : a = L
    · subst q
      rw [h] at e
      cases e
      exact (n _ rfl).elim
    · exact (upd_ne q).trans e
  rcases hz with (hz | ⟨o, hz⟩) | hz
  · exact Or.inl (Or.inl (ne hz fun _ z => nomatch z))
  · exact Or.inl (Or.inr ⟨o, ne hz fun _ z => nomatch z⟩)
  · exact Or.inr hz
def letB (sg : List Nat) : List Nat → Bool
  | [c] => decide (c ∈ sg)
  | _ => false
theorem S_dec (a b : List Nat) : decide (V.str (S a) = V.str (S b)) = decide (a = b) := by
  refine decide_eq_decide.mpr ⟨fun h => SX.S_inj (V.str.inj h), fun h => by rw [h]⟩
theorem int_ne {n m : Nat} (h : n ≠ m) : (!decide (V.int (n : Nat) = V.int (m : Nat))) = true := by
  rw [Bool.not_eq_true']
  exact decide_eq_false fun z => h (Int.ofNat.inj (V.int.inj z))
theorem letB_one {sg a : List Nat} (h : letB sg a = true) : ∃ c, a = [c] ∧ c ∈ sg := by
  match a, h with
  | [c], h => exact ⟨c, rfl, of_decide_eq_true h⟩
def NoTx (K : PySem.W.Frag) (H : Hp) (v : V) : Prop := ∃ c, TyX K H v c ∧ PySem.W.kitOne K c (.type "str") = some false
def lineD (d : Addr) (k : Nat) (H : Hp) : Hp := upd H d (.xd [("line", .int (k : Nat))])
theorem map_SV (ws : List (List Nat)) : (ws.map S).map V.str = ws.map fun l => V.str (S l) := by rw [List.map_map]; rfl
theorem at_line {ws : List (List Nat)} {i : Nat} {l : List Nat} (h : ws[i]? = some l) : atI (ws.map fun l => V.str (S l)) (i : Nat) = some (.str (S l)) := atI_nat (by rw [List.getElem?_map, h]; rfl)
theorem cut_from (xs : List V) (k : Nat) : cutV xs (some ((k : Nat) : Int)) none = xs.drop k := by
  unfold cutV
  rw [HT.sIx_nat, HT.sIx_none]
  by_cases h : k ≤ xs.length
  · rw [Nat.min_eq_left h, List.take_of_length_le (by rw [List.length_drop]; exact Nat.le_refl _)]
  · rw [Nat.min_eq_right (by omega), List.drop_of_length_le (Nat.le_refl _), List.drop_of_length_le (by omega), List.take_nil]
theorem cut_tail (l : V) (xs : List V) : cutV (l :: xs) (some 1) none = xs := cut_from (l :: xs) 1
theorem push_same {H0 H : Hp} {L : Addr} {o : HO} (hn : H0 L = none) (s : Same H0 H) : Same H0 (upd H L o) := by
  intro b u e
  rw [upd_ne (ne_of_none e hn)]
  exact s b u e
def orDash (z : List Nat) : List Nat := if z = [] then [45] else z
theorem app_le {a b : Str} {m n : Nat} (h : a.length ≤ m) (k : b.length ≤ n) : (a ++ b).length ≤ m + n := by
  have e : (a ++ b).length = a.length + b.length := Array.size_append ..
  omega
theorem S_le {l : List Nat} {n : Nat} (h : l.length ≤ n) : (S l).length ≤ n := by rw [SX.S_len]; exact h
theorem sum_le {ps : List (List Nat)} {n : Nat} (h : ∀ p ∈ ps, p.length ≤ n) : ((ps.map S).map (·.length)).sum ≤ ps.length * n := by
  induction ps with
  | nil => exact Nat.zero_le _
  | cons p ps ih =>
    rw [List.map_cons, List.map_cons, List.sum_cons, List.length_cons, Nat.succ_mul]
    have h1 := ih fun q hq => h q (List.mem_cons_of_mem _ hq)
    have h2 := h p List.mem_cons_self
    rw [SX.S_len]
    omega
theorem getD_mem {l : List Nat} {a : Nat} (ha : a < l.length) : l.getD a 0 ∈ l := by
  rw [List.getD_eq_getElem?_getD, List.getElem?_eq_getElem ha]
  exact List.getElem_mem ha
theorem new_ne {D C : Addr} {T : Nat} {H : Hp} {q : Addr} (k : DeckAt D C T H) (h : H q = none) : q ≠ D ∧ q ≠ C := by
  obtain ⟨_, _, _, e1, e2, _⟩ := k.ex
  refine ⟨?_, ?_⟩
  · rintro rfl
    rw [h] at e1
    cases e1
  · rintro rfl
    rw [h] at e2
    cases e2
theorem deck_lst {D C L : Addr} {T : Nat} {H : Hp} {o : HO} (k : DeckAt D C T H) (h1 : L ≠ D) (h2 : L ≠ C) : DeckAt D C T (upd H L o) := by
  obtain ⟨m, t, js, a, b, c, d⟩ := k.ex
  exact ⟨m, t, js, (upd_ne (Ne.symm h1)).trans a, (upd_ne (Ne.symm h2)).trans b, c, d⟩
theorem off_lst {D C L : Addr} {H H' : Hp} {o : HO} (e : Off D C H H') (h : H L = none) : Off D C H (upd H' L o) := by
  intro b u h1 h2 e2
  rw [upd_ne (ne_of_none e2 h)]
  exact e b u h1 h2 e2
theorem S_one {c d : Nat} : S [c] = S [d] ↔ c = d := ⟨fun h => by have := SX.S_inj h; simpa using this, fun h => by rw [h]⟩
theorem asc_pair {l : List Nat} : ascB l = true ↔ l.Pairwise (· < ·) := by
  unfold ascB
  rw [List.pairwise_iff_getElem, List.all_eq_true]
  constructor
  · intro h
    have h1 : ∀ k, k + 1 < l.length → l.getD k 0 < l.getD (k + 1) 0 := by
      intro k hk
      have := h (decide (l.getD k 0 < l.getD (k + 1) 0)) (List.mem_map.mpr ⟨k, List.mem_range.mpr (by omega), rfl⟩)
      exact of_decide_eq_true this
    have h2 : ∀ n i, i + n + 1 < l.length → l.getD i 0 < l.getD (i + n + 1) 0 := by
      intro n
      induction n with
      | zero => exact fun i hi => h1 i hi
      | succ n ih => exact fun i hi => Nat.lt_trans (ih i (by omega)) (h1 (i + n + 1) (by omega))
    intro i j hi hj hij
    have := h2 (j - i - 1) i (by omega)
    rw [show i + (j - i - 1) + 1 = j by omega] at this
    rw [List.getD_eq_getElem?_getD, List.getD_eq_getElem?_getD, List.getElem?_eq_getElem hi, List.getElem?_eq_getElem hj] at this
    exact this
  · intro h b hb
    obtain ⟨k, hk, rfl⟩ := List.mem_map.mp hb
    have hk := List.mem_range.mp hk
    have := h k (k + 1) (by omega) (by omega) (by omega)
    rw [List.getD_eq_getElem?_getD, List.getD_eq_getElem?_getD, List.getElem?_eq_getElem (show k < l.length by omega), List.getElem?_eq_getElem (show k + 1 < l.length by omega)]
    exact decide_eq_true this
theorem rising_pair : ∀ (p : Nat) (l : List Nat), PyProof.Rows.risingS (S [p]) (l.map fun c => S [c]) = true → (p :: l).Pairwise (· ≤ ·)
  | p, [], _ => List.pairwise_singleton _ _
  | p, x :: l, h => by
    have h' : (!PySem.Spec.ltCps (S [x]).cps.toList (S [p]).cps.toList && PyProof.Rows.risingS (S [x]) (l.map fun c => S [c])) = true := h
    obtain ⟨h1, h2⟩ := Bool.and_eq_true_iff.mp h'
    have ih := rising_pair x l h2
    have h3 : p ≤ x := by
      have e : PySem.Spec.ltCps (S [x]).cps.toList (S [p]).cps.toList = decide (x < p) := by
        show (decide (x < p) || (x == p && false)) = _
        rw [Bool.and_false, Bool.or_false]
      rw [e] at h1
      have := of_decide_eq_false (by simpa using h1 : decide (x < p) = false)
      omega
    refine List.pairwise_cons.mpr ⟨fun y hy => ?_, ih⟩
    rcases List.mem_cons.mp hy with rfl | hy
    · exact h3
    · exact Nat.le_trans h3 ((List.pairwise_cons.mp ih).1 y hy)
theorem sorted_pair {l : List Nat} (h : PyProof.Rows.sortedS (l.map fun c => S [c]) = true) (nd : l.Nodup) : l.Pairwise (· < ·) := by
  have h1 : l.Pairwise (· ≤ ·) := by
    cases l with
    | nil => exact .nil
    | cons p l => exact rising_pair p l h
  exact (h1.and nd).imp fun ⟨a, b⟩ => Nat.lt_of_le_of_ne a b
theorem dp_strs {K : PySem.W.Frag} {H : Hp} : ∀ ys : List Str, DpAll K H (ys.map V.str) (ys.map PyData.str)
  | [] => .nil
  | y :: ys => .cons (.str y) (dp_strs ys)
theorem shaped_strs {ys : List Str} (h : ∀ y ∈ ys, (PyData.str y).canLay0 = true) : SeqAt.shaped (.list (ys.map PyData.str)) = true := by
  have key : PyData.canLayAll0 (ys.map PyData.str) = true ∧ PyData.depthAll (ys.map PyData.str) = 0 := by
    induction ys with
    | nil => exact ⟨rfl, rfl⟩
    | cons y ys ih =>
      obtain ⟨a, b⟩ := ih fun m hm => h m (List.mem_cons_of_mem _ hm)
      constructor
      · show ((PyData.str y).canLay0 && PyData.canLayAll0 (ys.map PyData.str)) = true
        rw [h y List.mem_cons_self, a]
        rfl
      · show max 0 (PyData.depthAll (ys.map PyData.str)) = 0
        rw [b]
        rfl
  unfold SeqAt.shaped
  rw [show (PyData.list (ys.map PyData.str)).canLay0 = true from key.1]
  have : (PyData.list (ys.map PyData.str)).depth ≤ 64 := by
    show PyData.depthAll _ + 1 ≤ 64
    rw [key.2]
    decide
  rw [decide_eq_true this]
  rfl
theorem eqv_strs : ∀ xs ys : List Str, PyData.eqv (.list (xs.map PyData.str)) (.list (ys.map PyData.str)) = decide (xs = ys)
  | [], [] => rfl
  | [], _ :: _ => rfl
  | _ :: _, [] => rfl
  | x :: xs, y :: ys => by
    have ih := eqv_strs xs ys
    show (x == y && PyData.eqv (.list (xs.map PyData.str)) (.list (ys.map PyData.str))) = _
    rw [ih]
    rw [Bool.eq_iff_iff]
    simp
theorem all_filter (n : Nat) (q : Nat → Bool) : ((List.range n).map q).all id = ((List.range n).filter fun k => !q k).isEmpty := by
  rw [Bool.eq_iff_iff]
  simp [List.filter_eq_nil_iff]
theorem dp_signs {K : PySem.W.Frag} {H : Hp} (g : Nat → Str) : ∀ js : List Nat, DpAll K H (js.map fun k => V.str (g k)) (js.map fun k => PyData.str (g k))
  | [] => .nil
  | t :: ts => .cons (.str _) (dp_signs g ts)
theorem lay_signs (g : Nat → Str) : ∀ js : List Nat, (∀ k ∈ js, (PyData.str (g k)).canLay0 = true) → PyData.canLayAll0 (js.map fun k => PyData.str (g k)) = true ∧ PyData.depthAll (js.map fun k => PyData.str (g k)) = 0
  | [], _ => ⟨rfl, rfl⟩
  | t :: ts, h => by
    have ih := lay_signs g ts (fun k hk => h k (List.mem_cons_of_mem _ hk))
    constructor
    · show ((PyData.str (g t)).canLay0 && PyData.canLayAll0 (ts.map fun k => PyData.str (g k))) = true
      rw [h t (List.mem_cons_self ..), ih.1]
      rfl
    · show max 0 (PyData.depthAll (ts.map fun k => PyData.str (g k))) = 0
      rw [ih.2]
      rfl
theorem shaped_signs (g : Nat → Str) (js : List Nat) (h : ∀ k ∈ js, (PyData.str (g k)).canLay0 = true) : SeqAt.shaped (.list (js.map fun k => PyData.str (g k))) = true := by
  unfold SeqAt.shaped
  obtain ⟨a, b⟩ := lay_signs g js h
  rw [show (PyData.list (js.map fun k => PyData.str (g k))).canLay0 = true from a]
  have : (PyData.list (js.map fun k => PyData.str (g k))).depth ≤ 64 := by
    show PyData.depthAll _ + 1 ≤ 64
    omega
  rw [decide_eq_true this]
  rfl
theorem sign_ok {c : Nat} (h : c < 1114112) : (PyData.str (S [c])).canLay0 = true := by
  show (#[c] : Array Nat).all (fun d => decide (d < 1114112)) = true
  simp [h]
theorem eqv_nil (g : Nat → Str) (js : List Nat) : PyData.eqv (.list (js.map fun k => PyData.str (g k))) (.list []) = js.isEmpty := by
  cases js <;> rfl
theorem lay_txt {l : List Nat} (h : ∀ c ∈ l, c < 128) : (PyData.str (S l)).canLay0 = true := by
  show (l.toArray : Array Nat).all (fun d => decide (d < 1114112)) = true
  rw [List.all_toArray]
  refine List.all_eq_true.mpr fun c hc => decide_eq_true ?_
  have := h c hc
  omega
def LowL (l : List Nat) : Prop := ∀ c ∈ l, c < 128
theorem few_of {α : Type} [DecidableEq α] : ∀ {l m : List α}, l.Nodup → (∀ x ∈ l, x ∈ m) → l.length ≤ m.length
  | [], _, _, _ => Nat.zero_le _
  | a :: l, m, hn, hs => by
    have h1 := hs a List.mem_cons_self
    have h2 := few_of (l := l) (m := m.erase a) (List.nodup_cons.mp hn).2 fun x hx => by
      refine (List.mem_erase_of_ne ?_).mpr (hs x (List.mem_cons_of_mem _ hx))
      rintro rfl
      exact (List.nodup_cons.mp hn).1 hx
    rw [List.length_erase_of_mem h1] at h2
    have h3 := List.length_pos_of_mem h1
    rw [List.length_cons]
    omega
theorem one_let (sg w : List Nat) : (sg.any fun c => decide (S [c] = S w)) = letB sg w := by
  rw [Bool.eq_iff_iff, List.any_eq_true]
  constructor
  · rintro ⟨c, hc, e⟩
    have e2 := SX.S_inj (of_decide_eq_true e)
    subst e2
    exact decide_eq_true hc
  · intro h
    obtain ⟨c, rfl, hc⟩ := letB_one h
    exact ⟨c, hc, decide_eq_true rfl⟩
theorem inV_let (sg w : List Nat) : inV (.str (S w)) ((S sg).cps.toList.map fun c => V.str ⟨#[c]⟩) = letB sg w := by
  rw [← one_let]
  unfold inV
  show ((sg.toArray.toList.map fun c => V.str ⟨#[c]⟩).any fun y => eqV y (.str (S w))) = _
  rw [List.any_map, List.toList_toArray]
  congr 1
theorem flat_signs (x : Str) : (x.cps.toList.map fun c => V.str ⟨#[c]⟩).all flatV = true := by
  rw [List.all_map, List.all_eq_true]
  intro c _
  rfl
theorem SqL.kp {K : PySem.W.Frag} {H H' : Hp} {p : Addr} {xs : List V} (h : SqL K H p xs) (e : Same H H') : SqL K H' p xs := by
  rcases h with (h | ⟨o, h⟩) | h
  · exact Or.inl (Or.inl (e _ _ h))
  · exact Or.inl (Or.inr ⟨o, e _ _ h⟩)
  · exact Or.inr h
theorem eqv_emp (ds : List PyData) : PyData.eqv (.list ds) (.list []) = ds.isEmpty := by
  cases ds <;> rfl
theorem cutS_eq (l : List Nat) (lo hi : Option Int) : cutS (S l) lo hi = S ((l.drop (HT.sIx l.length 0 lo)).take (HT.sIx l.length l.length hi - HT.sIx l.length 0 lo)) := by
  unfold cutS
  rw [SX.S_len]
theorem cutS_to (l : List Nat) (k : Nat) : cutS (S l) none (some (k : Int)) = S (l.take k) := by
  rw [cutS_eq, HT.sIx_none, HT.sIx_nat, List.drop_zero, Nat.sub_zero]
  congr 1
  by_cases h : k ≤ l.length
  · rw [Nat.min_eq_left h]
  · rw [Nat.min_eq_right (by omega), List.take_of_length_le (Nat.le_refl _), List.take_of_length_le (by omega)]
theorem cutS_from (l : List Nat) (k : Nat) : cutS (S l) (some (k : Int)) none = S (l.drop k) := by
  rw [cutS_eq, HT.sIx_none, HT.sIx_nat]
  congr 1
  by_cases h : k ≤ l.length
  · rw [Nat.min_eq_left h, List.take_of_length_le (by rw [List.length_drop]; exact Nat.le_refl _)]
  · rw [Nat.min_eq_right (by omega), List.drop_of_length_le (Nat.le_refl _), List.drop_of_length_le (by omega), List.take_nil]
theorem shaped_gd {d : PyData} {w n : Nat} (g : Gd w n d) (h : n ≤ 64) : (d.canLay0 && decide (d.depth ≤ 64)) = true := by
  rw [g.cl, decide_eq_true (Nat.le_trans g.de h)]
  rfl
def sumL (ps : List (List Nat)) : Nat := (ps.map fun p => p.length + 1).sum
theorem sumL_app (a b : List (List Nat)) : sumL (a ++ b) = sumL a + sumL b := by
  unfold sumL
  rw [List.map_append, List.sum_append]
theorem sumL_one (p : List Nat) : sumL [p] = p.length + 1 := by
  unfold sumL
  simp
theorem sumL_cut (ps : List (List Nat)) (k : Nat) : sumL (ps.take k) + sumL (ps.drop k) = sumL ps := by
  rw [← sumL_app, List.take_append_drop]
theorem sumL_drop (ps : List (List Nat)) (k : Nat) : sumL (ps.drop (k + 1)) ≤ sumL (ps.drop k) := by
  by_cases h : k < ps.length
  · rw [List.drop_eq_getElem_cons h]
    unfold sumL
    rw [List.map_cons, List.sum_cons]
    omega
  · rw [List.drop_of_length_le (by omega), List.drop_of_length_le (by omega)]
    exact Nat.le_refl _
theorem sumL_set : ∀ (ps : List (List Nat)) (k : Nat) (w : List Nat), sumL (ps.set k w) ≤ sumL ps + (w.length + 1)
  | [], _, _ => Nat.zero_le _
  | p :: ps, 0, w => by
    show (w.length + 1) + sumL ps ≤ ((p.length + 1) + sumL ps) + (w.length + 1)
    omega
  | p :: ps, k + 1, w => by
    have ih := sumL_set ps k w
    show (p.length + 1) + sumL (ps.set k w) ≤ ((p.length + 1) + sumL ps) + (w.length + 1)
    omega
theorem joinL_le (c : Nat) (ps : List (List Nat)) : (TL.joinL [c] ps).length ≤ sumL ps := by
  by_cases h : ps = []
  · subst h
    exact Nat.zero_le _
  · have := join_len c ps h
    show _ ≤ (ps.map fun p => p.length + 1).sum
    omega
def LowLs (ps : List (List Nat)) : Prop := ∀ p ∈ ps, LowL p
theorem joinL_low {c : Nat} (hc : c < 128) {ps : List (List Nat)} (h : LowLs ps) : LowL (TL.joinL [c] ps) := by
  intro d hd
  rcases join_in c hd with rfl | ⟨p, hp, e⟩
  · exact hc
  · exact h p hp d e
theorem LowLs.app {a b : List (List Nat)} (h : LowLs a) (k : LowLs b) : LowLs (a ++ b) := fun p hp => (List.mem_append.mp hp).elim (h p) (k p)
theorem LowLs.take {a : List (List Nat)} (h : LowLs a) (n : Nat) : LowLs (a.take n) := fun p hp => h p (List.mem_of_mem_take hp)
theorem LowLs.drop {a : List (List Nat)} (h : LowLs a) (n : Nat) : LowLs (a.drop n) := fun p hp => h p (List.mem_of_mem_drop hp)
theorem LowLs.one {p : List Nat} (h : LowL p) : LowLs [p] := fun q hq => by rw [List.mem_singleton.mp hq]; exact h
theorem LowLs.set {a : List (List Nat)} {w : List Nat} (h : LowLs a) (k : Nat) (hw : LowL w) : LowLs (a.set k w) := fun p hp => (List.mem_or_eq_of_mem_set hp).elim (h p) fun e => by rw [e]; exact hw
theorem spl_low {c : Nat} {l : List Nat} (h : LowL l) : LowLs (spl c l) := fun p hp d hd => h d (spl_mem hp hd)
theorem join_bound (c : Nat) (ps : List (List Nat)) : ((ps.map S).map (·.length)).sum + (ps.map S).length * (S [c]).length = sumL ps := by
  have h1 : (S [c]).length = 1 := SX.S_len [c]
  rw [h1, List.length_map, Nat.mul_one]
  induction ps with
  | nil => rfl
  | cons p ps ih =>
    rw [List.map_cons, List.map_cons, List.sum_cons, SX.S_len, List.length_cons]
    show _ = (p.length + 1) + sumL ps
    omega
theorem cut_to (xs : List V) (k : Nat) : cutV xs none (some ((k : Nat) : Int)) = xs.take k := by
  unfold cutV
  rw [HT.sIx_none, HT.sIx_nat, List.drop_zero, Nat.sub_zero]
  by_cases h : k ≤ xs.length
  · rw [Nat.min_eq_left h]
  · rw [Nat.min_eq_right (by omega), List.take_of_length_le (Nat.le_refl _), List.take_of_length_le (by omega)]
abbrev txs (ps : List (List Nat)) : List V := ps.map fun l => V.str (S l)
theorem txs_to (ps : List (List Nat)) (k : Nat) : cutV (txs ps) none (some ((k : Nat) : Int)) = txs (ps.take k) := by rw [cut_to]; exact List.map_take.symm
theorem txs_from (ps : List (List Nat)) (k : Nat) : cutV (txs ps) (some ((k : Nat) : Int)) none = txs (ps.drop k) := by rw [cut_from]; exact List.map_drop.symm
theorem txs_at {ps : List (List Nat)} {k : Nat} (h : k < ps.length) : atI (txs ps) ((k : Nat) : Int) = some (.str (S ps[k])) := atI_nat (by rw [List.getElem?_map, List.getElem?_eq_getElem h]; rfl)
theorem joinW_in (sep : List Nat) : ∀ {ps : List (List Nat)} {d : Nat}, d ∈ TL.joinL sep ps → d ∈ sep ∨ ∃ p ∈ ps, d ∈ p
  | [], d, h => by cases h
  | [q], d, h => Or.inr ⟨q, List.mem_cons_self, h⟩
  | q :: q2 :: r, d, h => by
    have h : d ∈ q ++ (sep ++ TL.joinL sep (q2 :: r)) := h
    rcases List.mem_append.mp h with h | h
    · exact Or.inr ⟨q, List.mem_cons_self, h⟩
    rcases List.mem_append.mp h with h | h
    · exact Or.inl h
    · rcases joinW_in sep h with e | ⟨p, hp, e⟩
      · exact Or.inl e
      · exact Or.inr ⟨p, List.mem_cons_of_mem _ hp, e⟩
theorem kind_low {l : List Nat} (h : LowL l) : Builtin.Str.strKind (S l) = 1 := by
  unfold Builtin.Str.strKind
  rw [if_pos]
  rw [show (S l).cps = l.toArray from rfl, List.all_toArray]
  exact List.all_eq_true.mpr fun c hc => decide_eq_true (Nat.lt_trans (h c hc) (by decide))
theorem ixN_at {n j : Nat} (h : j < n) : ixN n (j : Int) = some j := by
  unfold ixN
  rw [if_pos (by omega), if_pos (by omega), Int.toNat_natCast]
theorem sumL_set_eq : ∀ {ps : List (List Nat)} {k : Nat} (h : k < ps.length) (w : List Nat), sumL (ps.set k w) + (ps[k]).length = sumL ps + w.length
  | p :: ps, 0, _, w => by
    show ((w.length + 1) + sumL ps) + p.length = ((p.length + 1) + sumL ps) + w.length
    omega
  | p :: ps, k + 1, h, w => by
    have ih := sumL_set_eq (ps := ps) (k := k) (by simpa using h) w
    show ((p.length + 1) + sumL (ps.set k w)) + (ps[k]'(by simpa using h)).length = ((p.length + 1) + sumL ps) + w.length
    omega
end Lw

namespace Lw
open PySem PySem.Spec PyProof.Rows L2 Mq
open SX (S)
/-! ### numbers, items -/
def digs : List Nat := [48, 49, 50, 51, 52, 53, 54, 55, 56, 57]
def digB (w : List Nat) : Bool := ((List.range w.length).filter fun k => !inB (w.getD k 0) digs).isEmpty
def numB (w : List Nat) : Bool := !decide (w = []) && (digB w && !(decide (w.getD 0 0 = 48) && !decide (w = [48])))
def numM (w : List Nat) : Option Nat := if numB w = true then some (NumText.digitsVal w) else none
def optN : Option Nat → V
  | none => .non
  | some n => .int ((n : Nat) : Int)
abbrev intsV (ns : List Nat) : List V := ns.map fun n => V.int ((n : Nat) : Int)
theorem in_digs (c : Nat) : inB c digs = (decide (48 ≤ c) && decide (c ≤ 57)) := by
  unfold inB digs
  rw [Bool.eq_iff_iff]
  simp only [decide_eq_true_eq, Bool.and_eq_true, List.mem_cons, List.not_mem_nil, or_false]
  omega
theorem dig_all {w : List Nat} (h : digB w = true) : w.all (fun c => decide (48 ≤ c) && decide (c ≤ 57)) = true := by
  unfold digB at h
  have h1 : ((List.range w.length).map fun k => inB (w.getD k 0) digs).all id = true := by
    rw [all_filter]
    exact h
  rw [List.all_map, List.all_eq_true] at h1
  rw [List.all_eq_true]
  intro c hc
  obtain ⟨i, hi, rfl⟩ := List.mem_iff_getElem.mp hc
  have h2 : inB (w.getD i 0) digs = true := h1 i (List.mem_range.mpr hi)
  rw [List.getD_eq_getElem?_getD, List.getElem?_eq_getElem hi, in_digs] at h2
  exact h2
theorem num_int {w : List Nat} (h : numB w = true) (hl : w.length ≤ 4300) : intText? (S w) = some ((NumText.digitsVal w : Nat) : Int) := by
  unfold numB at h
  obtain ⟨h1, h⟩ := Bool.and_eq_true_iff.mp h
  obtain ⟨h2, _⟩ := Bool.and_eq_true_iff.mp h
  refine SX.int_S (dig_all h2) (fun e => ?_) hl
  rw [decide_eq_true e] at h1
  cases h1
def spNum : Sp := fun vs H Q _ => ∃ w : List Nat, vs = [.str (S w)] ∧ w.length ≤ 100000 ∧ (numB w = true → w.length ≤ 640) ∧ ∀ H', Same H H' → Q (optN (numM w)) H'
def tBadNum : TT := fun σ H Q => ∃ w o, σ = [some (.str (S w)), o] ∧ w.length ≤ 100000 ∧ ∀ H', Same H H' → Q (!numB w) H'
def spAscI (K : PySem.W.Frag) : Sp := fun vs H Q _ => ∃ (p : Addr) (ns : List Nat), vs = [.ref p] ∧ SqT K H p (intsV ns) ∧ ns.length ≤ 100000 ∧ ∀ H', Same H H' → Q (.bl (ascB ns)) H'
def spLetterT : Sp := fun vs H Q _ => ∃ sg z : List Nat, vs = [.str (S sg), .str (S z)] ∧ z.length ≤ 100000 ∧ Q (.bl (letB sg z)) H
def itemB (sg w : List Nat) : Bool := letB sg w || (decide (w = [63, 45]) || (decide (w.take 1 = [63]) && letB sg (w.drop 1)))
def spItem : Sp := fun vs H Q _ => ∃ sg w : List Nat, vs = [.str (S sg), .str (S w)] ∧ w.length ≤ 100000 ∧ Q (.bl (itemB sg w)) H
def spWeft (K : PySem.W.Frag) : Sp := fun vs H Q _ => ∃ (sg : List Nat) (p : Addr) (ws : List (List Nat)), vs = [.str (S sg), .ref p] ∧ SqT K H p (txs ws) ∧ ws.length ≤ 100000 ∧ (∀ w ∈ ws, w.length ≤ 100000) ∧ ∀ H', Same H H' → Q (.bl (ws.all (itemB sg))) H'
def spWeftText (K : PySem.W.Frag) : Sp := fun vs H Q _ => ∃ (p : Addr) (ws : List (List Nat)), vs = [.ref p] ∧ SqT K H p (txs ws) ∧ sumL ws ≤ 1000000 ∧ Q (.str (S (orDash (TL.joinL [32] ws)))) H
theorem digs_is : ("0123456789" : Str) = S digs := by decide +kernel
theorem ix_tupK {X : Cx} {K : PySem.W.Frag} (h : X.K = K) : IxR X (rIxT K) := h ▸ ix_tup
theorem ix_listK {X : Cx} {K : PySem.W.Frag} (h : X.K = K) : IxR X (rIxL K) := h ▸ ix_list
theorem any_filter (n : Nat) (q : Nat → Bool) : ((List.range n).map q).any id = !((List.range n).filter q).isEmpty := by
  rw [Bool.eq_iff_iff]
  simp [List.filter_eq_nil_iff]
theorem getD_at {l : List Nat} {i : Nat} (h : i < l.length) : l[i]? = some (l.getD i 0) := by rw [List.getD_eq_getElem?_getD, List.getElem?_eq_getElem h]; rfl
section
variable {P : Program} {w : World} {K : PySem.W.Frag} {mg : Str → Option Value} {base : Heap}
theorem ok_integer {f : Addr} {fd : FuncData} (F : Fun K "integer_read" "integer_read" s_integer_read f fd) (B : Blt mg) (dg : ∃ t, mg "DIGITS" = some (.str "0123456789" t)) (mf : ∃ t, mg "MOST_FIGURES" = some (.int 4300 t)) :
    FnOk P w K mg base CX0 1 f fd ["text"] spNum := by
  obtain ⟨tD, dg⟩ := dg
  obtain ⟨tM, mf⟩ := mf
  refine F.ok sc_integer_read (fun vs H Q E h => ?_) (fun cdv A outer s H vs Q E hr h => ?_)
  · obtain ⟨_, rfl, _⟩ := h
    rfl
  · obtain ⟨w, rfl, hw, hw6, q⟩ := h
    refine ⟨_, (pss_cons (ps_if (PT_imp (t' := tBadNum) (PW.pt (pw_or (pt_cmpR op_eq (pv 0) pe_str (nomark _)) (pw_or (pt_val (pe_callB (cr_any rfl) (by rfl) B.any (by decide +kernel) (pa_cons (pe_lc (own := [("figure", 1)]) (g := gName 1) (tt := tYes) rfl sc_integer_read.nd (pi_str (pv 0)) (blkOk_by (own := [("figure", 1)]) (N := ["text", "figure"]) (sc := defScope s_integer_read) (by decide +kernel)) (fun _ _ _ _ _ => pg_name (i := 1) sc_integer_read.nd rfl (Or.inl rfl)) (fun _ _ _ _ _ => pts_nil) (fun _ _ _ _ _ => (pe_cmpR op_notIn_sign (pv 1) (pe_glob (v := .str "0123456789") rfl dg ⟨_, rfl⟩) rfl))) pa_nil))) (pw_or1 (PW.pt (pw_and (pt_cmpR op_eq (pe_ix ix_str (pv 0) pe_int (fun _ _ => rfl)) pe_str (nomark _)) (pw_and1 (pt_cmpR op_ne (pv 0) pe_str (nomark _))))))))) (fun σ H Q h => by
        obtain ⟨w, o, rfl, hw, q⟩ := h
        unfold numB at q
        refine ⟨_, rfl, rfl, _, rfl, ?_⟩
        rw [str_is_nil]
        cases e0 : decide (w = []) with
        | true =>
          rw [e0] at q
          exact ifT rfl (q H (Same.refl H))
        | false =>
          rw [e0] at q
          have hpos : 0 < w.length := pos_of (of_decide_eq_false e0)
          refine ifF rfl ?_
          refine ⟨_, rfl, S w, rfl, fun L hL => ?_⟩
          refine lc_yes (walk_S w) (fun i H' => Same H H' ∧ H' L = some (.lst (((List.range i).map fun k => !inB (w.getD k 0) digs).map V.bl))) ⟨same_new hL, upd_same⟩ (fun _ _ _ _ => trivial) ?_ ?_
          · rintro i x H2 H3 hi ⟨s2, zL⟩ ⟨rfl, rfl⟩
            refine ⟨rfl, _, rfl, ?_⟩
            rw [digs_is]
            refine ⟨w.getD i 0, S digs, rfl, rfl, _, zL, sz_lt (by rw [List.length_map, List.length_map, List.length_range]; omega), push_same hL s2, ?_⟩
            rw [upd_same, List.range_succ, List.map_append, List.map_append]
            rfl
          · rintro H2 ⟨s2, zL⟩
            refine ⟨L, (List.range w.length).map fun k => !inB (w.getD k 0) digs, rfl, SqL.of zL, _, rfl, ?_⟩
            rw [any_filter]
            have ed : digB w = ((List.range w.length).filter fun k => !inB (w.getD k 0) digs).isEmpty := rfl
            rw [← ed]
            cases e1 : digB w with
            | false =>
              rw [e1] at q
              exact ifT rfl (q H2 s2)
            | true =>
              rw [e1] at q
              refine ifF rfl ⟨_, rfl, S w, 0, w.getD 0 0, rfl, rfl, sz_le (by rw [SX.S_len]; omega), at_get (l := w) (k := 0) hpos, rfl, _, rfl, ?_⟩
              rw [show decide (V.str (S [w.getD 0 0]) = V.str "0") = decide (w.getD 0 0 = 48) from (S_dec [w.getD 0 0] [48]).trans (decide_eq_decide.mpr ⟨fun h => by injection h, fun h => by rw [h]⟩)]
              cases e2 : decide (w.getD 0 0 = 48) with
              | false =>
                rw [e2] at q
                exact ifF rfl (q H2 s2)
              | true =>
                rw [e2] at q
                refine ifT rfl ⟨_, rfl, rfl, _, rfl, ?_⟩
                rw [show decide (V.str (S w) = V.str "0") = decide (w = [48]) from S_dec w [48]]
                have q1 := q H2 s2
                rw [show (!(!false && (true && !(true && !decide (w = [48]))))) = (!decide (w = [48])) by cases decide (w = [48]) <;> rfl] at q1
                exact q1)) (pss_one (ps_ret pe_non)) pss_nil)
      (pss_one (ps_ret (pe_ifExp (pt_cmpR op_le (pe_callB call_len (by rfl) B.len (by decide +kernel) (pa_cons (pv 0) pa_nil)) (pe_glob (v := .int 4300) rfl mf ⟨_, rfl⟩) (nomark _)) (pe_callTy call_int_str (by rfl) B.int (by decide +kernel) (pa_cons (pv 0) pa_nil)) pe_non)))), ?_⟩
    refine ⟨w, _, rfl, hw, fun H1 s1 => ?_⟩
    unfold numM at q
    cases e : numB w with
    | false =>
      rw [e] at q
      exact ifT rfl (q H1 s1)
    | true =>
      rw [e] at q
      have hw := hw6 e
      refine ifF rfl ⟨_, rfl, _, _, rfl, len_S (by omega), ?_⟩
      refine ⟨_, _, rfl, rfl, _, rfl, ifT (decide_eq_true (by omega)) ⟨_, rfl, S w, _, rfl, num_int e (by omega), ?_, q H1 s1⟩⟩
      rw [SX.S_len]
      exact hw
theorem ok_ascI {f : Addr} {fd : FuncData} (F : Fun K "is_ascending" "is_ascending" s_is_ascending f fd) (B : Blt mg) :
    FnOk P w K mg base CX0 1 f fd ["parts"] (spAscI K) := by
  refine F.ok sc_is_ascending (fun vs H Q E h => ?_) (fun cdv A outer s H vs Q E hr h => ?_)
  · obtain ⟨_, _, rfl, _⟩ := h
    rfl
  · obtain ⟨p, l, rfl, hp, hl, q⟩ := h
    refine ⟨_, pss_one (ps_ret (pe_callB (cr_all rfl) (by rfl) B.all (by decide +kernel) (pa_cons (pe_lc (own := [("k", 1)]) (g := gName 1) (tt := tYes) rfl sc_is_ascending.nd
      (pi_range1 (by rfl) B.range (pa_cons (pe_op op_sub (pe_callB call_len_seq (by rfl) B.len (by decide +kernel) (pa_cons (pv 0) pa_nil)) pe_int) pa_nil))
      (blkOk_by (own := [("k", 1)]) (N := ["parts", "k"]) (sc := defScope s_is_ascending) (by decide +kernel)) (fun _ _ _ _ _ => pg_name (i := 1) sc_is_ascending.nd rfl (Or.inl rfl)) (fun _ _ _ _ _ => pts_nil)
      (fun _ _ _ _ _ => pe_cmpR op_lt (pe_ix (ix_tupK (K := K) rfl) (pv 0) (pv 1) (fun _ _ => rfl)) (pe_ix (ix_tupK (K := K) rfl) (pv 0) (pe_op op_add (pv 1) pe_int) (fun _ _ => rfl)) (nomark _))) pa_nil))), ?_⟩
    have hn : (intsV l).length = l.length := List.length_map _
    have e1 : (((intsV l).length : Int) - 1).toNat = l.length - 1 := by rw [hn]; omega
    have hat : ∀ {i : Nat}, i < l.length → atI (intsV l) ((i : Nat) : Int) = some (.int ((l.getD i 0 : Nat) : Int)) := fun {i} h => atI_nat (by rw [List.getElem?_map, getD_at h]; rfl)
    refine ⟨_, rfl, p, _, rfl, .inr hp, _, _, rfl, rfl, ((intsV l).length : Int) - 1, rfl, by rw [hn]; omega, by rw [hn]; omega, fun L hL => ?_⟩
    rw [e1]
    refine lc_yes (walk_rng (n := l.length - 1)) (fun i H' => Same H H' ∧ H' L = some (.lst (((List.range i).map fun k => decide (l.getD k 0 < l.getD (k + 1) 0)).map V.bl))) ⟨same_new hL, upd_same⟩ (fun _ _ _ _ => trivial) ?_ ?_
    · rintro i x H2 H3 hi ⟨s2, zL⟩ ⟨rfl, rfl⟩
      have ei : ((i : Nat) : Int) + 1 = ((i + 1 : Nat) : Int) := by omega
      refine ⟨rfl, _, rfl, _, rfl, p, _, _, _, rfl, rfl, Same.tup s2 hp, hat (by omega), _, rfl, _, rfl, _, _, rfl, rfl, p, _, _, _, rfl, rfl, Same.tup s2 hp, (by rw [ei]; exact hat (by omega)), ?_⟩
      refine ⟨_, _, rfl, rfl, _, zL, sz_lt (by rw [List.length_map, List.length_map, List.length_range]; omega), push_same hL s2, ?_⟩
      rw [upd_same, List.range_succ, List.map_append, List.map_append]
      have eb : decide (((l.getD i 0 : Nat) : Int) < ((l.getD (i + 1) 0 : Nat) : Int)) = decide (l.getD i 0 < l.getD (i + 1) 0) := decide_eq_decide.mpr (by omega)
      show some (HO.lst (_ ++ [V.bl (decide (((l.getD i 0 : Nat) : Int) < ((l.getD (i + 1) 0 : Nat) : Int)))])) = _
      rw [eb]
      rfl
    · rintro H2 ⟨s2, zL⟩
      exact ⟨L, (List.range (l.length - 1)).map fun k => decide (l.getD k 0 < l.getD (k + 1) 0), rfl, SqL.of zL, q H2 s2⟩
theorem ok_letterT {f : Addr} {fd : FuncData} (F : Fun K "is_letter" "is_letter" s_is_letter f fd) (B : Blt mg) : FnOk P w K mg base CX0 1 f fd ["letters", "thing"] spLetterT := by
  refine F.ok sc_is_letter (fun vs H Q E h => ?_) (fun cdv A outer s H vs Q E hr h => ?_)
  · obtain ⟨_, _, rfl, _⟩ := h
    rfl
  · obtain ⟨sg, z, rfl, hz, q⟩ := h
    refine ⟨_, pss_one (ps_ret (pe_and (pe_callB call_isi (by rfl) B.isi (by decide +kernel) (pa_cons (pv 1) (pa_cons (pe_bltn (v := .ty "str") (by rfl) B.str (by decide +kernel) rfl) pa_nil))) (pe_and (pe_cmpR op_eq (pe_callB call_len (by rfl) B.len (by decide +kernel) (pa_cons (pv 1) pa_nil)) pe_int (nomark _)) (pe_one (pe_cmpR op_in_sign (pv 1) (pv 0) rfl))))), ?_⟩
    refine ⟨_, rfl, _, .ty "str", _, _, true, rfl, .ty _, .base (.str _), kit_self, true, rfl, iteT ⟨_, rfl, _, _, rfl, len_S hz, rfl, _, rfl, ?_⟩⟩
    match z, q with
    | [], q => exact ifF rfl q
    | [c], q =>
      refine ifT rfl ⟨_, rfl, _, rfl, c, S sg, rfl, rfl, ?_⟩
      exact q
    | a :: b :: r, q =>
      refine ifF (decide_eq_false fun e => ?_) q
      have e1 := V.int.inj e
      have e2 : ((a :: b :: r).length : Int) = 1 := e1
      rw [List.length_cons, List.length_cons] at e2
      omega
theorem ok_item {f fL : Addr} {fd fdL : FuncData} (F : Fun K "is_item" "is_item" s_is_item f fd) (B : Blt mg)
    (FL : Fun K "is_letter" "is_letter" s_is_letter fL fdL) (gL : mg "is_letter" = some (.ref fL)) (bL : Binds K fdL ["letters", "thing"] []) : FnOk P w K mg base CX0 2 f fd ["letters", "thing"] spItem := by
  have GL : FnOk P w K mg base CX0 1 fL fdL ["letters", "thing"] spLetterT := ok_letterT FL B
  refine F.ok sc_is_item (fun vs H Q E h => ?_) (fun cdv A outer s H vs Q E hr h => ?_)
  · obtain ⟨_, _, rfl, _⟩ := h
    rfl
  · obtain ⟨sg, u, rfl, hz, q⟩ := h
    have hl : (S u).length ≤ sizeLine := sz_le (by rw [SX.S_len]; omega)
    refine ⟨_, (pss_cons (ps_if (pt_not (pt_val (pe_callB call_isi (by rfl) B.isi (by decide +kernel) (pa_cons (pv 1) (pa_cons (pe_bltn (v := .ty "str") (by rfl) B.str (by decide +kernel) rfl) pa_nil))))) (pss_one (ps_ret pe_bl)) pss_nil)
      (pss_one (ps_ret (pe_or (pe_call GL (hr.mono (by decide)) (by rfl) gL FL.kp bL .nil pass0 (pa_cons (pv 0) (pa_cons (pv 1) pa_nil))) (pe_or (pe_cmpR op_eq (pv 1) pe_str (nomark _)) (pe_one (pe_and (pe_cmpR op_eq (pe_slice sl_str (pv 1) po_none (po_some pe_int)) pe_str (nomark _)) (pe_one (pe_call GL (hr.mono (by decide)) (by rfl) gL FL.kp bL .nil pass0 (pa_cons (pv 0) (pa_cons (pe_slice sl_str (pv 1) (po_some pe_int) po_none) pa_nil))))))))))), ?_⟩
    refine ⟨_, rfl, _, .ty "str", _, _, true, rfl, .ty _, .base (.str _), kit_self, true, rfl, ifF rfl ?_⟩
    unfold itemB at q
    refine ⟨_, rfl, _, rfl, sg, u, rfl, hz, _, rfl, ?_⟩
    cases e1 : letB sg u with
    | true =>
      rw [e1] at q
      exact ifT rfl q
    | false =>
      rw [e1] at q
      refine ifF rfl ⟨_, rfl, rfl, _, rfl, ?_⟩
      rw [show decide (V.str (S u) = V.str "?-") = decide (u = [63, 45]) from S_dec u [63, 45]]
      cases e2 : decide (u = [63, 45]) with
      | true =>
        rw [e2] at q
        exact ifT rfl q
      | false =>
        rw [e2] at q
        refine ifF rfl ⟨_, rfl, 1, rfl, S u, rfl, hl, ?_⟩
        rw [show cutS (S u) none (some 1) = S (u.take 1) from cutS_to u 1]
        refine ⟨rfl, _, rfl, ?_⟩
        rw [show decide (V.str (S (u.take 1)) = V.str "?") = decide (u.take 1 = [63]) from S_dec (u.take 1) [63]]
        cases e3 : decide (u.take 1 = [63]) with
        | false =>
          rw [e3] at q
          exact ifF rfl q
        | true =>
          rw [e3] at q
          refine ifT rfl ⟨_, rfl, _, rfl, 1, rfl, S u, rfl, hl, ?_⟩
          rw [show cutS (S u) (some 1) none = S (u.drop 1) from cutS_from u 1]
          exact ⟨sg, u.drop 1, rfl, by rw [List.length_drop]; omega, q⟩
theorem all_take {α : Type} (p : α → Bool) (ws : List α) : ((List.range ws.length).map fun k => ((ws[k]?).map p).getD true).all id = ws.all p := by
  rw [Bool.eq_iff_iff, List.all_map, List.all_eq_true, List.all_eq_true]
  constructor
  · intro h x hx
    obtain ⟨i, hi, rfl⟩ := List.mem_iff_getElem.mp hx
    have := h i (List.mem_range.mpr hi)
    rw [Function.comp, List.getElem?_eq_getElem hi] at this
    exact this
  · intro h i hi
    have hi := List.mem_range.mp hi
    rw [Function.comp, List.getElem?_eq_getElem hi]
    exact h _ (List.getElem_mem hi)
theorem ok_weft {f fI : Addr} {fd fdI : FuncData} (F : Fun K "is_weft" "is_weft" s_is_weft f fd) (B : Blt mg)
    (FI : Fun K "is_item" "is_item" s_is_item fI fdI) (gI : mg "is_item" = some (.ref fI)) (bI : Binds K fdI ["letters", "thing"] []) (GI : FnOk P w K mg base CX0 2 fI fdI ["letters", "thing"] spItem) :
    FnOk P w K mg base CX0 3 f fd ["letters", "thing"] (spWeft K) := by
  refine F.ok sc_is_weft (fun vs H Q E h => ?_) (fun cdv A outer s H vs Q E hr h => ?_)
  · obtain ⟨_, _, _, rfl, _⟩ := h
    rfl
  · obtain ⟨sg, p, ws, rfl, hp, hm, hl, q⟩ := h
    refine ⟨_, (pss_one (ps_ret (pe_and (pe_callB call_isi (by rfl) B.isi (by decide +kernel) (pa_cons (pv 1) (pa_cons (pe_bltn (v := .ty "tuple") (by rfl) B.tuple (by decide +kernel) rfl) pa_nil))) (pe_one (pe_callB (cr_all rfl) (by rfl) B.all (by decide +kernel) (pa_cons (pe_lc (own := [("item", 2)]) (g := gName 2) (tt := tYes) rfl sc_is_weft.nd (pi_tup (pv 1)) (blkOk_by (own := [("item", 2)]) (N := ["letters", "thing", "item"]) (sc := defScope s_is_weft) (by decide +kernel)) (fun _ _ _ _ _ => pg_name (i := 2) sc_is_weft.nd rfl (Or.inl rfl)) (fun _ _ _ _ _ => pts_nil) (fun _ _ _ _ _ => (pe_call GI (hr.mono (by decide)) (by rfl) gI FI.kp bI .nil pass0 (pa_cons (pv 0) (pa_cons (pv 2) pa_nil))))) pa_nil)))))), ?_⟩
    refine ⟨_, rfl, _, .ty "tuple", _, _, true, rfl, .ty _, ty_tup hp, kit_ty (by decide +kernel), true, rfl, ifT rfl ?_⟩
    refine ⟨_, rfl, p, rfl, ⟨_, hp⟩, fun L hL => ?_⟩
    refine lc_yes (walk_tup (a := p) (xs := txs ws)) (fun i H' => Same H H' ∧ H' L = some (.lst (((List.range i).map fun k => ((ws[k]?).map (itemB sg)).getD true).map V.bl))) ⟨same_new hL, upd_same⟩ (fun _ _ _ pv => Same.tup pv.1 hp) ?_ ?_
    · rintro i x H2 H3 hi ⟨s2, zL⟩ ⟨rfl, hx⟩
      rw [List.length_map] at hi
      rw [List.getElem?_map, List.getElem?_eq_getElem hi] at hx
      cases hx
      refine ⟨rfl, _, rfl, _, rfl, sg, ws[i], rfl, hl _ (List.getElem_mem hi), _, zL, sz_lt (by rw [List.length_map, List.length_map, List.length_range]; omega), push_same hL s2, ?_⟩
      rw [upd_same, List.range_succ, List.map_append, List.map_append]
      show _ = some (HO.lst (_ ++ [V.bl (((ws[i]?).map (itemB sg)).getD true)]))
      rw [List.getElem?_eq_getElem hi]
      rfl
    · rintro H2 ⟨s2, zL⟩
      rw [List.length_map] at zL
      refine ⟨L, (List.range ws.length).map fun k => ((ws[k]?).map (itemB sg)).getD true, rfl, SqL.of zL, ?_⟩
      rw [all_take]
      exact q H2 s2
theorem ok_weft_text {f : Addr} {fd : FuncData} (F : Fun K "weft_text" "weft_text" s_weft_text f fd) : FnOk P w K mg base CX0 1 f fd ["weft"] (spWeftText K) := by
  refine F.ok sc_weft_text (fun vs H Q E h => ?_) (fun cdv A outer s H vs Q E hr h => ?_)
  · obtain ⟨_, _, rfl, _⟩ := h
    rfl
  · obtain ⟨p, ws, rfl, hp, hs, q⟩ := h
    refine ⟨_, (pss_one (ps_ret (pe_orT (pe_join pe_str (pv 0)) (pe_one pe_str)))), ?_⟩
    refine ⟨⟨_, rfl⟩, _, rfl, S [32], p, ws.map S, rfl, rfl, Or.inr (by rw [map_SV]; exact hp), by rw [join_bound]; omega, ?_⟩
    rw [SX.join_S]
    have hl := joinL_le 32 ws
    unfold orDash at q
    generalize TL.joinL [32] ws = z at hl q ⊢
    refine ⟨_, ⟨sz_le (by rw [SX.S_len]; omega), rfl⟩, ?_⟩
    rw [SX.S_len]
    cases z with
    | nil => exact ifF rfl q
    | cons a b => exact ifT (by simp; omega) q
end
end Lw

namespace Lw
open PySem PySem.Spec PyProof.Rows L2 Mq
open SX (S)
/-! ### lots that are read -/
structure Lot where
  n : Nat
  d : Bool
  e : List Nat
  w : List (List Nat)
def lotL : List Nat := [108, 111, 116]
def doneL : List Nat := [100, 111, 110, 101]
def openL : List Nat := [111, 112, 101, 110]
def knownB (known : List Nat) : Option Nat → Bool
  | none => false
  | some n => decide (n ∈ known)
def nums (w : List Nat) : List (Option Nat) := (spl 44 w).map numM
def vals (ms : List (Option Nat)) : List Nat := ms.map fun m => m.getD 0
def earlM (w known : List Nat) : Option (List Nat) :=
  if w = [45] then some [] else if ((nums w).all (knownB known) && ascB (vals (nums w))) = true then some (vals (nums w)) else none
def nextB (known : List Nat) (n : Nat) : Bool :=
  match known.getLast? with
  | none => true
  | some m => decide (m < n)
def weftM (ws : List (List Nat)) : List (List Nat) := if ws = [[45]] then [] else ws
def lotM (sg known line : List Nat) : Option Lot :=
  match spl 32 line with
  | w0 :: w1 :: w2 :: w3 :: w4 :: ws =>
    if (decide (w0 = lotL) && (decide (w2 = doneL) || decide (w2 = openL))) = true then
      match numM w1, earlM w3 known with
      | some n, some e => if (nextB known n && (weftM (w4 :: ws)).all (itemB sg)) = true then some ⟨n, decide (w2 = doneL), e, weftM (w4 :: ws)⟩ else none
      | _, _ => none
    else none
  | _ => none
def LotAt (K : PySem.W.Frag) (H : Hp) (v : V) (L : Lot) : Prop := ∃ p pe pw, v = .ref p ∧ SqT K H p [.int ((L.n : Nat) : Int), .bl L.d, .ref pe, .ref pw] ∧ SqT K H pe (intsV L.e) ∧ SqT K H pw (txs L.w)
def EarlR (K : PySem.W.Frag) (H : Hp) : Option (List Nat) → V → Prop
  | none, u => u = .non
  | some e, u => ∃ p, u = .ref p ∧ SqT K H p (intsV e)
def LotR (K : PySem.W.Frag) (H : Hp) : Option Lot → V → Prop
  | none, u => u = .non
  | some L, u => LotAt K H u L
def Parts (w : List Nat) : Prop := ∀ p ∈ spl 44 w, p.length ≤ 50
def spEarl (K : PySem.W.Frag) : Sp := fun vs H Q _ => ∃ (w known : List Nat) (k : Addr), vs = [.str (S w), .ref k] ∧ SqL K H k (intsV known) ∧ w.length ≤ 20000 ∧ Parts w ∧ ∀ H' u, Same H H' → EarlR K H' (earlM w known) u → Q u H'
def spLotRead (K : PySem.W.Frag) : Sp := fun vs H Q _ => ∃ (sg line known : List Nat) (k : Addr), vs = [.str (S sg), .str (S line), .ref k] ∧ SqL K H k (intsV known) ∧ line.length ≤ 20000 ∧ LowL line ∧ (∀ w ∈ spl 32 line, Parts w) ∧
  ∀ H' u, Same H H' → LotR K H' (lotM sg known line) u → Q u H'
theorem spl_none {c : Nat} {w : List Nat} (hc : c < 256) (h : c ∉ w) : spl c w = [w] := spl_of hc (ps := [w]) (by simp) (fun p hp => by rw [List.mem_singleton.mp hp]; exact h)
theorem num_free {w : List Nat} (h : numB w = true) {c : Nat} (hc : c < 48 ∨ 57 < c) : c ∉ w := by
  unfold numB at h
  obtain ⟨_, h⟩ := Bool.and_eq_true_iff.mp h
  obtain ⟨h2, _⟩ := Bool.and_eq_true_iff.mp h
  intro hm
  have := List.all_eq_true.mp (dig_all h2) c hm
  rw [Bool.and_eq_true, decide_eq_true_eq, decide_eq_true_eq] at this
  omega
theorem num_short {w : List Nat} (hp : Parts w) (h : numB w = true) : w.length ≤ 640 := by
  have e := spl_none (c := 44) (by decide) (num_free h (Or.inl (by decide)))
  have := hp w (by rw [e]; exact List.mem_singleton.mpr rfl)
  omega
theorem inV_opt (known : List Nat) (m : Option Nat) : inV (optN m) (intsV known) = knownB known m := by
  unfold inV
  rw [List.any_map]
  cases m with
  | none =>
    show (known.any fun n => eqV (V.int ((n : Nat) : Int)) V.non) = false
    rw [Bool.eq_false_iff, ne_eq, List.any_eq_true]
    rintro ⟨n, _, h⟩
    cases h
  | some k =>
    show (known.any fun n => eqV (V.int ((n : Nat) : Int)) (V.int ((k : Nat) : Int))) = decide (k ∈ known)
    rw [Bool.eq_iff_iff, List.any_eq_true, decide_eq_true_eq]
    constructor
    · rintro ⟨n, hn, h⟩
      have h2 : (((n : Nat) : Int) == ((k : Nat) : Int)) = true := h
      have h3 := beq_iff_eq.mp h2
      have : n = k := by omega
      subst this
      exact hn
    · exact fun h => ⟨k, h, by show (((k : Nat) : Int) == ((k : Nat) : Int)) = true; exact beq_iff_eq.mpr rfl⟩
theorem op_in_seqK {X : Cx} {K : PySem.W.Frag} (h : X.K = K) : OpR X (compareOp .In) (rIn K false) := h ▸ op_in_seq
theorem flat_opt (m : Option Nat) : flatV (optN m) = true := by cases m <;> rfl
theorem flat_ints (ns : List Nat) : (intsV ns).all flatV = true := by
  rw [List.all_map, List.all_eq_true]
  intro c _
  rfl
theorem known_vals {known : List Nat} {ms : List (Option Nat)} (h : ms.all (knownB known) = true) : ms.map optN = intsV (vals ms) := by
  unfold vals intsV
  rw [List.map_map]
  refine List.map_congr_left fun m hm => ?_
  have := List.all_eq_true.mp h m hm
  cases m with
  | none => cases this
  | some n => rfl
section
variable {P : Program} {w : World} {K : PySem.W.Frag} {mg : Str → Option Value} {base : Heap}
theorem ok_earlier {f fN fA : Addr} {fd fdN fdA : FuncData} (F : Fun K "earlier_read" "earlier_read" s_earlier_read f fd) (B : Blt mg)
    (FN : Fun K "integer_read" "integer_read" s_integer_read fN fdN) (gN : mg "integer_read" = some (.ref fN)) (bN : Binds K fdN ["text"] []) (GN : FnOk P w K mg base CX0 1 fN fdN ["text"] spNum)
    (FA : Fun K "is_ascending" "is_ascending" s_is_ascending fA fdA) (gA : mg "is_ascending" = some (.ref fA)) (bA : Binds K fdA ["parts"] []) (GA : FnOk P w K mg base CX0 1 fA fdA ["parts"] (spAscI K)) :
    FnOk P w K mg base CX0 2 f fd ["word", "known"] (spEarl K) := by
  refine F.ok sc_earlier_read (fun vs H Q E h => ?_) (fun cdv A outer s H vs Q E hr h => ?_)
  · obtain ⟨_, _, _, rfl, _⟩ := h
    rfl
  · obtain ⟨w, known, k, rfl, hk, hw, hp, q⟩ := h
    refine ⟨_, (pss_cons (ps_if (pt_cmpR op_eq (pv 0) pe_str (nomark _)) (pss_one (ps_ret (pe_tup pa_nil))) pss_nil)
      (pss_cons (ps_set (i := 2) sc_earlier_read.nd rfl (Or.inl rfl) (pe_callTy call_tuple_of (by rfl) B.tuple (by decide +kernel) (pa_cons (pe_lc (own := [("part", 3)]) (g := gName 3) (tt := tYes) rfl sc_earlier_read.nd (pi_list (pe_split (pv 0) pe_str)) (blkOk_by (own := [("part", 3)]) (N := ["word", "known", "numbers", "part", "number"]) (sc := defScope s_earlier_read) (by decide +kernel)) (fun _ _ _ _ _ => pg_name (i := 3) sc_earlier_read.nd rfl (Or.inl rfl)) (fun _ _ _ _ _ => pts_nil) (fun _ _ _ _ _ => (pe_call GN (hr.mono (by decide)) (by rfl) gN FN.kp bN .nil pass0 (pa_cons (pv 3) pa_nil)))) pa_nil)))
      (pss_one (ps_ret (pe_ifExp (PW.pt (pw_and (pt_val (pe_callB (cr_all rfl) (by rfl) B.all (by decide +kernel) (pa_cons (pe_lc (own := [("number", 4)]) (g := gName 4) (tt := tYes) rfl sc_earlier_read.nd (pi_tup (pv 2)) (blkOk_by (own := [("number", 4)]) (N := ["word", "known", "numbers", "part", "number"]) (sc := defScope s_earlier_read) (by decide +kernel)) (fun _ _ _ _ _ => pg_name (i := 4) sc_earlier_read.nd rfl (Or.inl rfl)) (fun _ _ _ _ _ => pts_nil) (fun _ _ _ _ _ => (pe_cmpR (op_in_seqK (K := K) rfl) (pv 4) (pv 1) rfl))) pa_nil))) (pw_and1 (pt_val (pe_call GA (hr.mono (by decide)) (by rfl) gA FA.kp bA .nil pass0 (pa_cons (pv 2) pa_nil)))))) (pv 2) pe_non))))), ?_⟩
    refine ⟨_, rfl, rfl, _, rfl, ?_⟩
    rw [show decide (V.str (S w) = V.str "-") = decide (w = [45]) from S_dec w [45]]
    unfold earlM at q
    by_cases e0 : w = [45]
    · rw [decide_eq_true e0]
      rw [if_pos e0] at q
      refine ifT rfl ⟨sz_le (n := 0) (by decide), fun p0 hp0 => ?_⟩
      exact q _ _ (same_new hp0) ⟨p0, rfl, Or.inl (Or.inl upd_same)⟩
    rw [decide_eq_false e0]
    rw [if_neg e0] at q
    refine ifF rfl ?_
    refine ⟨_, rfl, ⟨_, rfl⟩, S w, S [44], rfl, rfl, rfl, sz_le (by rw [SX.S_len]; omega), fun p1 hp1 => ?_⟩
    rw [spl_S, map_SV]
    have s1 := same_new (o := HO.lst (txs (spl 44 w))) hp1
    have z1 : upd H p1 (.lst (txs (spl 44 w))) p1 = some (.lst (txs (spl 44 w))) := upd_same
    have hk1 : SqL K (upd H p1 (.lst (txs (spl 44 w)))) k (intsV known) := SqL.kp hk s1
    generalize upd H p1 (.lst (txs (spl 44 w))) = H1 at s1 z1 hk1 ⊢
    unfold nums at q
    have hm := spl_many 44 w
    have hp : ∀ p ∈ spl 44 w, p.length ≤ 50 := hp
    generalize spl 44 w = ws at z1 q hp hm ⊢
    refine ⟨p1, rfl, ⟨_, SqL.of z1⟩, fun L hL => ?_⟩
    refine lc_yes (walk_list (a := p1) (xs := txs ws)) (fun i H' => Same H1 H' ∧ H' L = some (.lst (((ws.map numM).take i).map optN))) ⟨same_new hL, upd_same⟩ (fun _ _ _ pv => SqL.of (pv.1 _ _ z1)) ?_ ?_
    · rintro i x H2 H3 hi ⟨s2, zL⟩ ⟨rfl, hx⟩
      rw [List.length_map] at hi
      rw [List.getElem?_map, List.getElem?_eq_getElem hi] at hx
      cases hx
      have hwi := hp _ (List.getElem_mem hi)
      refine ⟨rfl, _, rfl, ws[i], rfl, by omega, (fun _ => by omega), fun H4 s4 => ?_⟩
      refine ⟨_, s4 _ _ zL, sz_lt (by rw [List.length_map, List.length_take]; omega), push_same hL (s2.trans s4), ?_⟩
      rw [upd_same, List.take_add_one, List.getElem?_map, List.getElem?_eq_getElem hi, List.map_append]
      rfl
    · rintro H2 ⟨s2, zL⟩
      rw [List.length_map, List.take_of_length_le (by rw [List.length_map]; exact Nat.le_refl _)] at zL
      have s12 := s1.trans s2
      have hk2 := SqL.kp hk1 s2
      clear hp
      have hml : (ws.map numM).length ≤ 20001 := by rw [List.length_map]; omega
      generalize ws.map numM = ms at zL q hml
      refine ⟨L, _, rfl, Or.inl ⟨SqL.of zL, fun t ht => ?_⟩⟩
      have s3 := same_new (o := HO.tup (ms.map optN)) ht
      have zt : SqT K (upd H2 t (.tup (ms.map optN))) t (ms.map optN) := Or.inl (Or.inl upd_same)
      have hk3 := SqL.kp hk2 s3
      have s13 := s12.trans s3
      generalize upd H2 t (.tup (ms.map optN)) = H3 at zt hk3 s13 ⊢
      refine ⟨_, rfl, t, rfl, ⟨_, zt⟩, fun L2 hL2 => ?_⟩
      refine lc_yes (walk_tup (a := t) (xs := ms.map optN)) (fun i H' => Same H3 H' ∧ H' L2 = some (.lst (((List.range i).map fun k => ((ms[k]?).map (knownB known)).getD true).map V.bl))) ⟨same_new hL2, upd_same⟩ (fun _ _ _ pv => Same.tup pv.1 zt) ?_ ?_
      · rintro i x H4 H5 hi ⟨s4, zL2⟩ ⟨rfl, hx⟩
        rw [List.length_map] at hi
        rw [List.getElem?_map, List.getElem?_eq_getElem hi] at hx
        cases hx
        refine ⟨rfl, _, rfl, _, rfl, k, _, rfl, Or.inl (SqL.kp hk3 s4), flat_opt _, flat_ints _, ?_⟩
        refine ⟨_, zL2, sz_lt (by rw [List.length_map, List.length_map, List.length_range]; omega), push_same hL2 s4, ?_⟩
        rw [upd_same, List.range_succ, List.map_append, List.map_append]
        show some (HO.lst (_ ++ [V.bl (inV (optN ms[i]) (intsV known))])) = some (HO.lst (_ ++ [V.bl (((ms[i]?).map (knownB known)).getD true)]))
        rw [inV_opt, List.getElem?_eq_getElem hi]
        rfl
      · rintro H4 ⟨s4, zL2⟩
        rw [List.length_map] at zL2
        refine ⟨L2, (List.range ms.length).map fun k => ((ms[k]?).map (knownB known)).getD true, rfl, SqL.of zL2, _, rfl, ?_⟩
        rw [all_take]
        have zt4 := Same.tup s4 zt
        have s14 := s13.trans s4
        cases e1 : ms.all (knownB known) with
        | false =>
          rw [e1, if_neg (by simp)] at q
          exact ifF rfl (q H4 _ s14 rfl)
        | true =>
          rw [e1, Bool.true_and] at q
          rw [known_vals e1] at zt4
          have hvl : (vals ms).length ≤ 100000 := by unfold vals; rw [List.length_map]; omega
          refine ifT rfl ⟨_, rfl, t, vals ms, rfl, zt4, hvl, fun H5 s5 => ⟨_, rfl, ?_⟩⟩
          cases e2 : ascB (vals ms) with
          | false =>
            rw [e2, if_neg (by simp)] at q
            exact ifF rfl (q H5 _ (s14.trans s5) rfl)
          | true =>
            rw [e2, if_pos rfl] at q
            exact ifT rfl ⟨_, rfl, q H5 _ (s14.trans s5) ⟨t, rfl, Same.tup s5 zt4⟩⟩
def tStop2 (K : PySem.W.Frag) : TT := fun σ H Q => ∃ (sg known : List Nat) (k pw : Addr) (m : Option Nat) (eu : V) (oe : Option (List Nat)) (ws : List (List Nat)) (o1 o3 : Option V), σ = [some (.str (S sg)), o1, some (.ref k), o3, some (optN m), some eu, some (.ref pw)] ∧
  SqL K H k (intsV known) ∧ EarlR K H oe eu ∧ SqT K H pw (txs ws) ∧ ws.length ≤ 100000 ∧ (∀ w ∈ ws, w.length ≤ 100000) ∧
  ∀ H', Same H H' → Q (match m, oe with | some n, some _ => !(nextB known n && ws.all (itemB sg)) | _, _ => true) H'
def tWeft (K : PySem.W.Frag) : TE := fun σ H Q => ∃ p ds, σ[3]? = some (some (.ref p)) ∧ H p = some (.lst (txs ds)) ∧ LowLs ds ∧ ds.length ≤ 100000 ∧ ∀ H' pw, Same H H' → SqT K H' pw (txs (weftM (ds.drop 4))) → Q (.ref pw) H'
theorem map_S_inj {a b : List (List Nat)} : decide (a.map S = b.map S) = decide (a = b) := decide_eq_decide.mpr ⟨fun h => by
  have := congrArg (List.map fun x : Str => x.cps.toList) h
  rw [List.map_map, List.map_map] at this
  have e : ∀ xs : List (List Nat), xs.map ((fun x : Str => x.cps.toList) ∘ S) = xs := fun xs => List.map_id _
  rw [e, e] at this
  exact this, fun h => by rw [h]⟩
theorem op_notIn_seqK {X : Cx} {K : PySem.W.Frag} (h : X.K = K) : OpR X (compareOp .NotIn) (rIn K true) := h ▸ op_notIn_seq
theorem inV_two (w : List Nat) : inV (.str (S w)) [.str "done", .str "open"] = (decide (w = doneL) || decide (w = openL)) := by
  show (eqV (V.str (S doneL)) (V.str (S w)) || (eqV (V.str (S openL)) (V.str (S w)) || false)) = _
  rw [Bool.or_false]
  have e : ∀ a : List Nat, eqV (V.str (S a)) (V.str (S w)) = decide (w = a) := by
    intro a
    show decide (S a = S w) = _
    exact decide_eq_decide.mpr ⟨fun h => (SX.S_inj h).symm, fun h => by rw [h]⟩
  rw [e, e]
theorem lot_none {sg known line : List Nat} (h : (spl 32 line).length < 5) : lotM sg known line = none := by
  unfold lotM
  split
  · rename_i e
    rw [e] at h
    simp only [List.length_cons] at h
    omega
  · rfl
theorem lot_five {sg known line w0 w1 w2 w3 w4 : List Nat} {ws : List (List Nat)} (h : spl 32 line = w0 :: w1 :: w2 :: w3 :: w4 :: ws) : lotM sg known line =
    if (decide (w0 = lotL) && (decide (w2 = doneL) || decide (w2 = openL))) = true then
      match numM w1, earlM w3 known with
      | some n, some e => if (nextB known n && (weftM (w4 :: ws)).all (itemB sg)) = true then some ⟨n, decide (w2 = doneL), e, weftM (w4 :: ws)⟩ else none
      | _, _ => none
    else none := by
  unfold lotM
  rw [h]
theorem ok_lot_read {f fN fE fW : Addr} {fd fdN fdE fdW : FuncData} (F : Fun K "lot_read" "lot_read" s_lot_read f fd) (B : Blt mg)
    (FN : Fun K "integer_read" "integer_read" s_integer_read fN fdN) (gN : mg "integer_read" = some (.ref fN)) (bN : Binds K fdN ["text"] []) (GN : FnOk P w K mg base CX0 1 fN fdN ["text"] spNum)
    (FE : Fun K "earlier_read" "earlier_read" s_earlier_read fE fdE) (gE : mg "earlier_read" = some (.ref fE)) (bE : Binds K fdE ["word", "known"] []) (GE : FnOk P w K mg base CX0 2 fE fdE ["word", "known"] (spEarl K))
    (FW : Fun K "is_weft" "is_weft" s_is_weft fW fdW) (gW : mg "is_weft" = some (.ref fW)) (bW : Binds K fdW ["letters", "thing"] []) (GW : FnOk P w K mg base CX0 3 fW fdW ["letters", "thing"] (spWeft K)) :
    FnOk P w K mg base CX0 4 f fd ["letters", "line", "known"] (spLotRead K) := by
  refine F.ok sc_lot_read (fun vs H Q E h => ?_) (fun cdv A outer s H vs Q E hr h => ?_)
  · obtain ⟨_, _, _, _, rfl, _⟩ := h
    rfl
  · obtain ⟨sg, line, known, k, rfl, hk, hl, hlow, hp, q⟩ := h
    have hu : (A.deeper (envOfC "lot_read" (defScope s_lot_read) s.heap.objs.size f cdv)).units + 64 < cLine := by
      have := hr.units
      omega
    refine ⟨_, (pss_cons (ps_set (i := 3) sc_lot_read.nd rfl (Or.inl rfl) (pe_split (pv 1) pe_str))
      (pss_cons (ps_if (PW.pt (pw_or (pt_cmpR op_lt (pe_callB call_len_seq (by rfl) B.len (by decide +kernel) (pa_cons (pv 3) pa_nil)) pe_int (nomark _)) (pw_or (pt_cmpR op_ne (pe_ix ix_list (pv 3) pe_int (fun _ _ => rfl)) pe_str (nomark _)) (pw_or1 (pt_cmpR op_notIn_seq (pe_ix ix_list (pv 3) pe_int (fun _ _ => rfl)) (pe_tup (pa_cons pe_str (pa_cons pe_str pa_nil))) rfl))))) (pss_one (ps_ret pe_non)) pss_nil)
      (pss_cons (ps_set (i := 4) sc_lot_read.nd rfl (Or.inl rfl) (pe_call GN (hr.mono (by decide)) (by rfl) gN FN.kp bN .nil pass0 (pa_cons (pe_ix ix_list (pv 3) pe_int (fun _ _ => rfl)) pa_nil)))
      (pss_cons (ps_set (i := 5) sc_lot_read.nd rfl (Or.inl rfl) (pe_call GE (hr.mono (by decide)) (by rfl) gE FE.kp bE .nil pass0 (pa_cons (pe_ix ix_list (pv 3) pe_int (fun _ _ => rfl)) (pa_cons (pv 2) pa_nil))))
      (pss_cons (ps_set (i := 6) sc_lot_read.nd rfl (Or.inl rfl) (PE_imp (t' := tWeft K) (pe_ifExp (pt_cmpR (op_eqD hu) (pe_slice sl_list (pv 3) (po_some pe_int) po_none) (Mq.pe_ls (pa_cons pe_str pa_nil)) (nomark _)) (pe_tup pa_nil) (pe_callTy call_tuple_of (by rfl) B.tuple (by decide +kernel) (pa_cons (pe_slice sl_list (pv 3) (po_some pe_int) po_none) pa_nil))) (fun σ H Q h => by
          obtain ⟨p, ds, h3, hp, hlo, hn, q⟩ := h
          refine ⟨_, h3, 4, rfl, p, _, rfl, SqL.of hp, fun p5 hp5 => ?_⟩
          rw [show cutV (txs ds) (some 4) none = txs (ds.drop 4) from txs_from ds 4]
          have s5 := same_new (o := HO.lst (txs (ds.drop 4))) hp5
          have z5 : upd H p5 (.lst (txs (ds.drop 4))) p5 = some (.lst (txs (ds.drop 4))) := upd_same
          have z1 := s5 _ _ hp
          generalize upd H p5 (.lst (txs (ds.drop 4))) = H5 at s5 z5 z1 ⊢
          refine ⟨sz_le (n := 1) (by decide), fun p6 hp6 _ => ?_⟩
          have s6 := same_new (o := HO.lst [V.str "-"]) hp6
          have hld := hlo.drop 4
          have zz : SqL K (upd H5 p6 (.lst [V.str "-"])) p5 (((ds.drop 4).map S).map V.str) := by
            rw [map_SV]
            exact SqL.of (s6 _ _ z5)
          refine ⟨.list (((ds.drop 4).map S).map PyData.str), .list (([[45]].map S).map PyData.str), .lst zz (dp_strs _), .lst (SqL.of upd_same) (dp_strs ([[45]].map S)), shaped_strs (fun y hy => by
            obtain ⟨u, hu, rfl⟩ := List.mem_map.mp hy
            exact lay_txt (hld u hu)), shaped_strs (fun y hy => by
            obtain ⟨u, hu, rfl⟩ := List.mem_map.mp hy
            rw [List.mem_singleton.mp hu]
            exact lay_txt (by decide)), ?_⟩
          rw [eqv_strs, map_S_inj]
          have z2 := s6 _ _ z1
          have s56 := s5.trans s6
          generalize upd H5 p6 (.lst [V.str "-"]) = H6 at z2 s56 ⊢
          unfold weftM at q
          by_cases e : ds.drop 4 = [[45]]
          · rw [if_pos e] at q
            rw [decide_eq_true e]
            refine ⟨_, rfl, ifT rfl ⟨sz_le (n := 0) (by decide), fun p7 hp7 => ?_⟩⟩
            exact q _ p7 (s56.trans (same_new hp7)) (Or.inl (Or.inl upd_same))
          · rw [if_neg e] at q
            rw [decide_eq_false e]
            refine ⟨_, rfl, ifF rfl ⟨_, h3, 4, rfl, p, _, rfl, SqL.of z2, fun p7 hp7 => ?_⟩⟩
            rw [show cutV (txs ds) (some 4) none = txs (ds.drop 4) from txs_from ds 4]
            have s7 := same_new (o := HO.lst (txs (ds.drop 4))) hp7
            refine ⟨p7, _, rfl, Or.inl ⟨SqL.of upd_same, fun p8 hp8 => ?_⟩⟩
            exact q _ p8 ((s56.trans s7).trans (same_new hp8)) (Or.inl (Or.inl upd_same)))))
      (pss_cons (ps_if (PT_imp (t' := tStop2 K) (PW.pt (pw_or (pt_cmpR op_isN (pv 4) pe_non (nomark _)) (pw_or (pt_cmpR op_isN (pv 5) pe_non (nomark _)) (pw_or (PW.pt (pw_and (pt_truth (pv 2) (by intro _; rfl)) (pw_and1 (pt_cmpR op_le (pv 4) (pe_ix ix_list (pv 2) (pe_un un_neg pe_int) (fun _ _ => rfl)) (nomark _))))) (pw_or1 (pt_not (pt_val (pe_call GW (hr.mono (by decide)) (by rfl) gW FW.kp bW .nil pass0 (pa_cons (pv 0) (pa_cons (pv 6) pa_nil)))))))))) (fun σ H Q h => by
          obtain ⟨sg, known, k, pw, m, eu, oe, ws, o1, o3, rfl, hk, he, hw, hn, hl, q⟩ := h
          cases m with
          | none => exact ⟨_, rfl, rfl, _, rfl, ifT rfl (q H (Same.refl H))⟩
          | some n =>
            refine ⟨_, rfl, rfl, _, rfl, ifF rfl ?_⟩
            cases oe with
            | none =>
              cases (show eu = .non from he)
              exact ⟨_, rfl, rfl, _, rfl, ifT rfl (q H (Same.refl H))⟩
            | some e =>
              obtain ⟨p, rfl, hp⟩ := he
              refine ⟨_, rfl, rfl, _, rfl, ifF rfl ?_⟩
              refine ⟨_, rfl, _, Or.inl ⟨_, hk, rfl⟩, ?_⟩
              have tail : nextB known n = true → ∃ u : V, True := fun _ => ⟨.non, trivial⟩
              rcases List.eq_nil_or_concat known with rfl | ⟨kn, m, rfl⟩
              · refine ifF rfl (ifF rfl ?_)
                refine ⟨_, rfl, _, rfl, sg, pw, ws, rfl, hw, hn, hl, fun H1 s1 => ⟨_, rfl, q H1 s1⟩⟩
              · rw [List.concat_eq_append] at hk q ⊢
                have en : nextB (kn ++ [m]) n = decide (m < n) := by
                  unfold nextB
                  rw [List.getLast?_concat]
                have q : ∀ H', Same H H' → Q (!(nextB (kn ++ [m]) n && ws.all (itemB sg))) H' := q
                rw [en] at q
                have eK : intsV (kn ++ [m]) = intsV kn ++ [V.int ((m : Nat) : Int)] := List.map_append
                rw [eK] at hk ⊢
                refine ifT (by simp) ⟨_, rfl, _, rfl, _, rfl, k, _, -1, _, rfl, rfl, hk, atI_last _ _, _, _, rfl, rfl, _, rfl, ?_⟩
                by_cases hmn : m < n
                · rw [decide_eq_true hmn] at q
                  refine ifF (decide_eq_false (by omega)) ?_
                  refine ⟨_, rfl, _, rfl, sg, pw, ws, rfl, hw, hn, hl, fun H1 s1 => ⟨_, rfl, q H1 s1⟩⟩
                · rw [decide_eq_false hmn] at q
                  exact ifT (decide_eq_true (by omega)) (q H (Same.refl H)))) (pss_one (ps_ret pe_non)) pss_nil)
      (pss_one (ps_ret (pe_tup (pa_cons (pv 4) (pa_cons (pe_cmpR op_eq (pe_ix ix_list (pv 3) pe_int (fun _ _ => rfl)) pe_str (nomark _)) (pa_cons (pv 5) (pa_cons (pv 6) pa_nil))))))))))))), ?_⟩
    have hz : (S line).length = line.length := SX.S_len line
    refine ⟨_, rfl, ⟨_, rfl⟩, S line, S [32], rfl, rfl, rfl, sz_le (by omega), fun p hp1 => ?_⟩
    rw [spl_S, map_SV]
    have s1 := same_new (o := HO.lst (txs (spl 32 line))) hp1
    have z1 : upd H p (.lst (txs (spl 32 line))) p = some (.lst (txs (spl 32 line))) := upd_same
    have hk1 := SqL.kp hk s1
    generalize upd H p (.lst (txs (spl 32 line))) = H1 at s1 z1 hk1 ⊢
    have hw := spl_low (c := 32) hlow
    have hm := spl_many 32 line
    have hn : ∀ x ∈ spl 32 line, x.length ≤ 20000 := fun x hx => Nat.le_trans (spl_len hx) hl
    refine ⟨_, rfl, p, _, rfl, .inl (SqL.of z1), _, _, rfl, rfl, _, rfl, ?_⟩
    by_cases h5 : (spl 32 line).length < 5
    · refine ifT (decide_eq_true (by rw [List.length_map]; omega)) (q H1 _ s1 ?_)
      rw [lot_none h5]
      rfl
    refine ifF (decide_eq_false (by rw [List.length_map]; omega)) ?_
    generalize hws : spl 32 line = wds at z1 hw hm hn hp h5 ⊢
    match wds, h5, hws with
    | [], h5, _ => exact (h5 (by decide)).elim
    | [_], h5, _ => exact (h5 (by show 1 < 5; decide)).elim
    | [_, _], h5, _ => exact (h5 (by show 2 < 5; decide)).elim
    | [_, _, _], h5, _ => exact (h5 (by show 3 < 5; decide)).elim
    | [_, _, _, _], h5, _ => exact (h5 (by show 4 < 5; decide)).elim
    | w0 :: w1 :: w2 :: w3 :: w4 :: ws, _, hws =>
      have hfm := lot_five (sg := sg) (known := known) hws
      have h0 : atI (txs (w0 :: w1 :: w2 :: w3 :: w4 :: ws)) 0 = some (.str (S w0)) := atI_nat (j := 0) rfl
      have h1 : atI (txs (w0 :: w1 :: w2 :: w3 :: w4 :: ws)) 1 = some (.str (S w1)) := atI_nat (j := 1) rfl
      have h2 : atI (txs (w0 :: w1 :: w2 :: w3 :: w4 :: ws)) 2 = some (.str (S w2)) := atI_nat (j := 2) rfl
      have h3 : atI (txs (w0 :: w1 :: w2 :: w3 :: w4 :: ws)) 3 = some (.str (S w3)) := atI_nat (j := 3) rfl
      refine ⟨_, rfl, p, _, 0, _, rfl, rfl, SqL.of z1, h0, rfl, _, rfl, ?_⟩
      rw [show decide (V.str (S w0) = V.str "lot") = decide (w0 = lotL) from S_dec w0 lotL]
      cases c0 : decide (w0 = lotL) with
      | false =>
        refine ifT rfl (ifT rfl (q H1 _ s1 ?_))
        rw [c0] at hfm
        rw [hfm]
        rfl
      | true =>
        rw [c0] at hfm
        refine ifF rfl ⟨_, rfl, p, _, 2, _, rfl, rfl, SqL.of z1, h2, sz_le (n := 2) (by decide), fun p2 hp2 => ?_⟩
        have s2 := same_new (o := HO.tup [V.str "done", V.str "open"]) hp2
        refine ⟨p2, _, rfl, Or.inr (Or.inl (Or.inl upd_same)), rfl, rfl, _, rfl, ?_⟩
        show if (!inV (V.str (S w2)) [V.str "done", V.str "open"]) = true then _ else _
        rw [inV_two]
        have s12 := s1.trans s2
        have z2 := s2 _ _ z1
        have hk2 := SqL.kp hk1 s2
        generalize upd H1 p2 (.tup [V.str "done", V.str "open"]) = H2 at s12 z2 hk2 ⊢
        cases c2 : (decide (w2 = doneL) || decide (w2 = openL)) with
        | false =>
          refine ifT rfl (q H2 _ s12 ?_)
          rw [c2] at hfm
          rw [hfm]
          rfl
        | true =>
          rw [c2] at hfm
          have hfm : lotM sg known line = match numM w1, earlM w3 known with
            | some n, some e => if (nextB known n && (weftM (w4 :: ws)).all (itemB sg)) = true then some ⟨n, decide (w2 = doneL), e, weftM (w4 :: ws)⟩ else none
            | _, _ => none := hfm
          refine ifF rfl ?_
          have n1 := hn w1 (by simp)
          have n3 := hn w3 (by simp)
          refine ⟨_, rfl, p, _, 1, _, rfl, rfl, SqL.of z2, h1, w1, rfl, by omega, num_short (hp w1 (by simp)), fun H3 s3 => ?_⟩
          refine ⟨_, rfl, p, _, 3, _, rfl, rfl, SqL.of (s3 _ _ z2), h3, _, rfl, w3, known, k, rfl, SqL.kp hk2 s3, by omega, hp w3 (by simp), fun H4 eu s4 he => ?_⟩
          have s14 := (s12.trans s3).trans s4
          have z4 := (s3.trans s4) _ _ z2
          have hk4 := SqL.kp hk2 (s3.trans s4)
          have hll : ws.length ≤ 20001 := by
            simp only [List.length_cons] at hm
            omega
          refine ⟨p, w0 :: w1 :: w2 :: w3 :: w4 :: ws, rfl, z4, hw, by simp only [List.length_cons]; omega, fun H5 pw s5 hpw => ?_⟩
          have hpw : SqT K H5 pw (txs (weftM (w4 :: ws))) := hpw
          have s15 := s14.trans s5
          have z45 := s5 _ _ z4
          have hk5 := SqL.kp hk4 s5
          have he5 : EarlR K H5 (earlM w3 known) eu := by
            cases e : earlM w3 known with
            | none => rw [e] at he; exact he
            | some x => rw [e] at he; exact he.imp fun _ z => ⟨z.1, Same.tup s5 z.2⟩
          have hwn : (weftM (w4 :: ws)).length ≤ 100000 := by
            unfold weftM
            split
            · exact Nat.zero_le _
            · simp only [List.length_cons]; omega
          have hwl : ∀ u ∈ weftM (w4 :: ws), u.length ≤ 100000 := by
            unfold weftM
            split
            · exact fun u hu => by cases hu
            · intro u hu
              have := hn u (by simp only [List.mem_cons] at hu ⊢; exact Or.inr (Or.inr (Or.inr (Or.inr hu))))
              omega
          refine ⟨sg, known, k, pw, numM w1, eu, earlM w3 known, weftM (w4 :: ws), _, _, rfl, hk5, he5, hpw, hwn, hwl, fun H6 s6 => ?_⟩
          have s16 := s15.trans s6
          cases en : numM w1 with
          | none =>
            rw [en] at hfm
            exact ifT rfl (q H6 _ s16 (by rw [hfm]; rfl))
          | some n =>
            cases ee : earlM w3 known with
            | none =>
              rw [en, ee] at hfm
              exact ifT rfl (q H6 _ s16 (by rw [hfm]; rfl))
            | some e =>
              rw [en, ee] at hfm
              rw [ee] at he5
              have hfm : lotM sg known line = if (nextB known n && (weftM (w4 :: ws)).all (itemB sg)) = true then some ⟨n, decide (w2 = doneL), e, weftM (w4 :: ws)⟩ else none := hfm
              show if (!(nextB known n && (weftM (w4 :: ws)).all (itemB sg))) = true then _ else _
              cases eb : (nextB known n && (weftM (w4 :: ws)).all (itemB sg)) with
              | false =>
                rw [eb] at hfm
                exact ifT rfl (q H6 _ s16 (by rw [hfm]; rfl))
              | true =>
                rw [eb] at hfm
                obtain ⟨pe, rfl, hpe⟩ := he5
                refine ifF rfl ⟨_, rfl, _, rfl, p, _, 2, _, rfl, rfl, SqL.of (s6 _ _ z45), h2, rfl, ?_⟩
                rw [show decide (V.str (S w2) = V.str "done") = decide (w2 = doneL) from S_dec w2 doneL]
                refine ⟨_, rfl, _, rfl, sz_le (n := 4) (by decide), fun p8 hp8 => ?_⟩
                have s8 := same_new (o := HO.tup [V.int ((n : Nat) : Int), V.bl (decide (w2 = doneL)), V.ref pe, V.ref pw]) hp8
                refine q _ _ (s16.trans s8) ?_
                rw [hfm]
                exact ⟨p8, pe, pw, rfl, Or.inl (Or.inl upd_same), Same.tup (s6.trans s8) hpe, Same.tup (s6.trans s8) hpw⟩
end
end Lw

namespace Lw
open PySem PySem.Spec PyProof.Rows L2 Mq
open SX (S)
open TL (numL)
/-! ### log_read, log_text -/
def logL : List Nat := [108, 111, 103]
def bodyM (sg : List Nat) : List (List Nat) → List Lot → List Lot ⊕ Nat
  | [], acc => .inl acc
  | l :: ls, acc => match lotM sg (acc.map fun L => L.n) l with
    | none => .inr (acc.length + 2)
    | some L => bodyM sg ls (acc ++ [L])
def pageM (sg t : List Nat) : List Lot ⊕ Nat :=
  match spl 10 t with
  | l0 :: ls => if l0 = logL then bodyM sg ls [] else .inr 1
  | [] => .inr 1
structure TOk (t : List Nat) : Prop where
  few : t.length ≤ 4000
  low : LowL t
  par : ∀ l ∈ spl 10 t, ∀ w ∈ spl 32 l, Parts w
inductive LotAll (K : PySem.W.Frag) (H : Hp) : List V → List Lot → Prop
  | nil : LotAll K H [] []
  | cons {v : V} {L : Lot} {vs : List V} {Ls : List Lot} : LotAt K H v L → LotAll K H vs Ls → LotAll K H (v :: vs) (L :: Ls)
theorem LotAt.kp {K : PySem.W.Frag} {H H' : Hp} {v : V} {L : Lot} (h : LotAt K H v L) (e : KpT K H H') : LotAt K H' v L := let ⟨p, pe, pw, x, a, b, c⟩ := h; ⟨p, pe, pw, x, e _ _ a, e _ _ b, e _ _ c⟩
theorem LotAll.kp {K : PySem.W.Frag} {H H' : Hp} (e : KpT K H H') : ∀ {vs : List V} {Ls : List Lot}, LotAll K H vs Ls → LotAll K H' vs Ls
  | _, _, .nil => .nil
  | _, _, .cons a b => .cons (a.kp e) (LotAll.kp e b)
theorem LotAll.len {K : PySem.W.Frag} {H : Hp} : ∀ {vs : List V} {Ls : List Lot}, LotAll K H vs Ls → vs.length = Ls.length
  | _, _, .nil => rfl
  | _, _, .cons a b => congrArg (· + 1) b.len
theorem LotAll.at {K : PySem.W.Frag} {H : Hp} : ∀ {vs : List V} {Ls : List Lot} {i : Nat} {v : V}, LotAll K H vs Ls → vs[i]? = some v → ∃ L, Ls[i]? = some L ∧ LotAt K H v L
  | _, _, 0, _, .cons a b, h => ⟨_, rfl, by cases h; exact a⟩
  | _, _, i + 1, _, .cons a b, h => LotAll.at (i := i) b h
theorem LotAll.snoc {K : PySem.W.Frag} {H : Hp} {v : V} {f : Lot} : ∀ {vs : List V} {fs : List Lot}, LotAll K H vs fs → LotAt K H v f → LotAll K H (vs ++ [v]) (fs ++ [f])
  | _, _, .nil, h => .cons h .nil
  | _, _, .cons a b, h => .cons a (b.snoc h)
theorem bodyM_snoc {sg : List Nat} {ls : List (List Nat)} {i : Nat} {l : List Nat} {acc : List Lot} (hi : ls[i]? = some l) : bodyM sg (ls.drop i) acc = match lotM sg (acc.map fun L => L.n) l with
    | none => .inr (acc.length + 2)
    | some L => bodyM sg (ls.drop (i + 1)) (acc ++ [L]) := by
  have hlt : i < ls.length := by
    rcases Nat.lt_or_ge i ls.length with h | h
    · exact h
    · rw [List.getElem?_eq_none h] at hi
      cases hi
  rw [List.drop_eq_getElem_cons hlt]
  rw [List.getElem?_eq_getElem hlt] at hi
  rw [Option.some.inj hi]
  rfl
def spRead (K : PySem.W.Frag) (CT : Addr) : Sp := fun vs H Q E => ∃ (sg : List Nat) (v : V), vs = [.str (S sg), v] ∧
  ((NoTx K H v ∧ ∀ H' d, Same H H' → H' d = none → E (.ref CT) (some d) (lineD d 0 H')) ∨ ∃ t : List Nat, v = .str (S t) ∧ TOk t ∧
    match pageM sg t with
    | .inr k => ∀ H' d, Same H H' → H' d = none → E (.ref CT) (some d) (lineD d k H')
    | .inl Ls => ∀ H' p vs, Same H H' → SqT K H' p vs → LotAll K H' vs Ls → Q (.ref p) H')
def stateL (d : Bool) : List Nat := if d then doneL else openL
def wordsL (L : Lot) : List (List Nat) := [lotL, numL L.n, stateL L.d, orDash (TL.joinL [44] (L.e.map numL)), orDash (TL.joinL [32] L.w)]
def lineL (L : Lot) : List Nat := TL.joinL [32] (wordsL L)
def pageT (Ls : List Lot) : List Nat := TL.joinL [10] (logL :: Ls.map lineL)
structure LotOk (L : Lot) : Prop where
  n : L.n < 10 ^ 40
  e : ∀ n ∈ L.e, n < 10 ^ 40
  el : L.e.length ≤ 20
  w : sumL L.w ≤ 1000
def spLine (K : PySem.W.Frag) : Sp := fun vs H Q _ => ∃ (v : V) (L : Lot), vs = [v] ∧ LotAt K H v L ∧ LotOk L ∧ ∀ H', Same H H' → Q (.str (S (lineL L))) H'
def spLogText (K : PySem.W.Frag) : Sp := fun vs H Q _ => ∃ (p : Addr) (vs' : List V) (Ls : List Lot), vs = [.ref p] ∧ SqT K H p vs' ∧ LotAll K H vs' Ls ∧ (∀ L ∈ Ls, LotOk L) ∧ Ls.length ≤ 100 ∧ ∀ H', Same H H' → Q (.str (S (pageT Ls))) H'
def tState : TE := fun σ H Q => ∃ d, σ[2]? = some (some (.bl d)) ∧ Q (.str (S (stateL d))) H
def tAhead (K : PySem.W.Frag) : TE := fun σ H Q => ∃ o0 o1 o2 pe o4 o5 o6 o7 es, σ = [o0, o1, o2, some (.ref pe), o4, o5, o6, o7] ∧ SqT K H pe (intsV es) ∧ (∀ n ∈ es, n < 10 ^ 40) ∧ es.length ≤ 20 ∧ ∀ H', Same H H' → Q (.str (S (orDash (TL.joinL [44] (es.map numL))))) H'
theorem log2_lt {n : Nat} (h : n < 10 ^ 40) : ((n : Nat) : Int).natAbs.log2 < 1920 := by
  rw [Int.natAbs_natCast]
  by_cases h0 : n = 0
  · subst h0
    decide
  · exact Nat.lt_trans ((Nat.log2_lt h0).mpr (Nat.lt_of_lt_of_le h (by decide : 10 ^ 40 ≤ 2 ^ 200))) (by decide)
theorem num_len {n : Nat} (h : n < 10 ^ 40) : (numL n).length ≤ 40 := TL.numL_len (by decide) h
theorem orDash_le {z : List Nat} {m : Nat} (h : z.length ≤ m) (hm : 1 ≤ m) : (orDash z).length ≤ m := by
  unfold orDash
  split
  · exact hm
  · exact h
theorem earl_sum' {es : List Nat} (h : ∀ n ∈ es, n < 10 ^ 40) (hl : es.length ≤ 20) : sumL (es.map numL) ≤ 820 := by
  have : ∀ es : List Nat, (∀ n ∈ es, n < 10 ^ 40) → sumL (es.map numL) ≤ es.length * 41 := by
    intro es
    induction es with
    | nil => exact fun _ => Nat.zero_le _
    | cons n es ih =>
      intro hn
      have h1 := ih fun m hm => hn m (List.mem_cons_of_mem _ hm)
      have h2 := num_len (hn n List.mem_cons_self)
      show ((numL n).length + 1) + sumL (es.map numL) ≤ (es.length + 1) * 41
      omega
  have h1 := this es h
  omega
theorem earl_sum {L : Lot} (h : LotOk L) : sumL (L.e.map numL) ≤ 820 := earl_sum' h.e h.el
theorem lineL_eq (L : Lot) : lineL L = lotL ++ [32] ++ numL L.n ++ [32] ++ stateL L.d ++ [32] ++ orDash (TL.joinL [44] (L.e.map numL)) ++ [32] ++ orDash (TL.joinL [32] L.w) := by
  unfold lineL wordsL
  simp [TL.joinL]
theorem state_len (d : Bool) : (stateL d).length ≤ 4 := by cases d <;> decide
theorem lineL_len {L : Lot} (h : LotOk L) : (lineL L).length ≤ 2000 := by
  rw [lineL_eq]
  have h1 := num_len h.n
  have h2 := state_len L.d
  have h3 := orDash_le (Nat.le_trans (joinL_le 44 (L.e.map numL)) (earl_sum h)) (by decide)
  have h4 := orDash_le (Nat.le_trans (joinL_le 32 L.w) h.w) (by decide)
  simp only [List.length_append, List.length_singleton]
  show 3 + 1 + _ + 1 + _ + 1 + _ + 1 + _ ≤ 2000
  omega
section
variable {P : Program} {w : World} {K : PySem.W.Frag} {mg : Str → Option Value} {base : Heap} {CT : Addr}
theorem ok_log_read {f fL fE : Addr} {fd fdL : FuncData} (F : Fun K "log_read" "log_read" s_log_read f fd) (B : Blt mg)
    (FL : Fun K "lot_read" "lot_read" s_lot_read fL fdL) (gL : mg "lot_read" = some (.ref fL)) (bL : Binds K fdL ["letters", "line", "known"] []) (GL : FnOk P w K mg base CX0 4 fL fdL ["letters", "line", "known"] (spLotRead K))
    (T : MqE_line.Txt K mg "BadText" "BadText.__init__" CT fE) :
    FnOk P w K mg base (L2.CX P w) 5 f fd ["letters", "text"] (spRead K CT) := by
  refine F.okX sc_log_read (fun vs H Q E h => ?_) (fun cdv A outer s H vs Q E hr h => ?_)
  · obtain ⟨_, _, rfl, _⟩ := h
    rfl
  · obtain ⟨sg, v, rfl, h⟩ := h
    refine ⟨_, (pss_cons (ps_if (pt_not (pt_val (pe_callB call_isi (by rfl) B.isi (by decide +kernel) (pa_cons (pv 1) (pa_cons (pe_bltn (v := .ty "str") (by rfl) B.str (by decide +kernel) rfl) pa_nil))))) (pss_one (MqE_line.ps_raise rfl T hr (takes_of rfl rfl rfl rfl) (pa_cons pe_int pa_nil))) pss_nil)
      (pss_cons (ps_set (i := 2) sc_log_read.nd rfl (Or.inl rfl) (pe_split (pv 1) pe_str))
      (pss_cons (ps_if (pt_cmpR op_ne (pe_ix ix_list (pv 2) pe_int (fun _ _ => rfl)) pe_str (nomark _)) (pss_one (MqE_line.ps_raise rfl T hr (takes_of rfl rfl rfl rfl) (pa_cons pe_int pa_nil))) pss_nil)
      (pss_cons (ps_set (i := 3) sc_log_read.nd rfl (Or.inl rfl) (Mq.pe_ls pa_nil))
      (pss_cons (ps_for (passes_of rfl) rfl (pi_list (pe_slice sl_list (pv 2) (po_some pe_int) po_none)) (pg_name (i := 4) sc_log_read.nd rfl (Or.inl rfl))
        (pss_cons (ps_set (i := 5) sc_log_read.nd rfl (Or.inl rfl) (pe_call GL (hr.mono (by decide)) (by rfl) gL FL.kp bL .nil pass0 (pa_cons (pv 0) (pa_cons (pv 4) (pa_cons (pe_lc (own := [("known", 6)]) (g := gName 6) (tt := tYes) rfl sc_log_read.nd (pi_list (pv 3)) (blkOk_by (own := [("known", 6)]) (N := ["letters", "text", "lines", "lots", "line", "lot", "known"]) (sc := defScope s_log_read) (by decide +kernel)) (fun _ _ _ _ _ => pg_name (i := 6) sc_log_read.nd rfl (Or.inl rfl)) (fun _ _ _ _ _ => pts_nil) (fun _ _ _ _ _ => (pe_ix (ix_tupK (K := K) rfl) (pv 6) pe_int (fun _ _ => rfl)))) pa_nil)))))
        (pss_cons (ps_if (pt_cmpR op_isN (pv 5) pe_non (nomark _)) (pss_one (MqE_line.ps_raise rfl T hr (takes_of rfl rfl rfl rfl) (pa_cons (pe_op op_add (pe_callB call_len_seq (by rfl) B.len (by decide +kernel) (pa_cons (pv 3) pa_nil)) pe_int) pa_nil))) pss_nil)
        (pss_one (ps_expr (pe_bm PySem.F.plainAttrs_list PySem.F.slot_list_append PySem.F.type_list_append mt_append (pv 3) (pa_cons (pv 5) pa_nil)))))))
      (pss_one (ps_ret (pe_callTy call_tuple_of (by rfl) B.tuple (by decide +kernel) (pa_cons (pv 3) pa_nil))))))))), ?_⟩
    rcases h with ⟨⟨c, ty, kt⟩, q⟩ | ⟨t, rfl, ht, q⟩
    · exact ⟨_, rfl, _, .ty "str", _, _, false, rfl, .ty _, ty, kt, false, rfl, ifT rfl ⟨_, rfl, fun d hd => q H d (Same.refl H) hd⟩⟩
    refine ⟨_, rfl, _, .ty "str", _, _, true, rfl, .ty _, .base (.str _), kit_self, true, rfl, ifF rfl ?_⟩
    have hz : (S t).length = t.length := SX.S_len t
    have htl := ht.few
    refine ⟨_, rfl, ⟨_, rfl⟩, S t, S [10], rfl, rfl, rfl, sz_le (by omega), fun p hp => ?_⟩
    rw [spl_S, map_SV]
    have s1 := same_new (o := HO.lst (txs (spl 10 t))) hp
    have z1 : upd H p (.lst (txs (spl 10 t))) p = some (.lst (txs (spl 10 t))) := upd_same
    generalize upd H p (.lst (txs (spl 10 t))) = H1 at s1 z1 ⊢
    have hn : ∀ x ∈ spl 10 t, x.length ≤ 4000 := fun x hx => Nat.le_trans (spl_len hx) htl
    have hw := spl_low (c := 10) ht.low
    have hpar := ht.par
    have hne := spl_ne 10 t
    have hm : (spl 10 t).length ≤ 4001 := Nat.le_trans (spl_many 10 t) (by omega)
    unfold pageM at q
    generalize spl 10 t = lines at z1 hn hw hne hm hpar q ⊢
    match lines, hne, q with
    | l0 :: ls, _, q =>
      dsimp only at q
      refine ⟨_, rfl, p, _, 0, _, rfl, rfl, SqL.of z1, at_line (i := 0) rfl, rfl, _, rfl, ?_⟩
      rw [show decide (V.str (S l0) = V.str "log") = decide (l0 = logL) from S_dec l0 logL]
      by_cases c0 : l0 = logL
      rotate_left
      · rw [decide_eq_false c0]
        rw [if_neg c0] at q
        exact ifT rfl ⟨_, rfl, fun d hd => q H1 d s1 hd⟩
      rw [decide_eq_true c0]
      rw [if_pos c0] at q
      refine ifF rfl ⟨sz_le (n := 0) (by decide), fun L hL _ => ?_⟩
      have s2 := same_new (o := HO.lst []) hL
      have z2 : upd H1 L (.lst []) L = some (.lst []) := upd_same
      have z12 := s2 _ _ z1
      generalize upd H1 L (.lst []) = H2 at s2 z2 z12 ⊢
      refine ⟨_, rfl, 1, rfl, p, _, rfl, SqL.of z12, fun p3 hp3 => ?_⟩
      rw [show cutV ((l0 :: ls).map fun l => V.str (S l)) (some 1) none = txs ls from cut_tail _ _]
      have s3 := same_new (o := HO.lst (txs ls)) hp3
      have z3 : upd H2 p3 (.lst (txs ls)) p3 = some (.lst (txs ls)) := upd_same
      have z23 := s3 _ _ z2
      have hp3L : p3 ≠ L := by
        rintro rfl
        rw [z2] at hp3
        cases hp3
      have s13 := s2.trans s3
      generalize upd H2 p3 (.lst (txs ls)) = H3 at z3 z23 s13 ⊢
      rw [List.length_cons] at hm
      refine ⟨p3, rfl, ⟨_, SqL.of z3⟩, ?_⟩
      refine for_list (xs := txs ls) (fun i σ H' => Same H1 H' ∧ H' p3 = some (.lst (txs ls)) ∧ ∃ vs acc o4 o5 o6, H' L = some (.lst vs) ∧ LotAll K H' vs acc ∧ acc.length = i ∧ bodyM sg (ls.drop i) acc = bodyM sg ls [] ∧
        σ = [some (.str (S sg)), some (.str (S t)), some (.ref p), some (.ref L), o4, o5, o6]) ⟨s13, z3, [], [], _, _, _, z23, .nil, rfl, rfl, rfl⟩ (fun i σ H' _ pp => SqL.of pp.2.1) ?_ ?_
      · rintro i x σ H4 hx ⟨s4, z4, vs, acc, o4, o5, o6, hv, ha, hlen, hb, rfl⟩
        obtain ⟨l, hi, rfl⟩ : ∃ l, ls[i]? = some l ∧ x = .str (S l) := by
          rw [List.getElem?_map] at hx
          cases e : ls[i]? with
          | none => rw [e] at hx; cases hx
          | some l => rw [e] at hx; cases hx; exact ⟨l, rfl, rfl⟩
        have hil : i < ls.length := by
          rcases Nat.lt_or_ge i ls.length with h | h
          · exact h
          · rw [List.getElem?_eq_none h] at hi
            cases hi
        have hll := hn l (List.mem_cons_of_mem _ (List.mem_of_getElem? hi))
        have hlw := hw l (List.mem_cons_of_mem _ (List.mem_of_getElem? hi))
        have hlp := hpar l (List.mem_cons_of_mem _ (List.mem_of_getElem? hi))
        rw [bodyM_snoc hi] at hb
        have hvl : vs.length = acc.length := ha.len
        refine ⟨_, rfl, _, rfl, _, rfl, L, rfl, ⟨_, SqL.of hv⟩, fun L2 hL2 => ?_⟩
        refine lc_yes (walk_list (a := L) (xs := vs)) (fun j H' => Same H4 H' ∧ H' L2 = some (.lst (intsV ((acc.take j).map fun L => L.n)))) ⟨same_new hL2, upd_same⟩ (fun _ _ _ pp => SqL.of (pp.1 _ _ hv)) ?_ ?_
        · rintro j y H5 H6 hj ⟨s5, zL2⟩ ⟨rfl, hy⟩
          obtain ⟨L', hL', pp, pe, pw, rfl, hpp, _⟩ := ha.at hy
          refine ⟨rfl, _, rfl, pp, _, 0, _, rfl, rfl, Same.tup s5 hpp, atI_nat (j := 0) rfl, _, zL2, sz_lt (by rw [List.length_map, List.length_map, List.length_take]; omega), push_same hL2 s5, ?_⟩
          rw [upd_same, List.take_add_one, hL', List.map_append]
          exact congrArg (fun z => some (HO.lst z)) (List.map_append (f := fun n : Nat => V.int ((n : Nat) : Int)) (l₁ := (acc.take j).map fun L => L.n) (l₂ := [L'.n])).symm
        · rintro H5 ⟨s5, zL2⟩
          rw [List.take_of_length_le (by omega)] at zL2
          refine ⟨sg, l, acc.map fun L => L.n, L2, rfl, SqL.of zL2, by omega, hlw, hlp, fun H6 v6 s6 hv6 => ?_⟩
          have s46 := s5.trans s6
          have s16 := s4.trans s46
          have hv66 := s46 _ _ hv
          have ha6 := ha.kp (KpT.same s46)
          have z46 := s46 _ _ z4
          cases hfm : lotM sg (acc.map fun L => L.n) l with
          | none =>
            rw [hfm] at hb hv6
            cases (show v6 = .non from hv6)
            have e : bodyM sg ls [] = .inr (acc.length + 2) := hb.symm
            refine ⟨_, rfl, rfl, _, rfl, ifT rfl ⟨_, rfl, L, _, rfl, .inl (SqL.of hv66), _, _, rfl, rfl, _, rfl, fun d hd => ?_⟩⟩
            rw [e] at q
            have q' := q H6 d (s1.trans s16) hd
            unfold lineD at q'
            rw [hvl]
            exact q'
          | some Lt =>
            rw [hfm] at hb hv6
            have hlt : LotAt K H6 v6 Lt := hv6
            obtain ⟨pp, pe, pw, rfl, h1, h2, h3⟩ := hlt
            refine ⟨_, rfl, rfl, _, rfl, ifF rfl ?_⟩
            refine ⟨_, rfl, Or.inl ⟨rfl, _, SqL.of hv66⟩, _, rfl, L, _, _, rfl, rfl, hv66, sz_lt (by omega), push_same hL s16, (upd_ne hp3L).trans z46, vs ++ [.ref pp], acc ++ [Lt], _, _, _, upd_same, ?_, ?_, hb, rfl⟩
            · exact (ha6.snoc ⟨pp, pe, pw, rfl, h1, h2, h3⟩).kp (KpT.lst hv66)
            · rw [List.length_append, hlen]
              rfl
      · rintro σ H4 ⟨s4, z4, vs, acc, o4, o5, o6, hv, ha, hlen, hb, rfl⟩
        rw [List.drop_of_length_le (by rw [List.length_map]; exact Nat.le_refl _)] at hb
        have hb' : bodyM sg ls [] = .inl acc := hb.symm
        rw [hb'] at q
        refine ⟨_, rfl, L, vs, rfl, Or.inl ⟨SqL.of hv, fun fa hfa => ?_⟩⟩
        have s5 := same_new (o := HO.tup vs) hfa
        exact q _ fa vs ((s1.trans s4).trans s5) (Or.inl (Or.inl upd_same)) (ha.kp (KpT.same s5))
theorem ok_lot_line {f fW : Addr} {fd fdW : FuncData} (F : Fun K "lot_line" "lot_line" s_lot_line f fd) (B : Blt mg)
    (FW : Fun K "weft_text" "weft_text" s_weft_text fW fdW) (gW : mg "weft_text" = some (.ref fW)) (bW : Binds K fdW ["weft"] []) (GW : FnOk P w K mg base CX0 1 fW fdW ["weft"] (spWeftText K)) :
    FnOk P w K mg base CX0 2 f fd ["lot"] (spLine K) := by
  refine F.ok sc_lot_line (fun vs H Q E h => ?_) (fun cdv A outer s H vs Q E hr h => ?_)
  · obtain ⟨_, _, rfl, _⟩ := h
    rfl
  · obtain ⟨v, L, rfl, ⟨p, pe, pw, rfl, hp, hpe, hpw⟩, hok, q⟩ := h
    refine ⟨_, (pss_cons (ps_asg (pv 0) (pg_tup rfl (pgs_cons (pg_name (i := 1) sc_lot_line.nd rfl (Or.inl rfl)) (pgs_cons (pg_name (i := 2) sc_lot_line.nd rfl (Or.inl rfl)) (pgs_cons (pg_name (i := 3) sc_lot_line.nd rfl (Or.inl rfl)) (pgs_cons (pg_name (i := 4) sc_lot_line.nd rfl (Or.inl rfl)) pgs_nil))))))
      (pss_cons (ps_set (i := 5) sc_lot_line.nd rfl (Or.inl rfl) (PE_imp (t' := tState) (pe_ifExp (pt_val (pv 2)) pe_str pe_str) (fun σ H Q h => by
          obtain ⟨d, h2, q⟩ := h
          refine ⟨_, h2, d, rfl, ?_⟩
          cases d with
          | true => exact ifT rfl q
          | false => exact ifF rfl q)))
      (pss_cons (ps_set (i := 6) sc_lot_line.nd rfl (Or.inl rfl) (PE_imp (t' := tAhead K) (pe_orT (pe_join pe_str (pe_lc (own := [("one", 7)]) (g := gName 7) (tt := tYes) rfl sc_lot_line.nd (pi_tup (pv 3)) (blkOk_by (own := [("one", 7)]) (N := ["lot", "number", "is_handed", "earlier", "weft", "state", "ahead", "one"]) (sc := defScope s_lot_line) (by decide +kernel)) (fun _ _ _ _ _ => pg_name (i := 7) sc_lot_line.nd rfl (Or.inl rfl)) (fun _ _ _ _ _ => pts_nil) (fun _ _ _ _ _ => (pe_callTy call_str_int (by rfl) B.str (by decide +kernel) (pa_cons (pv 7) pa_nil))))) (pe_one pe_str)) (fun σ H Q h => by
          obtain ⟨o0, o1, o2, pe, o4, o5, o6, o7, es, rfl, hpe, hn, hl, q⟩ := h
          have hes := earl_sum' hn hl
          refine ⟨⟨_, rfl⟩, _, rfl, pe, rfl, ⟨_, hpe⟩, fun D hD => ?_⟩
          refine lc_yes (walk_tup (a := pe) (xs := intsV es)) (fun i H' => Same H H' ∧ H' D = some (.lst (txs ((es.take i).map numL)))) ⟨same_new hD, upd_same⟩ (fun _ _ _ pp => Same.tup pp.1 hpe) ?_ ?_
          · rintro i x H2 H3 hi ⟨s2, zD⟩ ⟨rfl, hx⟩
            rw [List.length_map] at hi
            rw [List.getElem?_map, List.getElem?_eq_getElem hi] at hx
            cases hx
            refine ⟨rfl, _, rfl, _, rfl, log2_lt (hn _ (List.getElem_mem hi)), _, zD, sz_lt (by rw [List.length_map, List.length_map, List.length_take]; omega), push_same hD s2, ?_⟩
            rw [upd_same, List.take_add_one, List.getElem?_eq_getElem hi, List.map_append, SX.num_S]
            exact congrArg (fun z => some (HO.lst z)) (List.map_append (f := fun l : List Nat => V.str (S l)) (l₁ := (es.take i).map numL) (l₂ := [numL es[i]])).symm
          · rintro H2 ⟨s2, zD⟩
            rw [List.length_map, List.take_length] at zD
            refine ⟨S [44], D, (es.map numL).map S, rfl, rfl, Or.inl (SqL.of (zD.trans (by rw [map_SV]))), by rw [join_bound]; omega, ?_⟩
            rw [SX.join_S]
            have hj := joinL_le 44 (es.map numL)
            have q1 := q H2 s2
            unfold orDash at q1
            generalize TL.joinL [44] (es.map numL) = z at hj q1 ⊢
            refine ⟨_, ⟨sz_le (by rw [SX.S_len]; omega), rfl⟩, ?_⟩
            rw [SX.S_len]
            cases z with
            | nil => exact ifF rfl q1
            | cons a b => exact ifT (by simp; omega) q1)))
      (pss_one (ps_ret (pe_joined (.cons pe_str (.cons (pe_fmt (pv 1)) (.cons pe_str (.cons (pe_fmt (pv 5)) (.cons pe_str (.cons (pe_fmt (pv 6)) (.cons pe_str (.cons (pe_fmt (pe_call GW (hr.mono (by decide)) (by rfl) gW FW.kp bW .nil pass0 (pa_cons (pv 4) pa_nil))) .nil)))))))))))))), ?_⟩
    refine ⟨_, rfl, p, _, rfl, hp, rfl, _, _, rfl, _, _, rfl, _, _, rfl, _, _, rfl, rfl, ?_⟩
    have hes := earl_sum hok
    have hjoin : (TL.joinL [44] (L.e.map numL)).length ≤ 820 := Nat.le_trans (joinL_le 44 _) hes
    refine ⟨L.d, rfl, ?_⟩
    refine ⟨_, _, _, pe, _, _, _, _, L.e, rfl, hpe, hok.e, hok.el, fun H1 s1 => ?_⟩
    have hnl := num_len hok.n
    have hst := state_len L.d
    have hwl := orDash_le (Nat.le_trans (joinL_le 32 L.w) hok.w) (by decide)
    have hal := orDash_le hjoin (by decide)
    have l0 : (Str.empty ++ ("lot " : Str)).length ≤ 4 := by decide
    have l1 := app_le l0 (S_le hnl)
    have l2 := app_le l1 (S_le (l := [32]) (n := 1) (Nat.le_refl _))
    have l3 := app_le l2 (S_le hst)
    have l4 := app_le l3 (S_le (l := [32]) (n := 1) (Nat.le_refl _))
    have l5 := app_le l4 (S_le hal)
    have l6 := app_le l5 (S_le (l := [32]) (n := 1) (Nat.le_refl _))
    have l7 := app_le l6 (S_le hwl)
    have e : Str.empty ++ ("lot " : Str) ++ S (numL L.n) ++ S [32] ++ S (stateL L.d) ++ S [32] ++ S (orDash (TL.joinL [44] (L.e.map numL))) ++ S [32] ++ S (orDash (TL.joinL [32] L.w)) = S (lineL L) := by
      rw [lineL_eq, show Str.empty ++ ("lot " : Str) = S (lotL ++ [32]) by decide +kernel]
      simp only [SX.S_cat]
    refine ⟨_, rfl, sz_le (Nat.le_trans l0 (by decide)), _, rfl, Or.inr ⟨_, rfl, log2_lt hok.n, S (numL L.n), congrArg V.str (SX.num_S L.n), sz_le (Nat.le_trans l1 (by decide)), ?_⟩⟩
    refine ⟨S [32], rfl, sz_le (Nat.le_trans l2 (by decide)), _, rfl, Or.inl ⟨S (stateL L.d), rfl, sz_le (Nat.le_trans (S_le hst) (by decide)), S (stateL L.d), rfl, sz_le (Nat.le_trans l3 (by decide)), ?_⟩⟩
    refine ⟨S [32], rfl, sz_le (Nat.le_trans l4 (by decide)), _, rfl, Or.inl ⟨S (orDash (TL.joinL [44] (L.e.map numL))), rfl, sz_le (Nat.le_trans (S_le hal) (by decide)), S (orDash (TL.joinL [44] (L.e.map numL))), rfl, sz_le (Nat.le_trans l5 (by decide)), ?_⟩⟩
    refine ⟨S [32], rfl, sz_le (Nat.le_trans l6 (by decide)), _, rfl, pw, L.w, rfl, Same.tup s1 hpw, Nat.le_trans hok.w (by decide), Or.inl ⟨S (orDash (TL.joinL [32] L.w)), rfl, sz_le (Nat.le_trans (S_le hwl) (by decide)), S (orDash (TL.joinL [32] L.w)), rfl, sz_le (Nat.le_trans l7 (by decide)), ?_⟩⟩
    show Q (V.str _) H1
    rw [e]
    exact q H1 s1
theorem ok_log_text {f fL : Addr} {fd fdL : FuncData} (F : Fun K "log_text" "log_text" s_log_text f fd)
    (FL : Fun K "lot_line" "lot_line" s_lot_line fL fdL) (gL : mg "lot_line" = some (.ref fL)) (bL : Binds K fdL ["lot"] []) (GL : FnOk P w K mg base CX0 2 fL fdL ["lot"] (spLine K)) :
    FnOk P w K mg base CX0 3 f fd ["log"] (spLogText K) := by
  refine F.ok sc_log_text (fun vs H Q E h => ?_) (fun cdv A outer s H vs Q E hr h => ?_)
  · obtain ⟨_, _, _, rfl, _⟩ := h
    rfl
  · obtain ⟨p, xs, Ls, rfl, hp, hall, hok, hl, q⟩ := h
    refine ⟨_, (pss_cons (ps_setLc (i := 1) (own := [("lot", 2)]) (g := gName 2) (tt := tYes) rfl sc_log_text.nd rfl rfl (sw_true rfl rfl rfl (by decide +kernel)) (pi_tup (pv 0)) (blkOk_by (own := [("lot", 2)]) (N := ["log", "lines", "lot"]) (sc := defScope s_log_text) (by decide +kernel)) (fun _ _ _ _ _ => pg_name (i := 2) sc_log_text.nd rfl (Or.inl rfl)) (fun _ _ _ _ _ => pts_nil) (fun _ _ _ _ _ => (pe_call GL (hr.mono (by decide)) (by rfl) gL FL.kp bL .nil pass0 (pa_cons (pv 2) pa_nil))))
      (pss_one (ps_ret (pe_join pe_str (Mq.pe_ls (pa_cons pe_str (StX.pa_star (pv 1) pa_nil))))))), ?_⟩
    have hxl : xs.length = Ls.length := hall.len
    refine ⟨_, rfl, p, rfl, ⟨_, hp⟩, fun D hD => ?_⟩
    refine lc_yes (walk_tup (a := p) (xs := xs)) (fun i H' => Same H H' ∧ H' D = some (.lst (txs ((Ls.take i).map lineL)))) ⟨same_new hD, upd_same⟩ (fun _ _ _ pp => Same.tup pp.1 hp) ?_ ?_
    · rintro i x H2 H3 hi ⟨s2, zD⟩ ⟨rfl, hx⟩
      obtain ⟨L, hL, hat⟩ := hall.at hx
      refine ⟨rfl, _, rfl, x, L, rfl, hat.kp (KpT.same s2), hok L (List.mem_of_getElem? hL), fun H4 s4 => ?_⟩
      refine ⟨_, s4 _ _ zD, sz_lt (by rw [List.length_map, List.length_map, List.length_take]; omega), push_same hD (s2.trans s4), ?_⟩
      rw [upd_same, List.take_add_one, hL, List.map_append]
      exact congrArg (fun z => some (HO.lst z)) (List.map_append (f := fun l : List Nat => V.str (S l)) (l₁ := (Ls.take i).map lineL) (l₂ := [lineL L])).symm
    · rintro H2 ⟨s2, zD⟩
      rw [hxl, List.take_length] at zD
      refine ⟨⟨_, rfl⟩, _, rfl, D, _, rfl, Or.inr (SqL.of zD), ?_, fun p2 hp2 _ => ?_⟩
      · rw [List.append_nil, List.length_cons, List.length_map, List.length_map]
        exact sz_le (by omega)
      · rw [List.append_nil]
        have s3 := same_new (o := HO.lst (V.str "log" :: txs (Ls.map lineL))) hp2
        have hsum : sumL (logL :: Ls.map lineL) ≤ 1000000 := by
          have : ∀ gs : List Lot, (∀ f ∈ gs, LotOk f) → sumL (gs.map lineL) ≤ gs.length * 2001 := by
            intro gs
            induction gs with
            | nil => exact fun _ => Nat.zero_le _
            | cons g gs ih =>
              intro hg
              have h3 := ih fun f hf => hg f (List.mem_cons_of_mem _ hf)
              have h4 := lineL_len (hg g List.mem_cons_self)
              show ((lineL g).length + 1) + sumL (gs.map lineL) ≤ (gs.length + 1) * 2001
              omega
          have h5 := this Ls hok
          show (3 + 1) + sumL (Ls.map lineL) ≤ _
          omega
        refine ⟨S [10], p2, (logL :: Ls.map lineL).map S, rfl, rfl, Or.inl (SqL.of (upd_same.trans (by rw [map_SV]; rfl))), by rw [join_bound]; omega, ?_⟩
        rw [SX.join_S]
        exact q _ (s2.trans s3)
end
end Lw

/-! Mq50: set(list of ints). -/
namespace Mq
open PySem PySem.Spec PyProof.Rows L2
section
variable {P : Program} {w : World} {A : Around} {E : Value → Shared → Prop} {s : Shared}
set_option maxHeartbeats 3200000 in
theorem call_set_lstI {l : Addr} {items : Array Value} (ns : List Int) {Q : Value → Shared → Prop} (hh : A.handled = none) (hl : s.heap.IsList l items) (hit : IntsAre items.toList ns) (hb : ns.length + 1 < scanBound)
    (h : ∀ (h' : Heap) (tk c : Nat), SetR w h' s.heap.objs.size (fun j => decide (j ∈ ns)) c → c ≤ ns.length → (∀ b o, s.heap.get? b = some o → h'.get? b = some o) → Q (.ref s.heap.objs.size) { s with heap := h', toks := tk }) :
    wpAny (model P w) A (call (.type "set") [.ref l]) Q E s := by
  obtain ⟨c, tl, hmro⟩ := PySem.F.called_set.mro
  have hmade := PySem.F.called_set.made
  have hsub := PySem.F.called_set.sub
  refine wpAny_call (codeAny_of_tree ?_)
  show wpAny _ _ (callAny (.type "set") _) _ _ _
  refine wpAny_pure ⟨Code.quiet_builtin _ (by decide +kernel), codeAny_builtin PySem.F.entry_type_call ?_⟩
  rw [Around.under_plain (weight_type_call_type "set" [.ref l] []) rfl]
  have h1 := PySem.F.called_set.notType
  have h2 := PySem.F.called_set.canCreate
  have hct := PySem.F.typeCall_set_1 (.ref l)
  repeat (any_goals (first | assumption | wp_step))
  refine codeAny_mono (code_set_led1 (.ref l) (E := E) (Q₁ := fun obj s₁ => obj = .ref s.heap.objs.size ∧ s₁ = { s with heap := s.heap.push (PySem.Froz.emptyO w) }) ⟨rfl, rfl⟩) fun r s₁ hr => ?_
  cases r with
  | error e => exact hr
  | ok fl =>
    cases fl with
    | ret obj =>
      obtain ⟨rfl, rfl⟩ := hr
      have hS : (s.heap.push (PySem.Froz.emptyO w)).get? s.heap.objs.size = some (PySem.Froz.emptyO w) := Heap.get?_push_size _ rfl
      have hT : Shared.TypeIs { s with heap := s.heap.push (PySem.Froz.emptyO w) } (.ref s.heap.objs.size) "set" := ⟨_, hS, rfl⟩
      have hli := PySem.F.called_set.init.lookup
      have hbi := PySem.F.called_set.init.bind (.ref s.heap.objs.size)
      repeat (any_goals (first | assumption | wp_step))
      refine codeAny_mono (codeAny_call_builtin (R := wants (fun r s₂ => r = .none ∧ ∃ h' tk c, s₂ = { s with heap := h', toks := tk } ∧ SetR w h' s.heap.objs.size (fun j => decide (j ∈ ns)) c ∧ c ≤ ns.length ∧
          (∀ b o, s.heap.get? b = some o → h'.get? b = some o)) E) PySem.F.called_set.init.plain PySem.F.entry_set_init (check_set_init_1 hT ?_)) fun r₂ s₂ hr₂ => ?_
      · have hisz : items.size = ns.length := by
          have q := IntsAre.length hit
          rw [Array.length_toList] at q
          exact q
        obtain ⟨ol, hol, hcl, nl, hdl⟩ := hl
        obtain ⟨ocls, odict, odata, oslots⟩ := ol
        simp only at hcl hdl
        subst hcl; subst hdl
        have hlS : l < s.heap.objs.size := Heap.lt_size hol
        have hol' : (s.heap.push (PySem.Froz.emptyO w)).get? l = some { cls := .type "list", dict := odict, data := .seq items nl, slots := oslots } := Heap.get?_push_of_some _ hol
        have hsls := PySem.F.sub_list_set
        have hslf := PySem.F.sub_list_frozenset
        have hne : (Value.type "list" == Value.type "dict") = false := by decide
        have hl1 : (s.heap.push (PySem.Froz.emptyO w)).IsList l items := ⟨_, hol', rfl, nl, rfl⟩
        have hsz1 : (s.heap.push (PySem.Froz.emptyO w)).objs.size = s.heap.objs.size + 1 := Heap.size_push ..
        unfold Builtin.«set.__init__» noKeywords Builtin.Frozenset.updateFrom
        generalize hPI : pyIter = PI
        unfold PySem.Froz.emptyO at hS hT hol' hl1 hsz1 ⊢
        wp_walk
        subst hPI
        refine wpAny_pyIter_list hl1 ?_
        refine wpAny_bind (wpAny_runValue ?_)
        refine set_update_ints ((Walks.list (by simp [hh]) _ l (by rw [hsz1]; exact Nat.ne_of_lt (Nat.lt_succ_of_lt hlS)) items).toS) s.heap.objs.size ?hSf ns hisz hb (fun i v hv => ?hval) (items.size - 0) 0 _ (by omega) (Nat.zero_le _)
          ⟨⟨_, Heap.get?_push_size _ rfl, rfl, rfl⟩, (hl1.push _)⟩ ⟨0, Nat.le_refl 0, setR_new_at (Heap.get?_push_of_some _ hS)⟩ fun s' c' hm hc' hS' => ?hR
        case hSf =>
          rw [hsz1]
          simp only [List.mem_cons, List.not_mem_nil, or_false, not_or]
          exact ⟨Nat.ne_of_lt (Nat.lt_succ_self _), Nat.ne_of_gt hlS⟩
        case hval =>
          have hi : i < ns.length := by rw [← hisz]; exact (Array.getElem?_eq_some_iff.mp hv).1
          obtain ⟨t, e⟩ := PyProof.Rows.IntsAre.int_at hit i v (by rw [Array.getElem?_toList]; exact hv)
          exact ⟨ns[i], t, List.getElem?_eq_getElem hi, by rw [e, List.getD_eq_getElem?_getD, List.getElem?_eq_getElem hi] <;> rfl⟩
        case hR =>
          obtain ⟨h', g2, d', tk', os'⟩ := s'
          have eg : g2 = s.gens := hm.gens
          have ed : d' = s.drawn := hm.drawn
          have eo : os' = s.os := hm.os
          subst eg; subst ed; subst eo
          show wpAny _ _ _ _ _ _
          refine wpAny_pure ?_
          show wpAny _ _ (ret Value.none) _ _ _
          rw [hisz] at hc'
          refine wpAny_pure ⟨rfl, h', tk', c', rfl, hS', hc', fun b o' e => ?_⟩
          have hb0 : b < s.heap.objs.size := Heap.lt_size e
          refine hm.heap b o' (fun z => ?_) (Heap.get?_push_of_some _ (Heap.get?_push_of_some _ e))
          rcases List.mem_cons.mp z with z | z
          · exact Nat.ne_of_lt hb0 z
          · have z2 := List.mem_singleton.mp z
            rw [hsz1] at z2
            exact absurd hb0 (by rw [z2]; exact Nat.not_lt_of_le (Nat.le_succ _))
      · cases r₂ with
        | error e => exact hr₂
        | ok fl₂ =>
          cases fl₂ with
          | ret r =>
            obtain ⟨rfl, h', tk, l, rfl, hS', hc', hk'⟩ := hr₂
            repeat (any_goals (first | assumption | wp_step))
            exact h _ _ _ hS' hc' hk'
          | _ => exact hr₂.elim
    | _ => exact hr.elim
end
section
variable {X : Cx}
/-- set(list of ints) -/
def rSetLI (X : Cx) : List V → Hp → VK → Prop := fun xs H Q => ∃ (l : Addr) (ns : List Int), xs = [V.ref l] ∧ SqL X.K H l (ns.map V.int) ∧ ns.length + 1 < scanBound ∧
  ∀ (p : Addr) (c : Nat), H p = none → c ≤ ns.length → Q (.ref p) (upd H p (SetO X.w p (fun j => decide (j ∈ ns)) c))
theorem cr_setLI (hc : X.calm = true) : CallR X (.type "set") (rSetLI X) := by
  intro pins s σ H xs us Q I r h
  obtain ⟨l, ns, rfl, hl, hb, q⟩ := h
  rw [Vals.ref1 r]
  obtain ⟨its, rv, pl, hz⟩ := I.list hl
  have hn : H s.heap.objs.size = none := I.hok.fresh (Nat.le_refl _)
  refine call_set_lstI ns (I.ok.hd hc) pl.isList (ints_of_vals rv) hb fun h' tk c R hc2 k => ?_
  exact ⟨.ref s.heap.objs.size, upd H s.heap.objs.size (SetO X.w s.heap.objs.size (fun j => decide (j ∈ ns)) c), I.laid (t' := tk) k (Nat.le_refl _) (setO_new R), rfl, q _ c hn hc2⟩
end
end Mq

namespace Lw
open PySem PySem.Spec PyProof.Rows L2 Mq
open SX (S)
/-! ### the law's own items and numbers -/
def itemsL (sg : List Nat) : List (List Nat) := ([[63, 45]] ++ (sg.map fun c => [63, c])) ++ sg.map fun c => [c]
theorem inV_txs (w : List Nat) (ws : List (List Nat)) : inV (.str (S w)) (txs ws) = decide (w ∈ ws) := by
  unfold inV txs
  rw [List.any_map, Bool.eq_iff_iff, List.any_eq_true, decide_eq_true_eq]
  constructor
  · rintro ⟨u, hu, h⟩
    have h2 : S u = S w := of_decide_eq_true h
    rw [← SX.S_inj h2]
    exact hu
  · exact fun h => ⟨w, h, decide_eq_true rfl⟩
theorem items_mem (sg w : List Nat) : decide (w ∈ itemsL sg) = itemB sg w := by
  unfold itemsL itemB
  rw [Bool.eq_iff_iff, decide_eq_true_eq, List.mem_append, List.mem_append, List.mem_singleton, List.mem_map, List.mem_map]
  simp only [Bool.or_eq_true, Bool.and_eq_true, decide_eq_true_eq]
  constructor
  · rintro ((rfl | ⟨c, hc, rfl⟩) | ⟨c, hc, rfl⟩)
    · exact Or.inr (Or.inl rfl)
    · exact Or.inr (Or.inr ⟨rfl, decide_eq_true hc⟩)
    · exact Or.inl (decide_eq_true hc)
  · rintro (h | rfl | ⟨h1, h2⟩)
    · obtain ⟨c, rfl, hc⟩ := letB_one h
      exact Or.inr ⟨c, hc, rfl⟩
    · exact Or.inl (Or.inl rfl)
    · obtain ⟨c, e, hc⟩ := letB_one h2
      refine Or.inl (Or.inr ⟨c, hc, ?_⟩)
      have := List.take_append_drop 1 w
      rw [h1, e] at this
      exact this
def spItems : Sp := fun vs H Q _ => ∃ sg : List Nat, vs = [.str (S sg)] ∧ sg.length ≤ 1000 ∧ ∀ H' p, Same H H' → H p = none → H' p = some (.lst (txs (itemsL sg))) → Q (.ref p) H'
def tBadNum2 : TT := fun σ H Q => ∃ w o, σ = [some (.str (S w)), o] ∧ w.length ≤ 100000 ∧ LowL w ∧ ∀ H', Same H H' → Q (!numB w) H'
def spNumber : Sp := fun vs H Q _ => ∃ w : List Nat, vs = [.str (S w)] ∧ w.length ≤ 100000 ∧ LowL w ∧ (numB w = true → w.length ≤ 640) ∧ ∀ H', Same H H' → Q (optN (numM w)) H'
theorem one_long {w : List Nat} (h : w ≠ []) : (decide (1 < w.length) && decide (w.getD 0 0 = 48)) = (decide (w.getD 0 0 = 48) && !decide (w = [48])) := by
  match w, h with
  | [c], _ =>
    show (decide (1 < 1) && decide (c = 48)) = (decide (c = 48) && !decide ([c] = [48]))
    by_cases e : c = 48
    · subst e
      rfl
    · rw [decide_eq_false e]
      rfl
  | a :: b :: r, _ =>
    rw [decide_eq_true (show 1 < (a :: b :: r).length by simp only [List.length_cons]; omega), decide_eq_false (show a :: b :: r ≠ [48] from fun e => by injection e with _ e; cases e)]
    simp
section
variable {P : Program} {w : World} {K : PySem.W.Frag} {mg : Str → Option Value} {base : Heap}
theorem ok_items {f : Addr} {fd : FuncData} (F : Fun K "_law_items" "_law_items" s__law_items f fd) (B : Blt mg) :
    FnOk P w K mg base CX0 1 f fd ["_law_letters"] spItems := by
  refine F.ok sc__law_items (fun vs H Q E h => ?_) (fun cdv A outer s H vs Q E hr h => ?_)
  · obtain ⟨_, rfl, _⟩ := h
    rfl
  · obtain ⟨sg, rfl, hs, q⟩ := h
    refine ⟨_, pss_one (ps_ret (pe_op op_cat (pe_op op_cat (Mq.pe_ls (pa_cons pe_str pa_nil)) (pe_lc (own := [("_law_x", 1)]) (g := gName 1) (tt := tYes) rfl sc__law_items.nd (pi_str (pv 0)) (blkOk_by (own := [("_law_x", 1)]) (N := ["_law_letters", "_law_x"]) (sc := defScope s__law_items) (by decide +kernel)) (fun _ _ _ _ _ => pg_name (i := 1) sc__law_items.nd rfl (Or.inl rfl)) (fun _ _ _ _ _ => pts_nil) (fun _ _ _ _ _ => (pe_op op_add_str pe_str (pv 1))))) (pe_callTy (call_listTx rfl) (by rfl) B.list (by decide +kernel) (pa_cons (pv 0) pa_nil)))), ?_⟩
    refine ⟨sz_le (n := 1) (by decide), fun p1 hp1 _ => ?_⟩
    have s1 := same_new (o := HO.lst [V.str "?-"]) hp1
    have z1 : upd H p1 (.lst [V.str "?-"]) p1 = some (.lst [V.str "?-"]) := upd_same
    generalize upd H p1 (.lst [V.str "?-"]) = H1 at s1 z1 ⊢
    refine ⟨_, rfl, S sg, rfl, fun D hD => ?_⟩
    refine lc_yes (walk_S sg) (fun i H' => Same H1 H' ∧ H' D = some (.lst (((List.range i).map fun k => V.str (S [63, sg.getD k 0]))))) ⟨same_new hD, upd_same⟩ (fun _ _ _ _ => trivial) ?_ ?_
    · rintro i x H2 H3 hi ⟨s2, zD⟩ ⟨rfl, rfl⟩
      refine ⟨rfl, _, rfl, _, _, rfl, rfl, sz_le (n := 2) (by decide), _, zD, sz_lt (by rw [List.length_map, List.length_range]; omega), push_same hD s2, ?_⟩
      rw [upd_same, List.range_succ, List.map_append]
      rfl
    · rintro H2 ⟨s2, zD⟩
      have s12 := s1.trans s2
      have z12 := s2 _ _ z1
      refine ⟨p1, D, _, _, rfl, rfl, z12, zD, sz_le (by rw [List.length_map, List.length_range, List.length_singleton]; omega), fun p3 hp3 => ?_⟩
      have s3 := same_new (o := HO.lst ([V.str "?-"] ++ (List.range sg.length).map fun k => V.str (S [63, sg.getD k 0]))) hp3
      have z3 : upd H2 p3 (.lst ([V.str "?-"] ++ (List.range sg.length).map fun k => V.str (S [63, sg.getD k 0]))) p3 = _ := upd_same
      have s13 := s12.trans s3
      generalize upd H2 p3 (.lst ([V.str "?-"] ++ (List.range sg.length).map fun k => V.str (S [63, sg.getD k 0]))) = H3 at z3 s13 ⊢
      refine ⟨_, rfl, S sg, rfl, sz_le (by have := SX.S_len sg; have e : (S sg).cps.size = sg.length := this; omega), fun p4 hp4 _ => ?_⟩
      have s4 := same_new (o := HO.lst ((S sg).cps.toList.map fun c => V.str ⟨#[c]⟩)) hp4
      have z4 : upd H3 p4 (.lst ((S sg).cps.toList.map fun c => V.str ⟨#[c]⟩)) p4 = some (.lst (sg.map fun c => V.str (S [c]))) := upd_same
      have z34 := s4 _ _ z3
      have s14 := s13.trans s4
      generalize upd H3 p4 (.lst ((S sg).cps.toList.map fun c => V.str ⟨#[c]⟩)) = H4 at z4 z34 s14 ⊢
      refine ⟨p3, p4, _, _, rfl, rfl, z34, z4, sz_le (by simp only [List.length_append, List.length_map, List.length_range, List.length_singleton]; omega), fun p5 hp5 => ?_⟩
      refine q _ p5 (s14.trans (same_new hp5)) ?_ ?_
      · cases e : H p5 with
        | none => rfl
        | some o =>
          rw [s14 _ _ e] at hp5
          cases hp5
      · rw [upd_same]
        have e1 : ((List.range sg.length).map fun k => V.str (S [63, sg.getD k 0])) = txs (sg.map fun c => [63, c]) := by
          refine List.ext_getElem (by simp) fun i h1 h2 => ?_
          rw [List.length_map, List.length_range] at h1
          simp [List.getD_eq_getElem?_getD, List.getElem?_eq_getElem h1]
        have e2 : (sg.map fun c => V.str (S [c])) = txs (sg.map fun c => [c]) := by unfold txs; rw [List.map_map]; rfl
        rw [e1, e2]
        unfold itemsL
        exact congrArg (fun z => some (HO.lst z)) (by unfold txs; rw [List.map_append, List.map_append]; rfl)
theorem ok_number {f : Addr} {fd : FuncData} (F : Fun K "_law_number" "_law_number" s__law_number f fd) (B : Blt mg) :
    FnOk P w K mg base CX0 1 f fd ["_law_word"] spNumber := by
  refine F.ok sc__law_number (fun vs H Q E h => ?_) (fun cdv A outer s H vs Q E hr h => ?_)
  · obtain ⟨_, rfl, _⟩ := h
    rfl
  · obtain ⟨w, rfl, hw, hlow, hw6, q⟩ := h
    have hu : (A.deeper (envOfC "_law_number" (defScope s__law_number) s.heap.objs.size f cdv)).units + 64 < cLine := by
      have := hr.units
      omega
    refine ⟨_, (pss_cons (ps_if (PT_imp (t' := tBadNum2) (PW.pt (pw_or (pt_cmpR op_eq (pv 0) pe_str (nomark _)) (pw_or (pt_cmpR (op_neD hu) (pe_lc (own := [("_law_x", 1)]) (g := gName 1) rfl sc__law_number.nd (pi_str (pv 0)) (blkOk_by (own := [("_law_x", 1)]) (N := ["_law_word", "_law_x"]) (sc := defScope s__law_number) (by decide +kernel)) (fun _ _ _ _ _ => pg_name (i := 1) sc__law_number.nd rfl (Or.inl rfl)) (fun _ _ _ _ _ => pts_one (pt_cmpR op_notIn_sign (pv 1) pe_str rfl)) (fun _ _ _ _ _ => (pv 1))) (Mq.pe_ls pa_nil) (nomark _)) (pw_or1 (PW.pt (pw_and (pt_cmpR op_gt (pe_callB call_len (by rfl) B.len (by decide +kernel) (pa_cons (pv 0) pa_nil)) pe_int (nomark _)) (pw_and1 (pt_cmpR op_eq (pe_ix ix_str (pv 0) pe_int (fun _ _ => rfl)) pe_str (nomark _))))))))) (fun σ H Q h => by
        obtain ⟨w, o, rfl, hw, hlow, q⟩ := h
        unfold numB at q
        refine ⟨_, rfl, rfl, _, rfl, ?_⟩
        rw [str_is_nil]
        cases e0 : decide (w = []) with
        | true =>
          rw [e0] at q
          exact ifT rfl (q H (Same.refl H))
        | false =>
          rw [e0] at q
          have hne := of_decide_eq_false e0
          have hpos : 0 < w.length := pos_of hne
          refine ifF rfl ?_
          refine ⟨_, rfl, S w, rfl, fun L hL => ?_⟩
          refine lc_it (walk_S w) (fun i H' => Same H H' ∧ H' L = some (.lst ((((List.range i).filter fun k => !inB (w.getD k 0) digs)).map fun k => .str (S [w.getD k 0])))) ⟨same_new hL, upd_same⟩ (fun _ _ _ _ => trivial) ?_ ?_
          · rintro i x H2 H3 hi ⟨s2, hL2⟩ ⟨rfl, rfl⟩
            refine ⟨rfl, _, rfl, ?_⟩
            rw [digs_is]
            refine ⟨w.getD i 0, S digs, rfl, rfl, ?_⟩
            have er : ((List.range (i + 1)).filter fun k => !inB (w.getD k 0) digs) = ((List.range i).filter fun k => !inB (w.getD k 0) digs) ++ (if (!inB (w.getD i 0) digs) = true then [i] else []) := by
              rw [List.range_succ, List.filter_append]
              congr 1
              by_cases hb : (!inB (w.getD i 0) digs) = true
              · rw [if_pos hb]
                show List.filter _ [i] = [i]
                rw [List.filter_cons, if_pos hb]
                rfl
              · rw [if_neg hb, List.filter_cons, if_neg hb]
                rfl
            have hlen : ((List.range i).filter fun k => !inB (w.getD k 0) digs).length ≤ i := by
              have := List.length_filter_le (fun k => !inB (w.getD k 0) digs) (List.range i)
              rw [List.length_range] at this
              exact this
            by_cases hb : (!inB (w.getD i 0) digs) = true
            · rw [if_pos hb] at er
              refine ⟨_, rfl, ifT hb ?_⟩
              refine ⟨_, rfl, _, hL2, sz_lt (by rw [List.length_map]; omega), push_same hL s2, ?_⟩
              rw [upd_same, er, List.map_append]
              rfl
            · rw [if_neg hb, List.append_nil] at er
              refine ⟨_, rfl, ifF (Bool.eq_false_iff.mpr hb) ⟨s2, ?_⟩⟩
              rw [er]
              exact hL2
          · rintro H2 ⟨s2, hL2⟩
            refine ⟨sz_le (n := 0) (by decide), fun p hp _ => ?_⟩
            have sp := same_new (o := HO.lst []) hp
            refine ⟨_, _, .lst (SqL.of (sp _ _ hL2)) (dp_signs (fun k => S [w.getD k 0]) _), .lst (SqL.of upd_same) .nil, shaped_signs _ _ ?_, by decide +kernel, ?_⟩
            · intro k hk
              have hk' := List.mem_range.mp (List.mem_filter.mp hk).1
              exact sign_ok (Nat.lt_trans (hlow _ (getD_mem hk')) (by decide))
            rw [eqv_nil]
            have ed : digB w = ((List.range w.length).filter fun k => !inB (w.getD k 0) digs).isEmpty := rfl
            rw [← ed]
            have s3 : Same H (upd H2 p (.lst [])) := s2.trans sp
            generalize upd H2 p (.lst []) = H3 at s3 ⊢
            cases e1 : digB w with
            | false =>
              rw [e1] at q
              exact ⟨_, rfl, ifT rfl (q H3 s3)⟩
            | true =>
              rw [e1] at q
              have q1 := q H3 s3
              rw [← one_long hne] at q1
              refine ⟨_, rfl, ifF rfl ⟨_, rfl, _, _, rfl, len_S (by omega), _, _, rfl, rfl, _, rfl, ?_⟩⟩
              rw [show decide ((1 : Int) < (w.length : Int)) = decide (1 < w.length) from decide_eq_decide.mpr (by omega)]
              cases e2 : decide (1 < w.length) with
              | false =>
                rw [e2] at q1
                exact ifF rfl q1
              | true =>
                rw [e2] at q1
                refine ifT rfl ⟨_, rfl, S w, 0, w.getD 0 0, rfl, rfl, sz_le (by rw [SX.S_len]; omega), at_get (l := w) (k := 0) hpos, rfl, _, rfl, ?_⟩
                rw [show decide (V.str (S [w.getD 0 0]) = V.str "0") = decide (w.getD 0 0 = 48) from (S_dec [w.getD 0 0] [48]).trans (decide_eq_decide.mpr ⟨fun h => by injection h, fun h => by rw [h]⟩)]
                rw [show (!(!false && (true && !(true && decide (w.getD 0 0 = 48))))) = decide (w.getD 0 0 = 48) by cases decide (w.getD 0 0 = 48) <;> rfl] at q1
                exact q1)) (pss_one (ps_ret pe_non)) pss_nil)
      (pss_one (ps_ret (pe_callTy call_int_str (by rfl) B.int (by decide +kernel) (pa_cons (pv 0) pa_nil))))), ?_⟩
    refine ⟨w, _, rfl, hw, hlow, fun H1 s1 => ?_⟩
    unfold numM at q
    cases e : numB w with
    | false =>
      rw [e] at q
      exact ifT rfl (q H1 s1)
    | true =>
      rw [e] at q
      have hw := hw6 e
      refine ifF rfl ⟨_, rfl, S w, _, rfl, num_int e (by omega), ?_, q H1 s1⟩
      rw [SX.S_len]
      exact hw
end
end Lw

namespace Lw
open PySem PySem.Spec PyProof.Rows L2 Mq
open SX (S)
/-! ### the law's own reading of a lot -/
theorem sorted_uniq : ∀ l m : List Int, l.Pairwise (· < ·) → m.Pairwise (· < ·) → (∀ k, k ∈ l ↔ k ∈ m) → l = m
  | [], [], _, _, _ => rfl
  | [], b :: m, _, _, h => by cases (h b).mpr List.mem_cons_self
  | a :: l, [], _, _, h => by cases (h a).mp List.mem_cons_self
  | a :: l, b :: m, hl, hm, h => by
    obtain ⟨l1, l2⟩ := List.pairwise_cons.mp hl
    obtain ⟨m1, m2⟩ := List.pairwise_cons.mp hm
    have e : a = b := by
      rcases List.mem_cons.mp ((h a).mp List.mem_cons_self) with e | e
      · exact e
      · rcases List.mem_cons.mp ((h b).mpr List.mem_cons_self) with f | f
        · exact f.symm
        · have := m1 a e
          have := l1 b f
          omega
    subst e
    rw [sorted_uniq l m l2 m2 fun k => ?_]
    constructor
    · intro hk
      rcases List.mem_cons.mp ((h k).mp (List.mem_cons_of_mem _ hk)) with e | e
      · have := l1 k hk
        omega
      · exact e
    · intro hk
      rcases List.mem_cons.mp ((h k).mpr (List.mem_cons_of_mem _ hk)) with e | e
      · have := m1 k hk
        omega
      · exact e
def toI (es : List Nat) : List Int := es.map fun n => ((n : Nat) : Int)
theorem intsV_toI (es : List Nat) : intsV es = (toI es).map V.int := by
  unfold toI
  rw [List.map_map]
  rfl
theorem asc_ints {es : List Nat} {ns : List Int} (h1 : ns.Pairwise (· < ·)) (h2 : ∀ k, k ∈ ns ↔ k ∈ toI es) : decide (toI es = ns) = ascB es := by
  have hp : ascB es = true ↔ (toI es).Pairwise (· < ·) := by
    rw [asc_pair]
    unfold toI
    rw [List.pairwise_map]
    constructor
    · exact fun h => h.imp fun q => by omega
    · exact fun h => h.imp fun q => by omega
  by_cases ha : ascB es = true
  · rw [ha]
    exact decide_eq_true (sorted_uniq _ _ (hp.mp ha) h1 fun k => (h2 k).symm)
  · rw [Bool.eq_false_iff.mpr ha]
    refine decide_eq_false fun e => ha (hp.mpr ?_)
    rw [e]
    exact h1
theorem dp_ints {K : PySem.W.Frag} {H : Hp} : ∀ ns : List Int, DpAll K H (ns.map V.int) (ns.map PyData.int)
  | [] => .nil
  | n :: ns => .cons (.int n) (dp_ints ns)
theorem lay_ints : ∀ ns : List Int, PyData.canLayAll0 (ns.map PyData.int) = true ∧ PyData.depthAll (ns.map PyData.int) ≤ 1
  | [] => by simp [PyData.canLayAll0, PyData.depthAll]
  | n :: ns => by
    have := lay_ints ns
    simp only [List.map_cons, PyData.canLayAll0, PyData.canLay0, PyData.depthAll, PyData.depth, this.1, Bool.and_self, true_and]
    omega
theorem lay_strs : ∀ {ws : List (List Nat)}, LowLs ws → PyData.canLayAll0 (ws.map fun w => PyData.str (S w)) = true ∧ PyData.depthAll (ws.map fun w => PyData.str (S w)) ≤ 1
  | [], _ => by simp [PyData.canLayAll0, PyData.depthAll]
  | w :: ws, h => by
    have i := lay_strs (ws := ws) fun u hu => h u (List.mem_cons_of_mem _ hu)
    have j : (PyData.str (S w)).canLay0 = true := lay_txt (h w List.mem_cons_self)
    simp only [List.map_cons, PyData.canLayAll0, PyData.depthAll, PyData.depth, i.1, j, Bool.and_self, true_and]
    omega
theorem shaped_intsL (ns : List Int) : SeqAt.shaped (.list (ns.map PyData.int)) = true := by
  have h := lay_ints ns
  show (PyData.canLay0 (.list (ns.map PyData.int)) && decide (PyData.depth (.list (ns.map PyData.int)) ≤ 64)) = true
  rw [Bool.and_eq_true]
  exact ⟨by simp only [PyData.canLay0]; exact h.1, decide_eq_true (by simp only [PyData.depth]; omega)⟩
theorem eqv_intsL : ∀ ns ms : List Int, PyData.eqv (.list (ns.map PyData.int)) (.list (ms.map PyData.int)) = decide (ns = ms)
  | [], [] => by simp [PyData.eqv, PyData.eqvAll]
  | [], _ :: _ => by simp [PyData.eqv, PyData.eqvAll]
  | _ :: _, [] => by simp [PyData.eqv, PyData.eqvAll]
  | n :: r, k :: q => by
    have h := eqv_intsL r q
    simp only [PyData.eqv] at h
    simp only [List.map_cons, PyData.eqv, PyData.eqvAll, h]
    by_cases e : n = k <;> simp [e]
def lotD (L : Lot) : PyData := .tuple [.int ((L.n : Nat) : Int), .bool L.d, .tuple ((toI L.e).map PyData.int), .tuple (L.w.map fun w => PyData.str (S w))]
theorem dp_txs {K : PySem.W.Frag} {H : Hp} : ∀ ws : List (List Nat), DpAll K H (txs ws) (ws.map fun w => PyData.str (S w))
  | [] => .nil
  | w :: ws => .cons (.str _) (dp_txs ws)
theorem dp_lot {K : PySem.W.Frag} {H : Hp} {v : V} {L : Lot} (h : LotAt K H v L) : Dp K H v (lotD L) := by
  obtain ⟨p, pe, pw, rfl, h1, h2, h3⟩ := h
  rw [intsV_toI] at h2
  exact .tup h1 (.cons (.int _) (.cons (.bl _) (.cons (.tup h2 (dp_ints _)) (.cons (.tup h3 (dp_txs _)) .nil))))
theorem dp_lots {K : PySem.W.Frag} {H : Hp} : ∀ {vs : List V} {Ls : List Lot}, LotAll K H vs Ls → DpAll K H vs (Ls.map lotD)
  | _, _, .nil => .nil
  | _, _, .cons a b => .cons (dp_lot a) (dp_lots b)
def LotsLow (Ls : List Lot) : Prop := ∀ L ∈ Ls, LowLs L.w
theorem lay_lot {L : Lot} (h : LowLs L.w) : (lotD L).canLay0 = true ∧ (lotD L).depth ≤ 3 := by
  have i := lay_ints (toI L.e)
  have j := lay_strs h
  unfold lotD
  constructor
  · simp only [PyData.canLay0, PyData.canLayAll0, i.1, j.1, Bool.and_self]
  · simp only [PyData.depth, PyData.depthAll]
    omega
theorem lay_lots : ∀ {Ls : List Lot}, LotsLow Ls → PyData.canLayAll0 (Ls.map lotD) = true ∧ PyData.depthAll (Ls.map lotD) ≤ 3
  | [], _ => by simp [PyData.canLayAll0, PyData.depthAll]
  | L :: Ls, h => by
    have i := lay_lots (Ls := Ls) fun u hu => h u (List.mem_cons_of_mem _ hu)
    have j := lay_lot (h L List.mem_cons_self)
    simp only [List.map_cons, PyData.canLayAll0, PyData.depthAll, i.1, j.1, Bool.and_self, true_and]
    omega
theorem shaped_lots {Ls : List Lot} (h : LotsLow Ls) : SeqAt.shaped (.list (Ls.map lotD)) = true := by
  have h := lay_lots h
  show (PyData.canLay0 (.list (Ls.map lotD)) && decide (PyData.depth (.list (Ls.map lotD)) ≤ 64)) = true
  rw [Bool.and_eq_true]
  exact ⟨by simp only [PyData.canLay0]; exact h.1, decide_eq_true (by simp only [PyData.depth]; omega)⟩
theorem item_low {sg w : List Nat} (hs : LowL sg) (h : itemB sg w = true) : LowL w := by
  rw [← items_mem] at h
  have h := of_decide_eq_true h
  unfold itemsL at h
  rw [List.mem_append, List.mem_append, List.mem_singleton, List.mem_map, List.mem_map] at h
  rcases h with (rfl | ⟨c, hc, rfl⟩) | ⟨c, hc, rfl⟩
  · intro d hd
    simp only [List.mem_cons, List.not_mem_nil, or_false] at hd
    rcases hd with rfl | rfl <;> decide
  · intro d hd
    simp only [List.mem_cons, List.not_mem_nil, or_false] at hd
    rcases hd with rfl | rfl
    · decide
    · exact hs _ hc
  · intro d hd
    rw [List.mem_singleton.mp hd]
    exact hs _ hc
def earlN (w : List Nat) : List (Option Nat) := if w = [45] then [] else nums w
theorem earl_uni (w known : List Nat) : earlM w known = if ((earlN w).all (knownB known) && ascB (vals (earlN w))) = true then some (vals (earlN w)) else none := by
  unfold earlM earlN
  by_cases h : w = [45]
  · rw [if_pos h, if_pos h]
    rfl
  · rw [if_neg h, if_neg h]
theorem known_two (known : List Nat) (ms : List (Option Nat)) : ms.all (knownB known) = (ms.all Option.isSome && (vals ms).all fun n => decide (n ∈ known)) := by
  induction ms with
  | nil => rfl
  | cons m ms ih =>
    have e : vals (m :: ms) = m.getD 0 :: vals ms := rfl
    rw [List.all_cons, List.all_cons, e, List.all_cons, ih]
    cases m with
    | none => rfl
    | some n =>
      show (decide (n ∈ known) && _) = ((true && _) && (decide (n ∈ known) && _))
      cases decide (n ∈ known) <;> cases ms.all Option.isSome <;> rfl
theorem some_vals {ms : List (Option Nat)} (h : ms.all Option.isSome = true) : ms.map optN = intsV (vals ms) := by
  unfold vals intsV
  rw [List.map_map]
  refine List.map_congr_left fun m hm => ?_
  have := List.all_eq_true.mp h m hm
  cases m with
  | none => cases this
  | some n => rfl
theorem inV_none (ms : List (Option Nat)) : inV .non (ms.map optN) = !ms.all Option.isSome := by
  unfold inV
  rw [List.any_map]
  induction ms with
  | nil => rfl
  | cons m ms ih =>
    rw [List.any_cons, List.all_cons, ih]
    cases m with
    | none => rfl
    | some n => rfl
theorem flat_opts (ms : List (Option Nat)) : (ms.map optN).all flatV = true := by
  rw [List.all_map, List.all_eq_true]
  intro m _
  exact flat_opt m
theorem flat_txs (ws : List (List Nat)) : (txs ws).all flatV = true := by
  unfold txs
  rw [List.all_map, List.all_eq_true]
  intro m _
  rfl
theorem lot_law {sg known line w0 w1 w2 w3 w4 : List Nat} {ws : List (List Nat)} (h : spl 32 line = w0 :: w1 :: w2 :: w3 :: w4 :: ws) (h0 : decide (w0 = lotL) = true) (h2 : (decide (w2 = doneL) || decide (w2 = openL)) = true) :
    lotM sg known line = match numM w1 with
      | none => none
      | some n => if ((earlN w3).all Option.isSome && (weftM (w4 :: ws)).all (itemB sg)) = true then
          if (nextB known n && ascB (vals (earlN w3))) = true then
            if ((vals (earlN w3)).all fun n => decide (n ∈ known)) = true then some ⟨n, decide (w2 = doneL), vals (earlN w3), weftM (w4 :: ws)⟩ else none
          else none
        else none := by
  rw [lot_five h, h0, h2, earl_uni, known_two]
  cases numM w1 with
  | none => rfl
  | some n =>
    dsimp only
    cases (earlN w3).all Option.isSome <;> cases (vals (earlN w3)).all (fun n => decide (n ∈ known)) <;> cases ascB (vals (earlN w3)) <;> cases e : nextB known n <;> cases (weftM (w4 :: ws)).all (itemB sg) <;> simp [e]
theorem lots_last {K : PySem.W.Frag} {H : Hp} {vs : List V} {Ls : List Lot} {L : Lot} (h : LotAll K H vs (Ls ++ [L])) : ∃ vs0 v, vs = vs0 ++ [v] ∧ LotAt K H v L := by
  rcases List.eq_nil_or_concat vs with rfl | ⟨vs0, v, rfl⟩
  · have := h.len
    rw [List.length_append] at this
    cases this
  · rw [List.concat_eq_append] at h ⊢
    have hl := h.len
    rw [List.length_append, List.length_append] at hl
    have hl : vs0.length = Ls.length := Nat.add_right_cancel hl
    obtain ⟨L', e, q⟩ := h.at (i := vs0.length) (v := v) (by rw [List.getElem?_append_right (Nat.le_refl _), Nat.sub_self]; rfl)
    rw [hl, List.getElem?_append_right (Nat.le_refl _), Nat.sub_self] at e
    have e : L = L' := Option.some.inj e
    subst e
    exact ⟨vs0, v, rfl, q⟩
end Lw

namespace Lw
open PySem PySem.Spec PyProof.Rows L2 Mq
open SX (S)
/-! ### the law's own reading of a lot: the def -/
theorem pi_listK {X : Cx} {K : PySem.W.Frag} {tg l : Expr} {tl : TE} (h : X.K = K) (hl : PE X l tl) : PI X tg l (iList K tl) := h ▸ pi_list hl
abbrev Slots (a0 a1 a2 a3 a4 a5 a6 a7 a8 a9 a10 : Option V) : L2.St := [a0, a1, a2, a3, a4, a5, a6, a7, a8, a9, a10]
def tWeftN (K : PySem.W.Frag) : TE := fun σ H Q => ∃ p ds, σ[3]? = some (some (.ref p)) ∧ H p = some (.lst (txs ds)) ∧ LowLs ds ∧ ds.length ≤ 100000 ∧ ∀ H' pw, Same H H' → H' pw = some (.lst (txs (weftM (ds.drop 4)))) → Q (.ref pw) H'
def tEarlN (K : PySem.W.Frag) : TE := fun σ H Q => ∃ (o0 o1 o2 : Option V) (p : Addr) (o4 o5 o6 o7 o8 o9 o10 : Option V) (ds : List (List Nat)) (w3 : List Nat), σ = Slots o0 o1 o2 (some (.ref p)) o4 o5 o6 o7 o8 o9 o10 ∧ H p = some (.lst (txs ds)) ∧ atI (txs ds) 3 = some (.str (S w3)) ∧ w3.length ≤ 20000 ∧ LowL w3 ∧ Parts w3 ∧
  ∀ H' pe, Same H H' → H' pe = some (.lst ((earlN w3).map optN)) → Q (.ref pe) H'
def tStop1 (K : PySem.W.Frag) : TT := fun σ H Q => ∃ (sg : List Nat) (o1 o2 o3 : Option V) (m : Option Nat) (pw pe : Addr) (o7 o8 o9 o10 : Option V) (ws : List (List Nat)) (ms : List (Option Nat)), σ = Slots (some (.str (S sg))) o1 o2 o3 (some (optN m)) (some (.ref pw)) (some (.ref pe)) o7 o8 o9 o10 ∧ H pw = some (.lst (txs ws)) ∧ H pe = some (.lst (ms.map optN)) ∧ LowLs ws ∧ ws.length ≤ 100000 ∧ sg.length ≤ 1000 ∧
  ∀ H', Same H H' → Q (match m with | none => true | some _ => !(ms.all Option.isSome && ws.all (itemB sg))) H'
def tStopB (K : PySem.W.Frag) : TT := fun σ H Q => ∃ (a : Addr) (n : Nat) (pe : Addr) (vs : List V) (acc : List Lot) (es : List Nat), σ[1]? = some (some (.ref a)) ∧ σ[4]? = some (some (.int ((n : Nat) : Int))) ∧ σ[6]? = some (some (.ref pe)) ∧ SqL K H a vs ∧ LotAll K H vs acc ∧ LotsLow acc ∧ H pe = some (.lst (intsV es)) ∧ es.length ≤ 61 ∧
  ∀ H', Same H H' → Q (!(nextB (acc.map fun L => L.n) n && ascB es)) H'
def tStop3 (K : PySem.W.Frag) : TT := fun σ H Q => ∃ (o0 : Option V) (a : Addr) (o2 o3 o4 o5 : Option V) (pe : Addr) (o7 o8 o9 o10 : Option V) (vs : List V) (acc : List Lot) (es : List Nat), σ = Slots o0 (some (.ref a)) o2 o3 o4 o5 (some (.ref pe)) o7 o8 o9 o10 ∧ SqL K H a vs ∧ LotAll K H vs acc ∧ acc.length ≤ 5000 ∧ H pe = some (.lst (intsV es)) ∧ es.length ≤ 61 ∧
  ∀ H', Same H H' → Q (!(es.all fun n => decide (n ∈ acc.map fun L => L.n))) H'
def badI (sg : List Nat) (ws : List (List Nat)) : List (List Nat) := ws.filter fun w => !itemB sg w
theorem badI_snoc {sg : List Nat} {ws : List (List Nat)} {i : Nat} {w : List Nat} (h : ws[i]? = some w) : badI sg (ws.take (i + 1)) = badI sg (ws.take i) ++ (if (!itemB sg w) = true then [w] else []) := by
  unfold badI
  rw [List.take_add_one, h, List.filter_append]
  congr 1
  show List.filter _ [w] = _
  rw [List.filter_cons]
  rfl
theorem badI_len (sg : List Nat) (ws : List (List Nat)) : (badI sg ws).length ≤ ws.length := List.length_filter_le _ _
theorem badI_all (sg : List Nat) (ws : List (List Nat)) : (badI sg ws).isEmpty = ws.all (itemB sg) := by
  unfold badI
  induction ws with
  | nil => rfl
  | cons w ws ih =>
    rw [List.filter_cons, List.all_cons]
    cases itemB sg w with
    | true => exact ih
    | false => rfl
def badN (kn es : List Nat) : List Nat := es.filter fun n => !decide (n ∈ kn)
theorem badN_snoc {kn es : List Nat} {i n : Nat} (h : es[i]? = some n) : badN kn (es.take (i + 1)) = badN kn (es.take i) ++ (if (!decide (n ∈ kn)) = true then [n] else []) := by
  unfold badN
  rw [List.take_add_one, h, List.filter_append]
  congr 1
  show List.filter _ [n] = _
  rw [List.filter_cons]
  rfl
theorem badN_len (kn es : List Nat) : (badN kn es).length ≤ es.length := List.length_filter_le _ _
theorem badN_all (kn es : List Nat) : (badN kn es).isEmpty = es.all fun n => decide (n ∈ kn) := by
  unfold badN
  induction es with
  | nil => rfl
  | cons w ws ih =>
    rw [List.filter_cons, List.all_cons]
    cases decide (w ∈ kn) with
    | true => exact ih
    | false => rfl
theorem shaped_txs {ws : List (List Nat)} (h : LowLs ws) : SeqAt.shaped (.list (ws.map fun w => PyData.str (S w))) = true := by
  have h := lay_strs h
  show (PyData.canLay0 (.list (ws.map fun w => PyData.str (S w))) && decide (PyData.depth (.list (ws.map fun w => PyData.str (S w))) ≤ 64)) = true
  rw [Bool.and_eq_true]
  exact ⟨by simp only [PyData.canLay0]; exact h.1, decide_eq_true (by simp only [PyData.depth]; omega)⟩
theorem eqv_txs (xs ys : List (List Nat)) : PyData.eqv (.list (xs.map fun w => PyData.str (S w))) (.list (ys.map fun w => PyData.str (S w))) = decide (xs = ys) := by
  have h := eqv_strs (xs.map S) (ys.map S)
  rw [List.map_map, List.map_map, map_S_inj] at h
  exact h
theorem badI_low {sg : List Nat} {ws : List (List Nat)} (h : LowLs ws) : LowLs (badI sg ws) := fun w hw => h w (List.mem_filter.mp hw).1
def LotLow (sg line : List Nat) : Prop := ∀ w ∈ spl 32 line, Parts w ∧ (spl 44 w).length ≤ 60
def spLawLot (K : PySem.W.Frag) : Sp := fun vs H Q _ => ∃ (sg line : List Nat) (a : Addr) (us : List V) (acc : List Lot), vs = [.str (S sg), .ref a, .str (S line)] ∧ SqL K H a us ∧ LotAll K H us acc ∧ acc.length ≤ 4001 ∧ LotsLow acc ∧ sg.length ≤ 1000 ∧ LowL sg ∧ line.length ≤ 4000 ∧ LowL line ∧
  (∀ w ∈ spl 32 line, Parts w ∧ (spl 44 w).length ≤ 60) ∧ ∀ H' u, Same H H' → LotR K H' (lotM sg (acc.map fun L => L.n) line) u → Q u H'
section
variable {P : Program} {w : World} {K : PySem.W.Frag} {mg : Str → Option Value} {base : Heap}
theorem ok_lot {f fN fI : Addr} {fd fdN fdI : FuncData} (F : Fun K "_law_lot" "_law_lot" s__law_lot f fd) (B : Blt mg) (bS : mg "sorted" = none) (bT : mg "set" = none)
    (FN : Fun K "_law_number" "_law_number" s__law_number fN fdN) (gN : mg "_law_number" = some (.ref fN)) (bN : Binds K fdN ["_law_word"] []) (GN : FnOk P w K mg base CX0 1 fN fdN ["_law_word"] spNumber)
    (FI : Fun K "_law_items" "_law_items" s__law_items fI fdI) (gI : mg "_law_items" = some (.ref fI)) (bI : Binds K fdI ["_law_letters"] []) (GI : FnOk P w K mg base CX0 1 fI fdI ["_law_letters"] spItems) :
    FnOk P w K mg base CX0 2 f fd ["_law_letters", "_law_ahead", "_law_line"] (spLawLot K) := by
  refine F.ok sc__law_lot (fun vs H Q E h => ?_) (fun cdv A outer s H vs Q E hr h => ?_)
  · obtain ⟨_, _, _, _, _, rfl, _⟩ := h
    rfl
  · obtain ⟨sg, line, a, us, acc, rfl, ha, hall, hacc, hlots, hsg, hsl, hl, hlow, hp, q⟩ := h
    have hu : (A.deeper (envOfC "_law_lot" (defScope s__law_lot) s.heap.objs.size f cdv)).units + 64 < cLine := by
      have := hr.units
      omega
    refine ⟨_, (pss_cons (ps_set (i := 3) sc__law_lot.nd rfl (Or.inl rfl) (pe_split (pv 2) pe_str))
      (pss_cons (ps_if (PW.pt (pw_or (pt_cmpR op_lt (pe_callB call_len_seq (by rfl) B.len (by decide +kernel) (pa_cons (pv 3) pa_nil)) pe_int (nomark _)) (pw_or (pt_cmpR op_ne (pe_ix ix_list (pv 3) pe_int (fun _ _ => rfl)) pe_str (nomark _)) (pw_or1 (pt_cmpR op_notIn_seq (pe_ix ix_list (pv 3) pe_int (fun _ _ => rfl)) (pe_tup (pa_cons pe_str (pa_cons pe_str pa_nil))) rfl))))) (pss_one (ps_ret pe_non)) pss_nil)
      (pss_cons (ps_par (i := 4) (j := 5) rfl sc__law_lot.nd rfl rfl (by decide) rfl rfl (pa_cons (pe_call GN (hr.mono (by decide)) (by rfl) gN FN.kp bN .nil pass0 (pa_cons (pe_ix ix_list (pv 3) pe_int (fun _ _ => rfl)) pa_nil)) (pa_cons (PE_imp (t' := tWeftN K) (pe_ifExp (pt_cmpR (op_neD hu) (pe_slice sl_list (pv 3) (po_some pe_int) po_none) (Mq.pe_ls (pa_cons pe_str pa_nil)) (nomark _)) (pe_slice sl_list (pv 3) (po_some pe_int) po_none) (Mq.pe_ls pa_nil)) (fun σ H Q h => by
          obtain ⟨p, ds, h3, hp, hlo, hn, q⟩ := h
          refine ⟨_, h3, 4, rfl, p, _, rfl, SqL.of hp, fun p5 hp5 => ?_⟩
          rw [show cutV (txs ds) (some 4) none = txs (ds.drop 4) from txs_from ds 4]
          have s5 := same_new (o := HO.lst (txs (ds.drop 4))) hp5
          have z5 : upd H p5 (.lst (txs (ds.drop 4))) p5 = some (.lst (txs (ds.drop 4))) := upd_same
          have z1 := s5 _ _ hp
          generalize upd H p5 (.lst (txs (ds.drop 4))) = H5 at s5 z5 z1 ⊢
          refine ⟨sz_le (n := 1) (by decide), fun p6 hp6 _ => ?_⟩
          have s6 := same_new (o := HO.lst [V.str "-"]) hp6
          refine ⟨_, .list ([[45]].map fun w => PyData.str (S w)), .lst (SqL.of (s6 _ _ z5)) (dp_txs _), .lst (SqL.of upd_same) (dp_txs [[45]]), shaped_txs (hlo.drop 4), shaped_txs (fun y hy => by
            rw [List.mem_singleton.mp hy]
            intro d hd
            rw [List.mem_singleton.mp hd]
            decide), ?_⟩
          rw [eqv_txs]
          have z2 := s6 _ _ z1
          have s56 := s5.trans s6
          generalize upd H5 p6 (.lst [V.str "-"]) = H6 at z2 s56 ⊢
          unfold weftM at q
          by_cases e : ds.drop 4 = [[45]]
          · rw [if_pos e] at q
            rw [decide_eq_true e]
            refine ⟨_, rfl, ifF rfl ⟨sz_le (n := 0) (by decide), fun p7 hp7 _ => ?_⟩⟩
            exact q _ p7 (s56.trans (same_new hp7)) upd_same
          · rw [if_neg e] at q
            rw [decide_eq_false e]
            refine ⟨_, rfl, ifT rfl ⟨_, h3, 4, rfl, p, _, rfl, SqL.of z2, fun p7 hp7 => ?_⟩⟩
            rw [show cutV (txs ds) (some 4) none = txs (ds.drop 4) from txs_from ds 4]
            exact q _ p7 (s56.trans (same_new hp7)) upd_same)) pa_nil)) (by rfl))
      (pss_cons (ps_set (i := 6) sc__law_lot.nd rfl (Or.inl rfl) (PE_imp (t' := tEarlN K) (pe_ifExp (pt_cmpR op_ne (pe_ix ix_list (pv 3) pe_int (fun _ _ => rfl)) pe_str (nomark _)) (pe_lc (own := [("_law_word", 7)]) (g := gName 7) (tt := tYes) rfl sc__law_lot.nd (pi_list (pe_split (pe_ix ix_list (pv 3) pe_int (fun _ _ => rfl)) pe_str)) (blkOk_by (own := [("_law_word", 7)]) (N := ["_law_letters", "_law_ahead", "_law_line", "_law_words", "_law_number_here", "_law_weft", "_law_earlier", "_law_word", "_law_n", "_law_it", "_law_lot_here"]) (sc := defScope s__law_lot) (by decide +kernel)) (fun _ _ _ _ _ => pg_name (i := 7) sc__law_lot.nd rfl (Or.inl rfl)) (fun _ _ _ _ _ => pts_nil) (fun _ _ _ _ _ => (pe_call GN (hr.mono (by decide)) (by rfl) gN FN.kp bN .nil pass0 (pa_cons (pv 7) pa_nil)))) (Mq.pe_ls pa_nil)) (fun σ H Q h => by
          obtain ⟨o0, o1, o2, p, o4, o5, o6, o7, o8, o9, o10, ds, w3, rfl, hp, h3, hl, hlo, hpa, q⟩ := h
          refine ⟨_, rfl, p, _, 3, _, rfl, rfl, SqL.of hp, h3, rfl, _, rfl, ?_⟩
          rw [show decide (V.str (S w3) = V.str "-") = decide (w3 = [45]) from S_dec w3 [45]]
          unfold earlN at q
          by_cases e0 : w3 = [45]
          · rw [decide_eq_true e0]
            rw [if_pos e0] at q
            refine ifF rfl ⟨sz_le (n := 0) (by decide), fun p0 hp0 _ => ?_⟩
            exact q _ _ (same_new hp0) upd_same
          rw [decide_eq_false e0]
          rw [if_neg e0] at q
          refine ifT rfl ⟨_, rfl, p, _, 3, _, rfl, rfl, SqL.of hp, h3, ⟨_, rfl⟩, S w3, S [44], rfl, rfl, rfl, sz_le (by rw [SX.S_len]; omega), fun p1 hp1 => ?_⟩
          rw [spl_S, map_SV]
          have s1 := same_new (o := HO.lst (txs (spl 44 w3))) hp1
          have z1 : upd H p1 (.lst (txs (spl 44 w3))) p1 = some (.lst (txs (spl 44 w3))) := upd_same
          generalize upd H p1 (.lst (txs (spl 44 w3))) = H1 at s1 z1 ⊢
          unfold nums at q
          have hm := spl_many 44 w3
          have hpa : ∀ p ∈ spl 44 w3, p.length ≤ 50 := hpa
          have hlw := spl_low (c := 44) hlo
          generalize spl 44 w3 = ws at z1 q hpa hm hlw ⊢
          refine ⟨p1, rfl, ⟨_, SqL.of z1⟩, fun L hL => ?_⟩
          refine lc_yes (walk_list (a := p1) (xs := txs ws)) (fun i H' => Same H1 H' ∧ H' L = some (.lst (((ws.map numM).take i).map optN))) ⟨same_new hL, upd_same⟩ (fun _ _ _ pv => SqL.of (pv.1 _ _ z1)) ?_ ?_
          · rintro i x H2 H3 hi ⟨s2, zL⟩ ⟨rfl, hx⟩
            rw [List.length_map] at hi
            rw [List.getElem?_map, List.getElem?_eq_getElem hi] at hx
            cases hx
            have hwi := hpa _ (List.getElem_mem hi)
            refine ⟨rfl, _, rfl, ws[i], rfl, by omega, hlw _ (List.getElem_mem hi), (fun _ => by omega), fun H4 s4 => ?_⟩
            refine ⟨_, s4 _ _ zL, sz_lt (by rw [List.length_map, List.length_take]; omega), push_same hL (s2.trans s4), ?_⟩
            rw [upd_same, List.take_add_one, List.getElem?_map, List.getElem?_eq_getElem hi, List.map_append]
            rfl
          · rintro H2 ⟨s2, zL⟩
            rw [List.length_map, List.take_of_length_le (by rw [List.length_map]; exact Nat.le_refl _)] at zL
            exact q _ _ (s1.trans s2) zL)))
      (pss_cons (ps_if (PT_imp (t' := tStop1 K) (PW.pt (pw_or (pt_cmpR op_isN (pv 4) pe_non (nomark _)) (pw_or (pt_cmpR (op_in_seqK (K := K) rfl) pe_non (pv 6) rfl) (pw_or1 (pt_cmpR (op_neD hu) (pe_lc (own := [("_law_it", 9)]) (g := gName 9) rfl sc__law_lot.nd (pi_list (pv 5)) (blkOk_by (own := [("_law_it", 9)]) (N := ["_law_letters", "_law_ahead", "_law_line", "_law_words", "_law_number_here", "_law_weft", "_law_earlier", "_law_word", "_law_n", "_law_it", "_law_lot_here"]) (sc := defScope s__law_lot) (by decide +kernel)) (fun _ _ _ _ _ => pg_name (i := 9) sc__law_lot.nd rfl (Or.inl rfl)) (fun _ _ _ _ _ => pts_one (pt_cmpR (op_notIn_seqK (K := K) rfl) (pv 9) (pe_call GI (hr.mono (by decide)) (by rfl) gI FI.kp bI .nil pass0 (pa_cons (pv 0) pa_nil)) rfl)) (fun _ _ _ _ _ => (pv 9))) (Mq.pe_ls pa_nil) (nomark _)))))) (fun σ H Q h => by
          obtain ⟨sg, o1, o2, o3, m, pw, pe, o7, o8, o9, o10, ws, ms, rfl, hpw, hpe, hlw, hwl, hsg, q⟩ := h
          cases m with
          | none => exact ⟨_, rfl, rfl, _, rfl, ifT rfl (q H (Same.refl H))⟩
          | some n =>
            refine ⟨_, rfl, rfl, _, rfl, ifF rfl ?_⟩
            have q : ∀ H', Same H H' → Q (!(ms.all Option.isSome && ws.all (itemB sg))) H' := q
            refine ⟨_, rfl, pe, _, rfl, Or.inl (SqL.of hpe), rfl, flat_opts _, _, rfl, ?_⟩
            show if inV .non (ms.map optN) = true then _ else _
            rw [inV_none]
            cases e1 : ms.all Option.isSome with
            | false =>
              rw [e1] at q
              exact ifT rfl (q H (Same.refl H))
            | true =>
              rw [e1] at q
              refine ifF rfl ⟨_, rfl, pw, rfl, ⟨_, SqL.of hpw⟩, fun L hL => ?_⟩
              refine lc_it (walk_list (a := pw) (xs := txs ws)) (fun i H' => Same H H' ∧ H' L = some (.lst (txs (badI sg (ws.take i))))) ⟨same_new hL, upd_same⟩ (fun _ _ _ pv => SqL.of (pv.1 _ _ hpw)) ?_ ?_
              · rintro i x H2 H3 hi ⟨s2, zL⟩ ⟨rfl, hx⟩
                rw [List.length_map] at hi
                have hwi : ws[i]? = some ws[i] := List.getElem?_eq_getElem hi
                rw [List.getElem?_map, hwi] at hx
                cases hx
                refine ⟨rfl, _, rfl, _, rfl, sg, rfl, hsg, fun H4 p4 s4 _ z4 => ?_⟩
                refine ⟨p4, _, rfl, Or.inl (SqL.of z4), rfl, flat_txs _, _, rfl, ?_⟩
                show if (!inV (.str (S ws[i])) (txs (itemsL sg))) = true then _ else _
                rw [inV_txs, items_mem]
                have er := badI_snoc (sg := sg) hwi
                have hlen := badI_len sg (ws.take i)
                have hlen2 := List.length_take_le i ws
                by_cases hb : (!itemB sg ws[i]) = true
                · rw [if_pos hb] at er
                  refine ifT hb ⟨_, rfl, _, s4 _ _ zL, sz_lt (by rw [List.length_map]; omega), push_same hL (s2.trans s4), ?_⟩
                  rw [upd_same, er]
                  unfold txs
                  rw [List.map_append]
                  rfl
                · rw [if_neg hb, List.append_nil] at er
                  rw [er]
                  exact ifF (Bool.eq_false_iff.mpr hb) ⟨s2.trans s4, s4 _ _ zL⟩
              · rintro H2 ⟨s2, zL⟩
                rw [List.length_map, List.take_length] at zL
                refine ⟨sz_le (n := 0) (by decide), fun p hp _ => ?_⟩
                have sp := same_new (o := HO.lst []) hp
                refine ⟨_, _, .lst (SqL.of (sp _ _ zL)) (dp_txs _), .lst (SqL.of upd_same) .nil, shaped_txs (badI_low hlw), by decide +kernel, ?_⟩
                rw [eqv_emp]
                rw [show ((badI sg ws).map fun w => PyData.str (S w)).isEmpty = ws.all (itemB sg) by rw [← badI_all]; cases badI sg ws <;> rfl]
                exact ⟨_, rfl, q _ (s2.trans sp)⟩)) (pss_one (ps_ret pe_non)) pss_nil)
      (pss_cons (ps_if (PT_imp (t' := tStopB K) (PW.pt (pw_or (PW.pt (pw_and (pt_cmpR (op_neD hu) (pv 1) (Mq.pe_ls pa_nil) (nomark _)) (pw_and1 (pt_not (pt_cmpR op_lt (pe_ix (ix_tupK (K := K) rfl) (pe_ix (ix_listK (K := K) rfl) (pv 1) (pe_un un_neg pe_int) (fun _ _ => rfl)) pe_int (fun _ _ => rfl)) (pv 4) (nomark _)))))) (pw_or1 (pt_cmpR (op_neD hu) (pv 6) (pe_callB (cr_sortedSet rfl) (by rfl) bS (by decide +kernel) (pa_cons (pe_callTy (cr_setLI rfl) (by rfl) bT (by decide +kernel) (pa_cons (pv 6) pa_nil)) pa_nil)) (nomark _))))) (fun σ H Q h => by
          obtain ⟨a, n, pe, vs, acc, es, h1, h4, h6, ha, hall, hlo, hpe, hel, q⟩ := h
          rcases List.eq_nil_or_concat acc with rfl | ⟨acc0, L, rfl⟩
          · have en : nextB (([] : List Lot).map fun L => L.n) n = true := rfl
            refine ⟨_, h1, sz_le (n := 0) (by decide), fun p hp _ => ?_⟩
            have s1 := same_new (o := HO.lst []) hp
            have zpe := s1 _ _ hpe
            refine ⟨_, _, .lst (SqL.kp ha s1) (dp_lots (hall.kp (KpT.same s1))), .lst (SqL.of upd_same) .nil, shaped_lots hlo, by decide +kernel, ?_⟩
            generalize upd H p (.lst []) = H1 at s1 zpe ⊢
            refine ⟨_, rfl, ifF rfl (ifF rfl ?_)⟩
            refine ⟨_, h6, _, h6, pe, toI es, rfl, (by rw [← intsV_toI]; exact SqL.of zpe), (by unfold scanBound toI; rw [List.length_map]; omega), fun p3 c hp3 hc => ?_⟩
            have s3 := same_new (o := SetO w p3 (fun j => decide (j ∈ toI es)) c) hp3
            have zpe3 := s3 _ _ zpe
            have hc : c ≤ es.length := by unfold toI at hc; rw [List.length_map] at hc; exact hc
            refine ⟨p3, _, c, rfl, upd_same, by omega, fun ns p4 hns hmem _ hp4 => ?_⟩
            have s4 := same_new (o := HO.lst (ns.map V.int)) hp4
            refine ⟨.list ((toI es).map PyData.int), .list (ns.map PyData.int), .lst (by rw [← intsV_toI]; exact SqL.of (s4 _ _ zpe3)) (dp_ints _), .lst (SqL.of upd_same) (dp_ints _), shaped_intsL _, shaped_intsL _, ?_⟩
            rw [eqv_intsL, asc_ints hns fun k => (hmem k).trans decide_eq_true_iff]
            have q9 := q _ ((s1.trans s3).trans s4)
            rw [en] at q9
            exact ⟨_, rfl, q9⟩
          · rw [List.concat_eq_append] at hall hlo q
            refine ⟨_, h1, sz_le (n := 0) (by decide), fun p hp _ => ?_⟩
            have s1 := same_new (o := HO.lst []) hp
            have zpe := s1 _ _ hpe
            have ha1 := SqL.kp ha s1
            have hall1 := hall.kp (KpT.same s1)
            refine ⟨_, _, .lst ha1 (dp_lots hall1), .lst (SqL.of upd_same) .nil, shaped_lots hlo, by decide +kernel, ?_⟩
            rw [eqv_emp, show ((acc0 ++ [L]).map lotD).isEmpty = false by rw [List.map_append]; cases acc0.map lotD <;> rfl]
            generalize upd H p (.lst []) = H1 at s1 zpe ha1 hall1 ⊢
            obtain ⟨vs0, v, rfl, pp, pe', pw', rfl, hpp, _, _⟩ := lots_last hall1
            have en : nextB ((acc0 ++ [L]).map fun L => L.n) n = decide (L.n < n) := by
              unfold nextB
              rw [List.map_append, show ([L].map fun L => L.n) = [L.n] from rfl, List.getLast?_concat]
            refine ⟨_, rfl, ifT rfl ⟨_, h1, _, rfl, a, _, -1, _, rfl, rfl, ha1, atI_last _ _, pp, _, 0, _, rfl, rfl, hpp, atI_nat (j := 0) rfl, _, h4, _, _, rfl, rfl, _, rfl, ?_⟩⟩
            rw [show decide (((L.n : Nat) : Int) < ((n : Nat) : Int)) = decide (L.n < n) from decide_eq_decide.mpr (by omega)]
            by_cases hmn : L.n < n
            · rw [decide_eq_true hmn] at en ⊢
              refine ifF rfl ?_
              refine ⟨_, h6, _, h6, pe, toI es, rfl, (by rw [← intsV_toI]; exact SqL.of zpe), (by unfold scanBound toI; rw [List.length_map]; omega), fun p3 c hp3 hc => ?_⟩
              have s3 := same_new (o := SetO w p3 (fun j => decide (j ∈ toI es)) c) hp3
              have zpe3 := s3 _ _ zpe
              have hc : c ≤ es.length := by unfold toI at hc; rw [List.length_map] at hc; exact hc
              refine ⟨p3, _, c, rfl, upd_same, by omega, fun ns p4 hns hmem _ hp4 => ?_⟩
              have s4 := same_new (o := HO.lst (ns.map V.int)) hp4
              refine ⟨.list ((toI es).map PyData.int), .list (ns.map PyData.int), .lst (by rw [← intsV_toI]; exact SqL.of (s4 _ _ zpe3)) (dp_ints _), .lst (SqL.of upd_same) (dp_ints _), shaped_intsL _, shaped_intsL _, ?_⟩
              rw [eqv_intsL, asc_ints hns fun k => (hmem k).trans decide_eq_true_iff]
              have q9 := q _ ((s1.trans s3).trans s4)
              rw [en] at q9
              exact ⟨_, rfl, q9⟩
            · rw [decide_eq_false hmn] at en ⊢
              have q9 := q _ s1
              rw [en] at q9
              exact ifT rfl q9)) (pss_one (ps_ret pe_non)) pss_nil)
      (pss_cons (ps_if (PT_imp (t' := tStop3 K) (pt_cmpR (op_neD hu) (pe_lc (own := [("_law_n", 8)]) (g := gName 8) rfl sc__law_lot.nd (pi_list (pv 6)) (blkOk_by (own := [("_law_n", 8)]) (N := ["_law_letters", "_law_ahead", "_law_line", "_law_words", "_law_number_here", "_law_weft", "_law_earlier", "_law_word", "_law_n", "_law_it", "_law_lot_here"]) (sc := defScope s__law_lot) (by decide +kernel)) (fun _ _ _ _ _ => pg_name (i := 8) sc__law_lot.nd rfl (Or.inl rfl)) (fun _ _ _ _ _ => pts_one (pt_cmpR (op_notIn_seqK (K := K) rfl) (pv 8) (pe_lc (own := [("_law_lot_here", 10)]) (g := gName 10) (tt := tYes) rfl sc__law_lot.nd (pi_listK (K := K) rfl (pv 1)) (blkOk_by (own := [("_law_lot_here", 10)]) (N := ["_law_letters", "_law_ahead", "_law_line", "_law_words", "_law_number_here", "_law_weft", "_law_earlier", "_law_word", "_law_n", "_law_it", "_law_lot_here"]) (sc := relS { kind := .function, names := [(".0", .local), ("_law_n", .local), ("_law_ahead", .free)], isGenerator := false, isCoroutine := false } (defScope s__law_lot)) (by decide +kernel)) (fun _ _ _ _ _ => pg_name (i := 10) sc__law_lot.nd rfl (Or.inl rfl)) (fun _ _ _ _ _ => pts_nil) (fun _ _ _ _ _ => (pe_ix (ix_tupK (K := K) rfl) (pv 10) pe_int (fun _ _ => rfl)))) rfl)) (fun _ _ _ _ _ => (pv 8))) (Mq.pe_ls pa_nil) (nomark _)) (fun σ H Q h => by
          obtain ⟨o0, a, o2, o3, o4, o5, pe, o7, o8, o9, o10, vs, acc, es, rfl, ha, hall, hacc, hpe, hel, q⟩ := h
          have hvl : vs.length = acc.length := hall.len
          refine ⟨_, rfl, pe, rfl, ⟨_, SqL.of hpe⟩, fun L hL => ?_⟩
          refine lc_it (walk_list (a := pe) (xs := intsV es)) (fun i H' => Same H H' ∧ H' L = some (.lst (intsV (badN (acc.map fun L => L.n) (es.take i))))) ⟨same_new hL, upd_same⟩ (fun _ _ _ pv => SqL.of (pv.1 _ _ hpe)) ?_ ?_
          · rintro i x H2 H3 hi ⟨s2, zL⟩ ⟨rfl, hx⟩
            rw [List.length_map] at hi
            have hwi : es[i]? = some es[i] := List.getElem?_eq_getElem hi
            rw [List.getElem?_map, hwi] at hx
            cases hx
            have ha2 := SqL.kp ha s2
            have hall2 := hall.kp (KpT.same s2)
            refine ⟨rfl, _, rfl, _, rfl, a, rfl, ⟨_, ha2⟩, fun L2 hL2 => ?_⟩
            refine lc_yes (walk_list (a := a) (xs := vs)) (fun j H' => Same H3 H' ∧ H' L2 = some (.lst (intsV ((acc.take j).map fun L => L.n)))) ⟨same_new hL2, upd_same⟩ (fun _ _ _ pp => SqL.kp ha2 pp.1) ?_ ?_
            · rintro j y H5 H6 hj ⟨s5, zL2⟩ ⟨rfl, hy⟩
              obtain ⟨L', hL', pp, pe', pw', rfl, hpp, _⟩ := hall2.at hy
              refine ⟨rfl, _, rfl, pp, _, 0, _, rfl, rfl, Same.tup s5 hpp, atI_nat (j := 0) rfl, _, zL2, sz_lt (by rw [List.length_map, List.length_map, List.length_take]; omega), push_same hL2 s5, ?_⟩
              rw [upd_same, List.take_add_one, hL', List.map_append]
              exact congrArg (fun z => some (HO.lst z)) (List.map_append (f := fun n : Nat => V.int ((n : Nat) : Int)) (l₁ := (acc.take j).map fun L => L.n) (l₂ := [L'.n])).symm
            · rintro H5 ⟨s5, zL2⟩
              rw [List.take_of_length_le (by omega)] at zL2
              refine ⟨L2, _, rfl, Or.inl (SqL.of zL2), rfl, flat_ints _, _, rfl, ?_⟩
              show if (!inV (optN (some es[i])) (intsV (acc.map fun L => L.n))) = true then _ else _
              rw [inV_opt]
              show if (!decide (es[i] ∈ acc.map fun L => L.n)) = true then _ else _
              have er := badN_snoc (kn := acc.map fun L => L.n) hwi
              have hlen := badN_len (acc.map fun L => L.n) (es.take i)
              have hlen2 := List.length_take_le i es
              have zL5 := s5 _ _ zL
              by_cases hb : (!decide (es[i] ∈ acc.map fun L => L.n)) = true
              · rw [if_pos hb] at er
                refine ifT hb ⟨_, rfl, _, zL5, sz_lt (by rw [List.length_map]; omega), push_same hL (s2.trans s5), ?_⟩
                rw [upd_same, er]
                unfold intsV
                rw [List.map_append]
                rfl
              · rw [if_neg hb, List.append_nil] at er
                rw [er]
                exact ifF (Bool.eq_false_iff.mpr hb) ⟨s2.trans s5, zL5⟩
          · rintro H2 ⟨s2, zL⟩
            rw [List.length_map, List.take_length, intsV_toI] at zL
            refine ⟨sz_le (n := 0) (by decide), fun p hp _ => ?_⟩
            have sp := same_new (o := HO.lst []) hp
            refine ⟨_, _, .lst (SqL.of (sp _ _ zL)) (dp_ints _), .lst (SqL.of upd_same) .nil, shaped_intsL _, by decide +kernel, ?_⟩
            rw [eqv_emp]
            rw [show ((toI (badN (acc.map fun L => L.n) es)).map PyData.int).isEmpty = es.all fun n => decide (n ∈ acc.map fun L => L.n) by rw [← badN_all]; cases badN (acc.map fun L => L.n) es <;> rfl]
            exact ⟨_, rfl, q _ (s2.trans sp)⟩)) (pss_one (ps_ret pe_non)) pss_nil)
      (pss_one (ps_ret (pe_tup (pa_cons (pv 4) (pa_cons (pe_cmpR op_eq (pe_ix ix_list (pv 3) pe_int (fun _ _ => rfl)) pe_str (nomark _)) (pa_cons (pe_callTy call_tuple_of (by rfl) B.tuple (by decide +kernel) (pa_cons (pv 6) pa_nil)) (pa_cons (pe_callTy call_tuple_of (by rfl) B.tuple (by decide +kernel) (pa_cons (pv 5) pa_nil)) pa_nil)))))))))))))), ?_⟩
    have hz : (S line).length = line.length := SX.S_len line
    refine ⟨_, rfl, ⟨_, rfl⟩, S line, S [32], rfl, rfl, rfl, sz_le (by omega), fun p hp1 => ?_⟩
    rw [spl_S, map_SV]
    have s1 := same_new (o := HO.lst (txs (spl 32 line))) hp1
    have z1 : upd H p (.lst (txs (spl 32 line))) p = some (.lst (txs (spl 32 line))) := upd_same
    generalize upd H p (.lst (txs (spl 32 line))) = H1 at s1 z1 ⊢
    have hw := spl_low (c := 32) hlow
    have hm := spl_many 32 line
    have hn : ∀ x ∈ spl 32 line, x.length ≤ 4000 := fun x hx => Nat.le_trans (spl_len hx) hl
    refine ⟨_, rfl, p, _, rfl, .inl (SqL.of z1), _, _, rfl, rfl, _, rfl, ?_⟩
    by_cases h5 : (spl 32 line).length < 5
    · refine ifT (decide_eq_true (by rw [List.length_map]; omega)) (q H1 _ s1 ?_)
      rw [lot_none h5]
      rfl
    refine ifF (decide_eq_false (by rw [List.length_map]; omega)) ?_
    generalize hws : spl 32 line = wds at z1 hw hm hn hp h5 ⊢
    match wds, h5, hws with
    | [], h5, _ => exact (h5 (by decide)).elim
    | [_], h5, _ => exact (h5 (by show 1 < 5; decide)).elim
    | [_, _], h5, _ => exact (h5 (by show 2 < 5; decide)).elim
    | [_, _, _], h5, _ => exact (h5 (by show 3 < 5; decide)).elim
    | [_, _, _, _], h5, _ => exact (h5 (by show 4 < 5; decide)).elim
    | w0 :: w1 :: w2 :: w3 :: w4 :: ws, _, hws =>
      have hfm := lot_five (sg := sg) (known := acc.map fun L => L.n) hws
      have h0 : atI (txs (w0 :: w1 :: w2 :: w3 :: w4 :: ws)) 0 = some (.str (S w0)) := atI_nat (j := 0) rfl
      have h1 : atI (txs (w0 :: w1 :: w2 :: w3 :: w4 :: ws)) 1 = some (.str (S w1)) := atI_nat (j := 1) rfl
      have h2 : atI (txs (w0 :: w1 :: w2 :: w3 :: w4 :: ws)) 2 = some (.str (S w2)) := atI_nat (j := 2) rfl
      have h3 : atI (txs (w0 :: w1 :: w2 :: w3 :: w4 :: ws)) 3 = some (.str (S w3)) := atI_nat (j := 3) rfl
      refine ⟨_, rfl, p, _, 0, _, rfl, rfl, SqL.of z1, h0, rfl, _, rfl, ?_⟩
      rw [show decide (V.str (S w0) = V.str "lot") = decide (w0 = lotL) from S_dec w0 lotL]
      cases c0 : decide (w0 = lotL) with
      | false =>
        refine ifT rfl (ifT rfl (q H1 _ s1 ?_))
        rw [c0] at hfm
        rw [hfm]
        rfl
      | true =>
        refine ifF rfl ⟨_, rfl, p, _, 2, _, rfl, rfl, SqL.of z1, h2, sz_le (n := 2) (by decide), fun p2 hp2 => ?_⟩
        have s2 := same_new (o := HO.tup [V.str "done", V.str "open"]) hp2
        refine ⟨p2, _, rfl, Or.inr (Or.inl (Or.inl upd_same)), rfl, rfl, _, rfl, ?_⟩
        show if (!inV (V.str (S w2)) [V.str "done", V.str "open"]) = true then _ else _
        rw [inV_two]
        have s12 := s1.trans s2
        have z2 := s2 _ _ z1
        generalize upd H1 p2 (.tup [V.str "done", V.str "open"]) = H2 at s12 z2 ⊢
        cases c2 : (decide (w2 = doneL) || decide (w2 = openL)) with
        | false =>
          refine ifT rfl (q H2 _ s12 ?_)
          rw [c0, c2] at hfm
          rw [hfm]
          rfl
        | true =>
          have hfm := lot_law (sg := sg) (known := acc.map fun L => L.n) hws c0 c2
          refine ifF rfl ?_
          have n1 := hn w1 (by simp)
          have n3 := hn w3 (by simp)
          refine ⟨_, rfl, p, _, 1, _, rfl, rfl, SqL.of z2, h1, w1, rfl, by omega, hw w1 (by simp), num_short (hp w1 (by simp)).1, fun H3 s3 => ?_⟩
          have hll : ws.length ≤ 4001 := by
            simp only [List.length_cons] at hm
            omega
          refine ⟨p, w0 :: w1 :: w2 :: w3 :: w4 :: ws, rfl, s3 _ _ z2, hw, by simp only [List.length_cons]; omega, fun H4 pw s4 hpw => ⟨_, _, rfl, ?_⟩⟩
          have hpw : H4 pw = some (.lst (txs (weftM (w4 :: ws)))) := hpw
          have s14 := (s12.trans s3).trans s4
          have z4 := (s3.trans s4) _ _ z2
          refine ⟨_, _, _, p, _, _, _, _, _, _, _, _, w3, rfl, z4, h3, by omega, hw w3 (by simp), (hp w3 (by simp)).1, fun H5 pe s5 hpe => ?_⟩
          have s15 := s14.trans s5
          have z5 := s5 _ _ z4
          have hpw5 := s5 _ _ hpw
          have hwn : (weftM (w4 :: ws)).length ≤ 100000 := by
            unfold weftM
            split
            · exact Nat.zero_le _
            · simp only [List.length_cons]; omega
          have hwl : LowLs (weftM (w4 :: ws)) := by
            unfold weftM
            split
            · exact fun u hu => by cases hu
            · exact fun u hu => hw u (by simp only [List.mem_cons] at hu ⊢; exact Or.inr (Or.inr (Or.inr (Or.inr hu))))
          refine ⟨sg, _, _, _, numM w1, pw, pe, _, _, _, _, weftM (w4 :: ws), earlN w3, rfl, hpw5, hpe, hwl, hwn, hsg, fun H6 s6 => ?_⟩
          have s16 := s15.trans s6
          have hel : (vals (earlN w3)).length ≤ 61 := by
            unfold vals earlN nums
            rw [List.length_map]
            split
            · exact Nat.zero_le _
            · rw [List.length_map]
              have := (hp w3 (by simp)).2
              omega
          cases en : numM w1 with
          | none =>
            rw [en] at hfm
            exact ifT rfl (q H6 _ s16 (by rw [hfm]; rfl))
          | some n =>
            rw [en] at hfm
            dsimp only at hfm
            show if (!((earlN w3).all Option.isSome && (weftM (w4 :: ws)).all (itemB sg))) = true then _ else _
            cases e1 : ((earlN w3).all Option.isSome && (weftM (w4 :: ws)).all (itemB sg)) with
            | false =>
              rw [e1] at hfm
              exact ifT rfl (q H6 _ s16 (by rw [hfm]; rfl))
            | true =>
              rw [e1, if_pos rfl] at hfm
              have hms := (Bool.and_eq_true_iff.mp e1).1
              have hpe6 := s6 _ _ hpe
              rw [some_vals hms] at hpe6
              have ha6 := SqL.kp ha s16
              have hall6 := hall.kp (KpT.same s16)
              refine ifF rfl ⟨a, n, pe, us, acc, vals (earlN w3), rfl, rfl, rfl, ha6, hall6, hlots, hpe6, hel, fun H7 s7 => ?_⟩
              have s17 := s16.trans s7
              cases e2 : (nextB (acc.map fun L => L.n) n && ascB (vals (earlN w3))) with
              | false =>
                rw [e2] at hfm
                exact ifT rfl (q H7 _ s17 (by rw [hfm]; rfl))
              | true =>
                rw [e2, if_pos rfl] at hfm
                have hpe7 := s7 _ _ hpe6
                refine ifF rfl ⟨_, a, _, _, _, _, pe, _, _, _, _, us, acc, vals (earlN w3), rfl, SqL.kp ha6 s7, hall6.kp (KpT.same s7), by omega, hpe7, hel, fun H8 s8 => ?_⟩
                have s18 := s17.trans s8
                cases e3 : ((vals (earlN w3)).all fun n => decide (n ∈ acc.map fun L => L.n)) with
                | false =>
                  rw [e3] at hfm
                  exact ifT rfl (q H8 _ s18 (by rw [hfm]; rfl))
                | true =>
                  rw [e3, if_pos rfl] at hfm
                  have hpe8 := s8 _ _ hpe7
                  have s58 := (s6.trans s7).trans s8
                  have hpw8 := s58 _ _ hpw5
                  refine ifF rfl ⟨_, rfl, _, rfl, p, _, 2, _, rfl, rfl, SqL.of (s58 _ _ z5), h2, rfl, ?_⟩
                  rw [show decide (V.str (S w2) = V.str "done") = decide (w2 = doneL) from S_dec w2 doneL]
                  refine ⟨_, rfl, pe, _, rfl, Or.inl ⟨SqL.of hpe8, fun t1 ht1 => ?_⟩⟩
                  have s9 := same_new (o := HO.tup (intsV (vals (earlN w3)))) ht1
                  have zt1 : SqT K (upd H8 t1 (.tup (intsV (vals (earlN w3))))) t1 (intsV (vals (earlN w3))) := Or.inl (Or.inl upd_same)
                  have hpw9 := s9 _ _ hpw8
                  generalize upd H8 t1 (.tup (intsV (vals (earlN w3)))) = H9 at s9 zt1 hpw9 ⊢
                  refine ⟨_, rfl, pw, _, rfl, Or.inl ⟨SqL.of hpw9, fun t2 ht2 => ?_⟩⟩
                  have s10 := same_new (o := HO.tup (txs (weftM (w4 :: ws)))) ht2
                  have zt2 : SqT K (upd H9 t2 (.tup (txs (weftM (w4 :: ws))))) t2 (txs (weftM (w4 :: ws))) := Or.inl (Or.inl upd_same)
                  have zt1 := Same.tup s10 zt1
                  generalize upd H9 t2 (.tup (txs (weftM (w4 :: ws)))) = H10 at s10 zt1 zt2 ⊢
                  refine ⟨sz_le (n := 4) (by decide), fun p8 hp8 => ?_⟩
                  have s11 := same_new (o := HO.tup [V.int ((n : Nat) : Int), V.bl (decide (w2 = doneL)), V.ref t1, V.ref t2]) hp8
                  refine q _ _ (((s18.trans s9).trans s10).trans s11) ?_
                  rw [hfm]
                  exact ⟨p8, t1, t2, rfl, Or.inl (Or.inl upd_same), Same.tup s11 zt1, Same.tup s11 zt2⟩
end
end Lw

namespace Lw
open PySem PySem.Spec PyProof.Rows L2 Mq
open SX (S)
/-! ### the law's own reading of a text -/
structure TOk2 (t : List Nat) : Prop where
  ok : TOk t
  cnt : ∀ l ∈ spl 10 t, ∀ w ∈ spl 32 l, (spl 44 w).length ≤ 60
theorem lot_w {sg known l : List Nat} {L : Lot} (h : lotM sg known l = some L) : L.w.all (itemB sg) = true := by
  unfold lotM at h
  split at h
  · split at h
    · split at h
      · split at h
        · rename_i e
          cases h
          exact (Bool.and_eq_true_iff.mp e).2
        · cases h
      · cases h
    · cases h
  · cases h
theorem lot_low {sg known l : List Nat} {L : Lot} (hs : LowL sg) (h : lotM sg known l = some L) : LowLs L.w := fun u hu => item_low hs (List.all_eq_true.mp (lot_w h) u hu)
theorem lots_snoc {acc : List Lot} {L : Lot} (h : LotsLow acc) (k : LowLs L.w) : LotsLow (acc ++ [L]) := fun M hM => by
  rcases List.mem_append.mp hM with hM | hM
  · exact h M hM
  · rw [List.mem_singleton.mp hM]
    exact k
def PartsR (K : PySem.W.Frag) (H : Hp) : List Lot ⊕ Nat → V → Prop
  | .inr k, u => u = .int (k : Nat)
  | .inl Ls, u => ∃ p vs, u = .ref p ∧ SqT K H p vs ∧ LotAll K H vs Ls
def spParts (K : PySem.W.Frag) : Sp := fun vs H Q _ => ∃ (sg : List Nat) (v : V), vs = [.str (S sg), v] ∧ sg.length ≤ 1000 ∧ LowL sg ∧ ((NoTx K H v ∧ Q (.int (0 : Nat)) H) ∨ ∃ t : List Nat, v = .str (S t) ∧ TOk2 t ∧ ∀ H' u, Same H H' → PartsR K H' (pageM sg t) u → Q u H')
section
variable {P : Program} {w : World} {K : PySem.W.Frag} {mg : Str → Option Value} {base : Heap}
theorem ok_parts {f fO : Addr} {fd fdO : FuncData} (F : Fun K "_law_parts" "_law_parts" s__law_parts f fd) (B : Blt mg)
    (FO : Fun K "_law_lot" "_law_lot" s__law_lot fO fdO) (gO : mg "_law_lot" = some (.ref fO)) (bO : Binds K fdO ["_law_letters", "_law_ahead", "_law_line"] []) (GO : FnOk P w K mg base CX0 2 fO fdO ["_law_letters", "_law_ahead", "_law_line"] (spLawLot K)) :
    FnOk P w K mg base CX0 3 f fd ["_law_letters", "_law_page_here"] (spParts K) := by
  refine F.ok sc__law_parts (fun vs H Q E h => ?_) (fun cdv A outer s H vs Q E hr h => ?_)
  · obtain ⟨_, _, rfl, _⟩ := h
    rfl
  · obtain ⟨sg, v, rfl, hsg, hsl, h⟩ := h
    refine ⟨_, (pss_cons (ps_if (pt_not (pt_val (pe_callB call_isi (by rfl) B.isi (by decide +kernel) (pa_cons (pv 1) (pa_cons (pe_bltn (v := .ty "str") (by rfl) B.str (by decide +kernel) rfl) pa_nil))))) (pss_one (ps_ret pe_int)) pss_nil)
      (pss_cons (ps_par (i := 2) (j := 3) rfl sc__law_parts.nd rfl rfl (by decide) rfl rfl (pa_cons (pe_split (pv 1) pe_str) (pa_cons (Mq.pe_ls pa_nil) pa_nil)) (by rfl))
      (pss_cons (ps_if (pt_cmpR op_ne (pe_ix ix_list (pv 2) pe_int (fun _ _ => rfl)) pe_str (nomark _)) (pss_one (ps_ret pe_int)) pss_nil)
      (pss_cons (ps_for PassesOwn.never rfl (pi_enum (by rfl) B.enumerate (pa_cons (pe_slice sl_list (pv 2) (po_some pe_int) po_none) pa_nil)) (pg_tup rfl (pgs_cons (pg_name (i := 4) sc__law_parts.nd rfl (Or.inl rfl)) (pgs_cons (pg_name (i := 5) sc__law_parts.nd rfl (Or.inl rfl)) pgs_nil)))
        (pss_cons (ps_set (i := 6) sc__law_parts.nd rfl (Or.inl rfl) (pe_call GO (hr.mono (by decide)) (by rfl) gO FO.kp bO .nil pass0 (pa_cons (pv 0) (pa_cons (pv 3) (pa_cons (pv 5) pa_nil)))))
        (pss_cons (ps_if (pt_cmpR op_isN (pv 6) pe_non (nomark _)) (pss_one (ps_ret (pe_op op_add (pv 4) pe_int))) pss_nil)
        (pss_one (ps_expr (pe_bm PySem.F.plainAttrs_list PySem.F.slot_list_append PySem.F.type_list_append mt_append (pv 3) (pa_cons (pv 6) pa_nil)))))))
      (pss_one (ps_ret (pe_callTy call_tuple_of (by rfl) B.tuple (by decide +kernel) (pa_cons (pv 3) pa_nil)))))))), ?_⟩
    rcases h with ⟨⟨c, ty, kt⟩, q⟩ | ⟨t, rfl, ⟨ht, hcnt⟩, q⟩
    · exact ⟨_, rfl, _, .ty "str", _, _, false, rfl, .ty _, ty, kt, false, rfl, ifT rfl q⟩
    refine ⟨_, rfl, _, .ty "str", _, _, true, rfl, .ty _, .base (.str _), kit_self, true, rfl, ifF rfl ?_⟩
    have htl := ht.few
    have hz : (S t).length = t.length := SX.S_len t
    refine ⟨_, rfl, ⟨_, rfl⟩, S t, S [10], rfl, rfl, rfl, sz_le (by omega), fun p hp => ?_⟩
    rw [spl_S, map_SV]
    have s1 := same_new (o := HO.lst (txs (spl 10 t))) hp
    have z1 : upd H p (.lst (txs (spl 10 t))) p = some (.lst (txs (spl 10 t))) := upd_same
    generalize upd H p (.lst (txs (spl 10 t))) = H1 at s1 z1 ⊢
    refine ⟨sz_le (n := 0) (by decide), fun L hL _ => ?_⟩
    have s2 := same_new (o := HO.lst []) hL
    have z2 : upd H1 L (.lst []) L = some (.lst []) := upd_same
    have z12 := s2 _ _ z1
    generalize upd H1 L (.lst []) = H2 at s2 z2 z12 ⊢
    refine ⟨_, _, rfl, ?_⟩
    have hn : ∀ x ∈ spl 10 t, x.length ≤ 4000 := fun x hx => Nat.le_trans (spl_len hx) htl
    have hw := spl_low (c := 10) ht.low
    have hpar : ∀ l ∈ spl 10 t, ∀ w ∈ spl 32 l, Parts w ∧ (spl 44 w).length ≤ 60 := fun l hl w hw => ⟨ht.par l hl w hw, hcnt l hl w hw⟩
    have hne := spl_ne 10 t
    have hm : (spl 10 t).length ≤ 4001 := Nat.le_trans (spl_many 10 t) (by omega)
    unfold pageM at q
    generalize spl 10 t = lines at z12 hn hw hne hm hpar q
    match lines, hne, q with
    | l0 :: ls, _, q =>
      dsimp only at q
      refine ⟨_, rfl, p, _, 0, _, rfl, rfl, SqL.of z12, at_line (i := 0) rfl, rfl, _, rfl, ?_⟩
      rw [show decide (V.str (S l0) = V.str "log") = decide (l0 = logL) from S_dec l0 logL]
      by_cases c0 : l0 = logL
      rotate_left
      · rw [decide_eq_false c0]
        rw [if_neg c0] at q
        exact ifT rfl (q H2 _ (s1.trans s2) rfl)
      rw [decide_eq_true c0]
      rw [if_pos c0] at q
      refine ifF rfl ⟨_, rfl, 1, rfl, p, _, rfl, SqL.of z12, fun p3 hp3 => ?_⟩
      rw [show cutV ((l0 :: ls).map fun l => V.str (S l)) (some 1) none = txs ls from cut_tail _ _]
      have s3 := same_new (o := HO.lst (txs ls)) hp3
      have z3 : upd H2 p3 (.lst (txs ls)) p3 = some (.lst (txs ls)) := upd_same
      have z23 := s3 _ _ z2
      have hp3L : p3 ≠ L := by
        rintro rfl
        rw [z2] at hp3
        cases hp3
      have s13 : Same H1 (upd H2 p3 (.lst (txs ls))) := s2.trans s3
      generalize upd H2 p3 (.lst (txs ls)) = H3 at z3 z23 s13 ⊢
      rw [List.length_cons] at hm
      refine ⟨p3, _, rfl, SqL.of z3, ?_⟩
      refine for_it (walk_enum (a := p3) (xs := txs ls)) (fun i σ H' => Same H1 H' ∧ H' p3 = some (.lst (txs ls)) ∧ ∃ vs acc o4 o5 o6, H' L = some (.lst vs) ∧ LotAll K H' vs acc ∧ acc.length = i ∧ LotsLow acc ∧ bodyM sg (ls.drop i) acc = bodyM sg ls [] ∧
        σ = [some (.str (S sg)), some (.str (S t)), some (.ref p), some (.ref L), o4, o5, o6]) ⟨s13, z3, [], [], _, _, _, z23, .nil, rfl, (fun _ h => by cases h), rfl, rfl⟩ (fun i σ H' _ pp => SqL.of pp.2.1) ?_ ?_
      · rintro i x σ H4 H4' hi ⟨s4, z4, vs, acc, o4, o5, o6, hv, ha, hlen, hlo, hb, rfl⟩ ⟨T, y1, y2, rfl, hT, rfl, hy1, hy2⟩
        cases hy1
        rw [List.length_map] at hi
        have hil : ls[i]? = some ls[i] := List.getElem?_eq_getElem hi
        have hy2 : (txs ls)[i]? = some y2 := hy2
        rw [List.getElem?_map, hil] at hy2
        cases hy2
        have hll := hn _ (List.mem_cons_of_mem _ (List.getElem_mem hi))
        have hlw := hw _ (List.mem_cons_of_mem _ (List.getElem_mem hi))
        have hlp := hpar _ (List.mem_cons_of_mem _ (List.getElem_mem hi))
        rw [bodyM_snoc hil] at hb
        generalize ls[i] = l at hll hlw hlp hb ⊢
        have s6 := same_new (o := HO.tup [V.int (i : Nat), V.str (S l)]) hT
        have s46 := s4.trans s6
        have z6 := s6 _ _ z4
        have hv6 := s6 _ _ hv
        have ha6 := ha.kp (KpT.same s6)
        refine ⟨T, _, rfl, Or.inl (Or.inl upd_same), rfl, _, _, rfl, _, _, rfl, rfl, ?_⟩
        generalize upd H4 T (.tup [V.int (i : Nat), V.str (S l)]) = H6 at s46 z6 hv6 ha6 ⊢
        refine ⟨_, rfl, _, rfl, _, rfl, sg, l, L, vs, acc, rfl, SqL.of hv6, ha6, by omega, hlo, hsg, hsl, hll, hlw, hlp, fun H7 v7 s7 hv7 => ?_⟩
        have s47 := s46.trans s7
        have hv77 := s7 _ _ hv6
        have ha7 := ha6.kp (KpT.same s7)
        have z7 := s7 _ _ z6
        have hvl : vs.length = acc.length := ha7.len
        have ek : ((i : Nat) : Int) + 2 = ((acc.length + 2 : Nat) : Int) := by omega
        cases hfm : lotM sg (acc.map fun L => L.n) l with
        | none =>
          rw [hfm] at hb hv7
          cases (show v7 = .non from hv7)
          have e : bodyM sg ls [] = .inr (acc.length + 2) := hb.symm
          refine ⟨_, rfl, rfl, _, rfl, ifT rfl ⟨_, rfl, _, _, rfl, rfl, ?_⟩⟩
          rw [e] at q
          have q9 := q H7 _ (s1.trans s47) rfl
          rw [← ek] at q9
          exact q9
        | some Lt =>
          rw [hfm] at hb hv7
          have hlt : LotAt K H7 v7 Lt := hv7
          obtain ⟨pp, pe, pw, rfl, h1, h2, h3⟩ := hlt
          refine ⟨_, rfl, rfl, _, rfl, ifF rfl ?_⟩
          refine ⟨_, rfl, Or.inl ⟨rfl, _, SqL.of hv77⟩, _, rfl, L, _, _, rfl, rfl, hv77, sz_lt (by omega), push_same hL s47, (upd_ne hp3L).trans z7, vs ++ [.ref pp], acc ++ [Lt], _, _, _, upd_same, ?_, ?_, lots_snoc hlo (lot_low hsl hfm), hb, rfl⟩
          · exact (ha7.snoc ⟨pp, pe, pw, rfl, h1, h2, h3⟩).kp (KpT.lst hv77)
          · rw [List.length_append, hlen]
            rfl
      · rintro σ H4 ⟨s4, z4, vs, acc, o4, o5, o6, hv, ha, hlen, hlo, hb, rfl⟩
        rw [List.drop_of_length_le (by rw [List.length_map]; exact Nat.le_refl _)] at hb
        have hb' : bodyM sg ls [] = .inl acc := hb.symm
        rw [hb'] at q
        refine ⟨_, rfl, L, vs, rfl, Or.inl ⟨SqL.of hv, fun fa hfa => ?_⟩⟩
        have s5 := same_new (o := HO.tup vs) hfa
        exact q _ _ ((s1.trans s4).trans s5) ⟨fa, vs, rfl, Or.inl (Or.inl upd_same), ha.kp (KpT.same s5)⟩
end
end Lw

namespace Lw
open PySem PySem.Spec PyProof.Rows L2 Mq
open SX (S)
/-! ### what is heard of a text -/
theorem pe_fldK {X : Cx} {K0 : PySem.W.Frag} {e : Expr} {f : Str} {pos : Pos} {ta : TE} (hK : X.K = K0) (he : PE X e ta) (hb : attributeBase e f X.env (eval e X.env) = eval e X.env) : PE X (.Attribute e f pos) (tFld K0 ta f) := hK ▸ pe_fld he hb
/-- what the written part says of the error -/
structure ErrL (K : PySem.W.Frag) (mg : Str → Option Value) (CT CM fB : Addr) : Prop where
  txt : MqE_line.Txt K mg "BadText" "BadText.__init__" CT fB
  xf : XfC K CT
  nt : PySem.W.findIn K (.ref CT) "line" = some none
  held : HeldC K CT
  gM : mg "MillError" = some (.ref CM)
  kit : PySem.W.kitOne K (.ref CT) (.ref CM) = some true
  exm : PySem.W.exmOne K (.ref CT) (.ref CT) = some true
def hearBad (k : Nat) (H : Hp) (Q : VK) : Prop := ∀ H' p, Same H H' → p ≠ sysModules → H' p = some (.lst [.str "bad", .int (k : Nat), .bl true]) → Q (.ref p) H'
def spHeard (K : PySem.W.Frag) : Sp := fun vs H Q _ => ∃ (sg : List Nat) (v : V) (b : Bool), vs = [.str (S sg), v, .bl b] ∧
  ((NoTx K H v ∧ hearBad 0 H Q) ∨ ∃ t : List Nat, v = .str (S t) ∧ TOk t ∧
    match pageM sg t with
    | .inr k => hearBad k H Q
    | .inl Ls => ∀ H' p vs, Same H H' → SqT K H' p vs → LotAll K H' vs Ls → Q (.ref p) H')
section
variable {P : Program} {w : World} {K : PySem.W.Frag} {mg : Str → Option Value} {base : Heap} {C CT CM : Addr}
theorem ok_heard {f fR fB : Addr} {fd fdR : FuncData} (F : Fun K "_law_heard" "_law_heard" s__law_heard f fd) (B : Blt mg) (T : ErrL K mg CT CM fB)
    (FR : Fun K "log_read" "log_read" s_log_read fR fdR) (gR : mg "log_read" = some (.ref fR)) (bR : Binds K fdR ["letters", "text"] []) (kR : KBn K fdR ["letters", "text"] 0 ["text", "letters"] rev0 rev0) (GR : FnOk P w K mg base (L2.CX P w) 5 fR fdR ["letters", "text"] (spRead K CT)) :
    FnG P w K mg base CX0 7 f fd ["_law_letters", "_law_page_here", "_law_is_named"] (spHeard K) := by
  refine Mq.Fun.okG F sc__law_heard (fun vs H Q E h => ?_) (fun cdv A outer s H vs Q E gA hr h => ?_)
  · obtain ⟨_, _, _, rfl, _⟩ := h
    rfl
  · obtain ⟨sg, v, b, rfl, h⟩ := h
    have hr5 : Room 5 (A.deeper (envOfC "_law_heard" (defScope s__law_heard) s.heap.objs.size f cdv)) := hr.mono (by decide)
    refine ⟨_, (pss_cons (ps_set (i := 3) sc__law_heard.nd rfl (Or.inl rfl) pe_non)
      (pss_cons (ps_try_as (i := 4) (Wout := fun _ _ _ _ => False) (c := .ref CT) rfl rfl sc__law_heard.nd rfl rfl ⟨rfl, by decide, Or.inl T.txt.gC⟩ takes0
        (fun W pn xe tk _ => pss_one (ps_set (i := 3) sc__law_heard.nd rfl (Or.inl rfl) (pe_ifExp (pt_val (pv 2))
            (pe_callK0 (E := WE W) GR hr5 (by rfl) gR FR.kp kR (fun σ => passAt tk σ) (pk_cons (pv 1) (pk_cons (pv 0) pk_nil)))
            (pe_callS (E := WE W) GR hr5 (by rfl) gR FR.kp bR (fun σ => passAt tk σ) (pa_cons (pv 0) (pa_cons (pv 1) pa_nil))))))
        (fun a oe cls d pn hz hf => pss_one (ps_set (i := 3) sc__law_heard.nd rfl (Or.inl rfl) (Mq.pe_ls (pa_cons pe_str (pa_cons (pe_xf T.xf T.nt hz hf (pv 4)) (pa_cons (pe_callB (call_heldX T.held hz hf) (by rfl) B.isi (by decide +kernel) (pa_cons (pv 4) (pa_cons (pe_glob (v := .ref CM) (by rfl) T.gM rfl) pa_nil))) pa_nil)))))))
      (pss_one (ps_ret (pv 3))))), ?_⟩
    have finB : ∀ k, hearBad k H Q → ∀ H1 dd, Same H H1 → H1 dd = none → ∀ p, upd H1 dd (.xd [("line", .int (k : Nat))]) p = none → p ≠ sysModules → Q (.ref p) (upd (upd H1 dd (.xd [("line", .int (k : Nat))])) p (.lst [.str "bad", .int (k : Nat), .bl true])) := by
      intro k q H1 dd s1 hdd p hp hne
      exact q _ p ((s1.trans (same_new hdd)).trans (same_new hp)) hne upd_same
    cases b with
    | true =>
      refine ⟨_, rfl, _, rfl, ifT rfl ?_⟩
      refine ⟨_, rfl, _, rfl, rfl, sg, v, rfl, ?_⟩
      rcases h with ⟨hn, q⟩ | ⟨t, rfl, ht, q⟩
      · refine Or.inl ⟨hn, fun H1 dd s1 hdd => ?_⟩
        unfold lineD
        refine ⟨true, T.exm, fun _ a0 ha0 => ?_, fun z => nomatch z⟩
        exact ⟨_, rfl, rfl, rfl, dd, _, _, rfl, upd_same, rfl, _, rfl, rfl, dd, CM, _, true, rfl, rfl, upd_same, T.kit, sz_le (n := 3) (by decide), fun p hp hne => ⟨_, rfl, finB 0 q H1 dd s1 hdd p hp hne⟩⟩
      · refine Or.inr ⟨t, rfl, ht, ?_⟩
        cases hp : pageM sg t with
        | inr k =>
          rw [hp] at q
          intro H1 dd s1 hdd
          unfold lineD
          refine ⟨true, T.exm, fun _ a0 ha0 => ?_, fun z => nomatch z⟩
          exact ⟨_, rfl, rfl, rfl, dd, _, _, rfl, upd_same, rfl, _, rfl, rfl, dd, CM, _, true, rfl, rfl, upd_same, T.kit, sz_le (n := 3) (by decide), fun p hp hne => ⟨_, rfl, finB k q H1 dd s1 hdd p hp hne⟩⟩
        | inl Ls =>
          rw [hp] at q
          exact fun H1 p vs s1 h1 h2 => ⟨_, rfl, q H1 p vs s1 h1 h2⟩
    | false =>
      refine ⟨_, rfl, _, rfl, ifF rfl ?_⟩
      refine ⟨_, rfl, _, rfl, sg, v, rfl, ?_⟩
      rcases h with ⟨hn, q⟩ | ⟨t, rfl, ht, q⟩
      · refine Or.inl ⟨hn, fun H1 dd s1 hdd => ?_⟩
        unfold lineD
        refine ⟨true, T.exm, fun _ a0 ha0 => ?_, fun z => nomatch z⟩
        exact ⟨_, rfl, rfl, rfl, dd, _, _, rfl, upd_same, rfl, _, rfl, rfl, dd, CM, _, true, rfl, rfl, upd_same, T.kit, sz_le (n := 3) (by decide), fun p hp hne => ⟨_, rfl, finB 0 q H1 dd s1 hdd p hp hne⟩⟩
      · refine Or.inr ⟨t, rfl, ht, ?_⟩
        cases hp : pageM sg t with
        | inr k =>
          rw [hp] at q
          intro H1 dd s1 hdd
          unfold lineD
          refine ⟨true, T.exm, fun _ a0 ha0 => ?_, fun z => nomatch z⟩
          exact ⟨_, rfl, rfl, rfl, dd, _, _, rfl, upd_same, rfl, _, rfl, rfl, dd, CM, _, true, rfl, rfl, upd_same, T.kit, sz_le (n := 3) (by decide), fun p hp hne => ⟨_, rfl, finB k q H1 dd s1 hdd p hp hne⟩⟩
        | inl Ls =>
          rw [hp] at q
          exact fun H1 p vs s1 h1 h2 => ⟨_, rfl, q H1 p vs s1 h1 h2⟩
end
end Lw

namespace Lw
open PySem PySem.Spec PyProof.Rows L2 Mq
open SX (S)
/-! ### a text is read, or refused, as it must be -/
structure TB (t : List Nat) : Prop where
  few : t.length ≤ 4000
  low : LowL t
  lns : (spl 10 t).length ≤ 12
  wds : ∀ l ∈ spl 10 t, (spl 32 l).length ≤ 100
  wok : ∀ l ∈ spl 10 t, ∀ w ∈ spl 32 l, Parts w ∧ (spl 44 w).length ≤ 10
theorem TB.ok {t : List Nat} (h : TB t) : TOk t := ⟨h.few, h.low, fun l hl w hw => (h.wok l hl w hw).1⟩
theorem TB.ok2 {t : List Nat} (h : TB t) : TOk2 t := ⟨h.ok, fun l hl w hw => Nat.le_trans (h.wok l hl w hw).2 (by decide)⟩
structure LotW (L : Lot) : Prop where
  n : L.n < 10 ^ 50
  e : ∀ n ∈ L.e, n < 10 ^ 50
  el : L.e.length ≤ 10
  wl : L.w.length ≤ 100
  w : ∀ u ∈ L.w, u.length ≤ 2 ∧ LowL u
theorem dval_lt : ∀ (cs : List Nat) (a : Nat), (∀ c ∈ cs, c ≤ 57) → cs.foldl (fun acc c => acc * 10 + (c - 48)) a < (a + 1) * 10 ^ cs.length
  | [], a, _ => by simp
  | c :: cs, a, h => by
    have h1 := h c List.mem_cons_self
    have h2 := dval_lt cs (a * 10 + (c - 48)) fun d hd => h d (List.mem_cons_of_mem _ hd)
    rw [List.foldl_cons, List.length_cons]
    refine Nat.lt_of_lt_of_le h2 ?_
    rw [Nat.pow_succ, Nat.mul_comm (10 ^ cs.length) 10, ← Nat.mul_assoc]
    exact Nat.mul_le_mul_right _ (by omega)
theorem num_small {w : List Nat} {n : Nat} (hp : Parts w) (h : numM w = some n) : n < 10 ^ 50 := by
  unfold numM at h
  split at h
  · rename_i hb
    cases h
    have hb2 := hb
    unfold numB at hb2
    obtain ⟨_, h3⟩ := Bool.and_eq_true_iff.mp hb2
    obtain ⟨h4, _⟩ := Bool.and_eq_true_iff.mp h3
    have h5 : ∀ c ∈ w, c ≤ 57 := fun c hc => by
      have := List.all_eq_true.mp (dig_all h4) c hc
      rw [Bool.and_eq_true, decide_eq_true_eq, decide_eq_true_eq] at this
      exact this.2
    have e := spl_none (c := 44) (by decide) (num_free hb (Or.inl (by decide)))
    have hl := hp w (by rw [e]; exact List.mem_singleton.mpr rfl)
    have := dval_lt w 0 h5
    refine Nat.lt_of_lt_of_le this ?_
    rw [Nat.zero_add, Nat.one_mul]
    exact Nat.pow_le_pow_right (by decide) hl
  · cases h
theorem item_two {sg w : List Nat} (h : itemB sg w = true) : w.length ≤ 2 := by
  rw [← items_mem] at h
  have h := of_decide_eq_true h
  unfold itemsL at h
  rw [List.mem_append, List.mem_append, List.mem_singleton, List.mem_map, List.mem_map] at h
  rcases h with (rfl | ⟨c, hc, rfl⟩) | ⟨c, hc, rfl⟩
  · decide
  · exact Nat.le_refl 2
  · exact Nat.le_succ 1
theorem lot_fine {sg known l : List Nat} {L : Lot} (hs : LowL sg) (hw : ∀ w ∈ spl 32 l, Parts w ∧ (spl 44 w).length ≤ 10) (hc : (spl 32 l).length ≤ 100) (h : lotM sg known l = some L) : LotW L := by
  have hall := lot_w h
  have hlow := lot_low hs h
  have hwl : ∀ u ∈ L.w, u.length ≤ 2 ∧ LowL u := fun u hu => ⟨item_two (List.all_eq_true.mp hall u hu), hlow u hu⟩
  unfold lotM at h
  split at h
  · rename_i w0 w1 w2 w3 w4 ws e
    rw [e] at hw hc
    split at h
    · split at h
      · rename_i n es hn he
        split at h
        · cases h
          have hp3 := hw w3 (by simp)
          have hes : (∀ n ∈ es, n < 10 ^ 50) ∧ es.length ≤ 10 := by
            unfold earlM at he
            split at he
            · cases he
              exact ⟨(fun n hn => by cases hn), Nat.zero_le _⟩
            · split at he
              · rename_i hb
                cases he
                refine ⟨fun n hn => ?_, ?_⟩
                · unfold vals nums at hn
                  obtain ⟨m, hm, rfl⟩ := List.mem_map.mp hn
                  obtain ⟨p, hp, rfl⟩ := List.mem_map.mp hm
                  cases e5 : numM p with
                  | none => exact Nat.pow_pos (by decide)
                  | some k =>
                    refine num_small (w := p) (fun r hr => ?_) e5
                    exact Nat.le_trans (spl_len hr) (hp3.1 p hp)
                · unfold vals nums
                  rw [List.length_map, List.length_map]
                  exact hp3.2
              · cases he
          refine ⟨num_small (hw w1 (by simp)).1 hn, hes.1, hes.2, ?_, hwl⟩
          show (weftM (w4 :: ws)).length ≤ 100
          unfold weftM
          split
          · exact Nat.zero_le _
          · simp only [List.length_cons] at hc ⊢
            omega
        · cases h
      · cases h
    · cases h
  · cases h
theorem body_ok {sg : List Nat} (hs : LowL sg) : ∀ (ls : List (List Nat)) (acc : List Lot), (∀ l ∈ ls, (spl 32 l).length ≤ 100 ∧ ∀ w ∈ spl 32 l, Parts w ∧ (spl 44 w).length ≤ 10) → (∀ L ∈ acc, LotW L) →
    match bodyM sg ls acc with
    | .inl Ls => (∀ L ∈ Ls, LotW L) ∧ Ls.length ≤ acc.length + ls.length
    | .inr k => k ≤ acc.length + ls.length + 1
  | [], acc, _, h => ⟨h, Nat.le_add_right _ _⟩
  | l :: ls, acc, hl, h => by
    rw [List.length_cons]
    unfold bodyM
    have h1 := hl l List.mem_cons_self
    cases hf : lotM sg (acc.map fun L => L.n) l with
    | none =>
      show acc.length + 2 ≤ acc.length + (ls.length + 1) + 1
      omega
    | some f =>
      dsimp only
      have ih := body_ok hs ls (acc ++ [f]) (fun x hx => hl x (List.mem_cons_of_mem _ hx)) fun M hM => by
        rcases List.mem_append.mp hM with hM | hM
        · exact h M hM
        · rw [List.mem_singleton.mp hM]
          exact lot_fine hs h1.2 h1.1 hf
      have e : (acc ++ [f]).length = acc.length + 1 := by rw [List.length_append]; rfl
      rw [e] at ih
      cases e2 : bodyM sg ls (acc ++ [f]) with
      | inl Ls =>
        rw [e2] at ih
        have ih2 : (∀ L ∈ Ls, LotW L) ∧ Ls.length ≤ acc.length + 1 + ls.length := ih
        exact ⟨ih2.1, by omega⟩
      | inr k =>
        rw [e2] at ih
        have ih2 : k ≤ acc.length + 1 + ls.length + 1 := ih
        show k ≤ _
        omega
theorem page_ok {sg t : List Nat} (hs : LowL sg) (ht : TB t) :
    match pageM sg t with
    | .inl Ls => (∀ L ∈ Ls, LotW L) ∧ Ls.length ≤ 12
    | .inr k => k ≤ 13 := by
  unfold pageM
  have h1 := ht.lns
  have h2 := ht.wds
  have h3 := ht.wok
  cases e : spl 10 t with
  | nil => exact (show 1 ≤ 13 by decide)
  | cons l0 ls =>
    rw [e] at h1 h2 h3
    rw [List.length_cons] at h1
    dsimp only
    by_cases c : l0 = logL
    · rw [if_pos c]
      have b := body_ok hs ls [] (fun l hl => ⟨h2 l (List.mem_cons_of_mem _ hl), h3 l (List.mem_cons_of_mem _ hl)⟩) (fun _ h => by cases h)
      cases e2 : bodyM sg ls [] with
      | inl Ls =>
        rw [e2] at b
        have b2 : (∀ L ∈ Ls, LotW L) ∧ Ls.length ≤ 0 + ls.length := b
        exact ⟨b2.1, by omega⟩
      | inr k =>
        rw [e2] at b
        have b2 : k ≤ 0 + ls.length + 1 := b
        show k ≤ 13
        omega
    · rw [if_neg c]
      exact (show 1 ≤ 13 by decide)
theorem gs_n {n : Nat} (h : n < 10 ^ 50) : Gs 167 0 (.int ((n : Nat) : Int)) := by
  have h1 : n.log2 < 167 ∨ n = 0 := by
    by_cases h0 : n = 0
    · exact Or.inr h0
    · refine Or.inl ((Nat.log2_lt h0).mpr (Nat.lt_trans h (by decide)))
  have h2 : n.log2 < 167 := by
    rcases h1 with h1 | h1
    · exact h1
    · subst h1
      decide
  refine ⟨?_, Nat.le_refl 0, ?_, ?_⟩
  · show decide (((n : Nat) : Int).natAbs.log2 < 1920) = true
    rw [Int.natAbs_natCast]
    exact decide_eq_true (by omega)
  · show (if (((n : Nat) : Int) == 0) = true then 0 else ((n : Nat) : Int).natAbs.log2 + 1) ≤ 167
    rw [Int.natAbs_natCast]
    split
    · exact Nat.zero_le _
    · omega
  · have e : (PyData.int ((n : Nat) : Int)).shown = S (TL.numL n) := SX.num_S n
    show decide ((PyData.int ((n : Nat) : Int)).shown.length ≤ 60) = true
    rw [e, SX.S_len]
    exact decide_eq_true (Nat.le_trans (TL.numL_len (k := 50) (by decide) h) (by decide))
theorem gs_lot {L : Lot} (h : LotW L) : Gs 6724 2 (lotD L) := by
  refine gs_tup (w := 1680) (n := 1) (m := 4) (fun d hd => ?_) (Nat.le_refl 4)
  simp only [List.mem_cons, List.not_mem_nil, or_false] at hd
  rcases hd with rfl | rfl | rfl | rfl
  · exact (gs_n h.n).mono (by decide) (by decide)
  · exact gs_bool _
  · refine gs_tup (w := 167) (n := 0) (m := 10) (fun d hd => ?_) ?_
    · obtain ⟨i, hi, rfl⟩ := List.mem_map.mp hd
      unfold toI at hi
      obtain ⟨n, hn, rfl⟩ := List.mem_map.mp hi
      exact gs_n (h.e n hn)
    · unfold toI
      rw [List.length_map, List.length_map]
      exact h.el
  · refine (gs_tup (w := 2) (n := 0) (m := 100) (fun d hd => ?_) ?_).mono (by decide) (by decide)
    · obtain ⟨u, hu, rfl⟩ := List.mem_map.mp hd
      have := h.w u hu
      exact gs_str (fun c hc => Nat.lt_trans (this.2 c hc) (by decide)) this.1
    · rw [List.length_map]
      exact h.wl
def logD (Ls : List Lot) : PyData := .tuple (Ls.map lotD)
theorem gs_log {Ls : List Lot} (h : ∀ L ∈ Ls, LotW L) (hl : Ls.length ≤ 12) : Gs 80700 3 (logD Ls) := by
  refine gs_tup (w := 6724) (n := 2) (m := 12) (fun d hd => ?_) (by rw [List.length_map]; exact hl)
  obtain ⟨L, hL, rfl⟩ := List.mem_map.mp hd
  exact gs_lot (h L hL)
def badD (k : Nat) : PyData := .list [.str "bad", .int (k : Nat), .bool true]
theorem gs_bad {k : Nat} (h : k ≤ 13) : Gs 504 1 (badD k) := by
  refine gs_lst (w := 167) (n := 0) (m := 3) (fun d hd => ?_) (Nat.le_refl 3)
  simp only [List.mem_cons, List.not_mem_nil, or_false] at hd
  rcases hd with rfl | rfl | rfl
  · exact (gs_str (l := [98, 97, 100]) (w := 3) (fun c hc => by simp only [List.mem_cons, List.not_mem_nil, or_false] at hc; omega) (Nat.le_refl 3)).mono (by decide) (Nat.le_refl 0)
  · exact gs_n (Nat.lt_of_le_of_lt h (by decide))
  · exact gs_bool _
theorem twice_gs {d : PyData} {w n : Nat} (g : Gs w n d) (hw : w ≤ 90000) (hn : n ≤ 30) : ShowOk (.list [d, d]) := by
  have h := gs_lst (w := w) (n := n) (m := 2) (ds := [d, d]) (fun x hx => by
    simp only [List.mem_cons, List.not_mem_nil, or_false] at hx
    rcases hx with rfl | rfl <;> exact g) (Nat.le_refl 2)
  exact h.ok (by omega) (by omega)
theorem dg_ints {K : PySem.W.Frag} {H : Hp} : ∀ ns : List Int, DgAll K H (ns.map V.int) (ns.map PyData.int)
  | [] => .nil
  | n :: ns => .cons (.int n) (dg_ints ns)
theorem dg_txs {K : PySem.W.Frag} {H : Hp} : ∀ ws : List (List Nat), DgAll K H (txs ws) (ws.map fun w => PyData.str (S w))
  | [] => .nil
  | w :: ws => .cons (.str _) (dg_txs ws)
theorem dg_lot {K : PySem.W.Frag} {H : Hp} {v : V} {L : Lot} (h : LotAt K H v L) : Dg K H v (lotD L) := by
  obtain ⟨p, pe, pw, rfl, h1, h2, h3⟩ := h
  rw [intsV_toI] at h2
  exact .tup h1 (.cons (.int _) (.cons (.bl _) (.cons (.tup h2 (dg_ints _)) (.cons (.tup h3 (dg_txs _)) .nil))))
theorem dg_lots {K : PySem.W.Frag} {H : Hp} : ∀ {vs : List V} {Ls : List Lot}, LotAll K H vs Ls → DgAll K H vs (Ls.map lotD)
  | _, _, .nil => .nil
  | _, _, .cons a b => .cons (dg_lot a) (dg_lots b)
def Rd (K : PySem.W.Frag) (H : Hp) (v : V) : Prop := (∀ H', Same H H' → NoTx K H' v) ∨ ∃ t : List Nat, v = .str (S t) ∧ TB t
theorem Rd.same {K : PySem.W.Frag} {H H' : Hp} {v : V} (h : Rd K H v) (e : Same H H') : Rd K H' v := by
  rcases h with h | h
  · exact Or.inl fun H2 s2 => h H2 (e.trans s2)
  · exact Or.inr h
def tTail (K : PySem.W.Frag) : TE := fun σ H Q => ∃ g v p D, σ[0]? = some (some g) ∧ σ[1]? = some (some v) ∧ σ[2]? = some (some (.ref p)) ∧ Dg K H (.ref p) D ∧ ShowOk (.list [D, D]) ∧
  (∀ (b : Bool) (H2 : Hp) (Q' : VK), Same H H2 → (∀ H' y, Same H2 H' → Dg K H' y D → Q' y H') → spHeard K [g, v, .bl b] H2 Q' E0) ∧ ∀ H', Same H H' → Q (.bl true) H'
def spRR (K : PySem.W.Frag) : Sp := fun vs H Q _ => ∃ (sg : List Nat) (v : V), vs = [.str (S sg), v] ∧ sg.length ≤ 1000 ∧ LowL sg ∧ Rd K H v ∧ ∀ H', Same H H' → Q (.bl true) H'
section
variable {P : Program} {w : World} {K : PySem.W.Frag} {mg : Str → Option Value} {base : Heap}
theorem ok_read_right {f fP fH : Addr} {fd fdP fdH : FuncData} (F : Fun K "_law_read_right" "_law_read_right" s__law_read_right f fd) (B : Blt mg)
    (FP : Fun K "_law_parts" "_law_parts" s__law_parts fP fdP) (gP : mg "_law_parts" = some (.ref fP)) (bP : Binds K fdP ["_law_letters", "_law_page_here"] []) (GP : FnOk P w K mg base CX0 3 fP fdP ["_law_letters", "_law_page_here"] (spParts K))
    (FH : Fun K "_law_heard" "_law_heard" s__law_heard fH fdH) (gH : mg "_law_heard" = some (.ref fH)) (bH : Binds K fdH ["_law_letters", "_law_page_here", "_law_is_named"] []) (GH : FnG P w K mg base CX0 7 fH fdH ["_law_letters", "_law_page_here", "_law_is_named"] (spHeard K)) :
    FnG P w K mg base CX0 8 f fd ["_law_letters", "_law_page_here"] (spRR K) := by
  refine Mq.Fun.okG F sc__law_read_right (fun vs H Q E h => ?_) (fun cdv A outer s H vs Q E gA hr h => ?_)
  · obtain ⟨_, _, rfl, _⟩ := h
    rfl
  · obtain ⟨sg, v, rfl, hsg, hsl, hv, q⟩ := h
    refine ⟨_, (pss_cons (ps_set (i := 2) sc__law_read_right.nd rfl (Or.inl rfl) (pe_call GP (hr.mono (by decide)) (by rfl) gP FP.kp bP .nil pass0 (pa_cons (pv 0) (pa_cons (pv 1) pa_nil))))
      (pss_cons (ps_set (i := 2) sc__law_read_right.nd rfl (Or.inl rfl) (pe_ifExp (pt_val (pe_callB call_isi (by rfl) B.isi (by decide +kernel) (pa_cons (pv 2) (pa_cons (pe_bltn (v := .ty "int") (by rfl) B.int (by decide +kernel) rfl) pa_nil)))) (Mq.pe_ls (pa_cons pe_str (pa_cons (pv 2) (pa_cons pe_bl pa_nil)))) (pv 2)))
      (pss_one (ps_ret (PE_imp (t' := tTail K) (pe_cmpR op_eq (pe_callB (call_rep hr gA) (by rfl) B.repr (by decide +kernel) (pa_cons (Mq.pe_ls (pa_cons (pe_callG GH gA (hr.mono (by decide)) (by rfl) gH FH.kp bH pass0 (pa_cons (pv 0) (pa_cons (pv 1) (pa_cons pe_bl pa_nil)))) (pa_cons (pe_callG GH gA (hr.mono (by decide)) (by rfl) gH FH.kp bH pass0 (pa_cons (pv 0) (pa_cons (pv 1) (pa_cons pe_bl pa_nil)))) pa_nil))) pa_nil)) (pe_callB (call_rep hr gA) (by rfl) B.repr (by decide +kernel) (pa_cons (Mq.pe_ls (pa_cons (pv 2) (pa_cons (pv 2) pa_nil))) pa_nil)) (nomark _)) (fun σ H Q h => by
          obtain ⟨g, v, p, D, h0, h1, h2, hD, ok, hear, q⟩ := h
          refine ⟨_, h0, _, h1, hear false H _ (Same.refl H) fun H2 y0 s2 d0 => ?_⟩
          refine ⟨_, h0, _, h1, hear true H2 _ s2 fun H3 y1 s3 d1 => ?_⟩
          refine ⟨sz_le (n := 2) (by decide), fun pa hpa hna => ?_⟩
          have s4 := same_new (o := HO.lst [y0, y1]) hpa
          have za : upd H3 pa (.lst [y0, y1]) pa = some (.lst [y0, y1]) := upd_same
          have e0 := (d0.same s3).same s4
          have e1 := d1.same s4
          have s24 := (s2.trans s3).trans s4
          generalize upd H3 pa (.lst [y0, y1]) = H4 at za e0 e1 s24 ⊢
          refine ⟨_, .list [D, D], rfl, .lst hna (SqL.of za) (.cons e0 (.cons e1 .nil)), ok.sh, ok.de, ok.le, ?_⟩
          refine ⟨_, h2, _, h2, sz_le (n := 2) (by decide), fun pb hpb hnb => ?_⟩
          have s5 := same_new (o := HO.lst [V.ref p, V.ref p]) hpb
          have e2 := (hD.same s24).same s5
          refine ⟨_, .list [D, D], rfl, .lst hnb (SqL.of upd_same) (.cons e2 (.cons e2 .nil)), ok.sh, ok.de, ok.le, ?_⟩
          refine ⟨rfl, ?_⟩
          rw [decide_eq_true rfl]
          exact q _ (s24.trans s5))))))), ?_⟩
    rcases hv with hn | ⟨t, rfl, ht⟩
    · refine ⟨_, rfl, _, rfl, sg, v, rfl, hsg, hsl, Or.inl ⟨hn H (Same.refl H), ?_⟩⟩
      refine ⟨_, rfl, _, .ty "int", _, _, true, rfl, .ty _, .base (.int _), kit_ty (by decide +kernel), true, rfl, ifT rfl ?_⟩
      refine ⟨_, rfl, sz_le (n := 3) (by decide), fun p hp hne => ?_⟩
      have s1 := same_new (o := HO.lst [V.str "bad", V.int ((0 : Nat) : Int), V.bl true]) hp
      refine ⟨_, v, p, badD 0, rfl, rfl, rfl, .lst hne (SqL.of upd_same) (.cons (.str _) (.cons (.int _) (.cons (.bl _) .nil))), twice_gs (gs_bad (Nat.zero_le _)) (by decide) (by decide), fun b H2 Q' s2 k => ?_, fun H' s' => q H' (s1.trans s')⟩
      exact ⟨sg, v, b, rfl, Or.inl ⟨hn H2 (s1.trans s2), fun H' y s' hy e => k H' _ s' (.lst hy (SqL.of e) (.cons (.str _) (.cons (.int _) (.cons (.bl _) .nil))))⟩⟩
    · refine ⟨_, rfl, _, rfl, sg, _, rfl, hsg, hsl, Or.inr ⟨t, rfl, ht.ok2, fun H1 u s1 hu => ?_⟩⟩
      have pok := page_ok hsl ht
      cases hp : pageM sg t with
      | inr k =>
        rw [hp] at hu pok
        have hk : k ≤ 13 := pok
        cases (show u = .int (k : Nat) from hu)
        refine ⟨_, rfl, _, .ty "int", _, _, true, rfl, .ty _, .base (.int _), kit_ty (by decide +kernel), true, rfl, ifT rfl ?_⟩
        refine ⟨_, rfl, sz_le (n := 3) (by decide), fun p hpp hne => ?_⟩
        have s2 := s1.trans (same_new (o := HO.lst [V.str "bad", V.int ((k : Nat) : Int), V.bl true]) hpp)
        refine ⟨_, _, p, badD k, rfl, rfl, rfl, .lst hne (SqL.of upd_same) (.cons (.str _) (.cons (.int _) (.cons (.bl _) .nil))), twice_gs (gs_bad hk) (by decide) (by decide), fun b H2 Q' s3 kk => ?_, fun H' s' => q H' (s2.trans s')⟩
        refine ⟨sg, _, b, rfl, Or.inr ⟨t, rfl, ht.ok, ?_⟩⟩
        rw [hp]
        exact fun H' y s' hy e => kk H' _ s' (.lst hy (SqL.of e) (.cons (.str _) (.cons (.int _) (.cons (.bl _) .nil))))
      | inl Ls =>
        rw [hp] at hu pok
        obtain ⟨hok, hfl⟩ := pok
        obtain ⟨p, vs, rfl, hpt, hall⟩ := hu
        refine ⟨_, rfl, _, .ty "int", _, _, false, rfl, .ty _, ty_tup hpt, kit_ty (by decide +kernel), false, rfl, ifF rfl ⟨_, rfl, ?_⟩⟩
        refine ⟨_, _, p, logD Ls, rfl, rfl, rfl, .tup hpt (dg_lots hall), twice_gs (gs_log hok hfl) (by decide) (by decide), fun b H2 Q' s3 kk => ?_, fun H' s' => q H' (s1.trans s')⟩
        refine ⟨sg, _, b, rfl, Or.inr ⟨t, rfl, ht.ok, ?_⟩⟩
        rw [hp]
        exact fun H' p' vs' s' h1 h2 => kk H' _ s' (.tup h1 (dg_lots h2))
end
end Lw

namespace Lw
open PySem PySem.Spec PyProof.Rows L2 Mq
open SX (S)
/-! ### texts with something otherwise: lines and words -/
def cutL (c : Nat) : List Nat → List (List Nat)
  | [] => [[]]
  | d :: r => if d = c then [] :: cutL c r else match cutL c r with
    | [] => [[d]]
    | p :: ps => (d :: p) :: ps
theorem joinL_two (sep p q : List Nat) (r : List (List Nat)) : TL.joinL sep (p :: q :: r) = p ++ (sep ++ TL.joinL sep (q :: r)) := rfl
theorem cutL_ok (c : Nat) : ∀ a : List Nat, TL.joinL [c] (cutL c a) = a ∧ cutL c a ≠ [] ∧ ∀ p ∈ cutL c a, c ∉ p
  | [] => ⟨rfl, by simp [cutL], fun p hp => by rw [List.mem_singleton.mp hp]; exact fun h => by cases h⟩
  | d :: r => by
    obtain ⟨h1, h2, h3⟩ := cutL_ok c r
    unfold cutL
    by_cases e : d = c
    · rw [if_pos e]
      refine ⟨?_, by simp, fun p hp => ?_⟩
      · cases e2 : cutL c r with
        | nil => exact (h2 e2).elim
        | cons p ps =>
          rw [e2] at h1
          rw [joinL_two, h1, e]
          rfl
      · rcases List.mem_cons.mp hp with e3 | hp
        · rw [e3]
          exact fun h => by cases h
        · exact h3 p hp
    · rw [if_neg e]
      cases e2 : cutL c r with
      | nil => exact (h2 e2).elim
      | cons p ps =>
        rw [e2] at h1 h3
        refine ⟨?_, by simp, fun q hq => ?_⟩
        · cases ps with
          | nil => show d :: p = d :: r; rw [show p = r from h1]
          | cons q qs =>
            rw [joinL_two] at h1 ⊢
            rw [← h1]
            rfl
        · rcases List.mem_cons.mp hq with e3 | hq
          · rw [e3]
            intro h
            rcases List.mem_cons.mp h with h | h
            · exact e h.symm
            · exact h3 p List.mem_cons_self h
          · exact h3 q (List.mem_cons_of_mem _ hq)
theorem spl_free {c : Nat} (hc : c < 256) (a : List Nat) : ∀ p ∈ spl c a, c ∉ p := by
  obtain ⟨h1, h2, h3⟩ := cutL_ok c a
  have e := spl_of hc h2 h3
  rw [h1] at e
  rw [e]
  exact h3
def WOk (w : List Nat) : Prop := Parts w ∧ (spl 44 w).length ≤ 10
structure LnOk (b : Nat) (l : List Nat) : Prop where
  low : LowL l
  wds : (spl 32 l).length ≤ b
  wok : ∀ w ∈ spl 32 l, WOk w
  nl : 10 ∉ l
/-- a page by its lines -/
structure Pg (a b c : Nat) (t : List Nat) : Prop where
  lns : (spl 10 t).length ≤ a
  len : t.length + 1 ≤ c
  ok : ∀ l ∈ spl 10 t, LnOk b l
theorem LnOk.mono {b b' : Nat} {l : List Nat} (h : LnOk b l) (hb : b ≤ b') : LnOk b' l := ⟨h.low, Nat.le_trans h.wds hb, h.wok, h.nl⟩
theorem Pg.tb {a b c : Nat} {t : List Nat} (h : Pg a b c t) (ha : a ≤ 12) (hb : b ≤ 100) (hc : c ≤ 4000) : TB t := by
  refine ⟨by have := h.len; omega, ?_, Nat.le_trans h.lns ha, fun l hl => Nat.le_trans (h.ok l hl).wds hb, fun l hl => (h.ok l hl).wok⟩
  have := joinL_low (c := 10) (by decide) (ps := spl 10 t) fun l hl => (h.ok l hl).low
  rw [spl_join] at this
  exact this
theorem pg_join {a b c : Nat} {ws : List (List Nat)} (h1 : ws.length ≤ a) (h2 : sumL ws ≤ c) (h3 : ∀ l ∈ ws, LnOk b l) (ha : 1 ≤ a) (hb : 1 ≤ b) (hc : 1 ≤ c) : Pg a b c (TL.joinL [10] ws) := by
  by_cases e : ws = []
  · subst e
    have e2 : spl 10 (TL.joinL [10] []) = [[]] := by decide +kernel
    refine ⟨by rw [e2]; exact ha, hc, fun l hl => ?_⟩
    rw [e2] at hl
    rw [List.mem_singleton.mp hl]
    have e3 : spl 32 [] = [[]] := by decide +kernel
    refine ⟨(fun c hc => by cases hc), (by rw [e3]; exact hb), fun w hw => ?_, fun h => by cases h⟩
    rw [e3] at hw
    rw [List.mem_singleton.mp hw]
    have e4 : spl 44 [] = [[]] := by decide +kernel
    refine ⟨fun p hp => ?_, by rw [e4]; decide⟩
    rw [e4] at hp
    rw [List.mem_singleton.mp hp]
    decide
  · have e2 := spl_of (c := 10) (by decide) e fun l hl => (h3 l hl).nl
    have e3 := join_len 10 ws e
    refine ⟨by rw [e2]; exact h1, ?_, fun l hl => ?_⟩
    · rw [e3]
      exact h2
    · rw [e2] at hl
      exact h3 l hl
theorem ln_join {b : Nat} {ws : List (List Nat)} (hn : ws ≠ []) (h1 : ws.length ≤ b) (h2 : ∀ w ∈ ws, LowL w ∧ 10 ∉ w ∧ 32 ∉ w ∧ WOk w) : LnOk b (TL.joinL [32] ws) := by
  have e := spl_of (c := 32) (by decide) hn fun l hl => (h2 l hl).2.2.1
  refine ⟨joinL_low (by decide) fun w hw => (h2 w hw).1, by rw [e]; exact h1, fun w hw => ?_, fun h => ?_⟩
  · rw [e] at hw
    exact (h2 w hw).2.2.2
  · rcases join_in 32 h with h | ⟨p, hp, h⟩
    · cases h
    · exact (h2 p hp).2.1 h
theorem ln_words {b : Nat} {l : List Nat} (h : LnOk b l) : ∀ w ∈ spl 32 l, LowL w ∧ 10 ∉ w ∧ 32 ∉ w ∧ WOk w := fun w hw =>
  ⟨fun c hc => h.low c (spl_mem hw hc), fun h2 => h.nl (spl_mem hw h2), spl_free (by decide) l w hw, h.wok w hw⟩
def lowB (w : List Nat) : Bool := w.all (fun c => decide (c < 128) && (decide (c ≠ 10) && decide (c ≠ 32)))
def wordB (w : List Nat) : Bool := lowB w && ((spl 44 w).all (fun p => decide (p.length ≤ 50)) && (decide ((spl 44 w).length ≤ 10) && decide (w.length ≤ 5)))
theorem word_ok {w : List Nat} (h : wordB w = true) : (LowL w ∧ 10 ∉ w ∧ 32 ∉ w ∧ WOk w) ∧ w.length ≤ 5 := by
  unfold wordB lowB at h
  obtain ⟨h1, h⟩ := Bool.and_eq_true_iff.mp h
  obtain ⟨h2, h⟩ := Bool.and_eq_true_iff.mp h
  obtain ⟨h3, h4⟩ := Bool.and_eq_true_iff.mp h
  have h1 : ∀ c ∈ w, c < 128 ∧ c ≠ 10 ∧ c ≠ 32 := fun c hc => by
    have := List.all_eq_true.mp h1 c hc
    obtain ⟨a, b⟩ := Bool.and_eq_true_iff.mp this
    obtain ⟨b, d⟩ := Bool.and_eq_true_iff.mp b
    exact ⟨of_decide_eq_true a, of_decide_eq_true b, of_decide_eq_true d⟩
  exact ⟨⟨fun c hc => (h1 c hc).1, fun h => (h1 _ h).2.1 rfl, fun h => (h1 _ h).2.2 rfl, fun p hp => of_decide_eq_true (List.all_eq_true.mp h2 p hp), of_decide_eq_true h3⟩, of_decide_eq_true h4⟩
def pool : List (List Nat) := [[97], [45], [], [48], [49], [48, 49], [45, 49], [48, 44, 49], [49, 44, 48], [48, 44, 48], [48, 44], [100, 111, 110, 101], [111, 112, 101, 110], [108, 111, 116], [108, 111, 103], [63, 97], [63], [122], [57]]
theorem pool_ok : ∀ w ∈ pool, (LowL w ∧ 10 ∉ w ∧ 32 ∉ w ∧ WOk w) ∧ w.length ≤ 5 := by
  have h : pool.all wordB = true := by decide +kernel
  exact fun w hw => word_ok (List.all_eq_true.mp h w hw)
def dbl : List (List Nat) → List (List Nat)
  | [] => []
  | [x] => [x]
  | x :: y :: r => x :: [] :: dbl (y :: r)
theorem dbl_cons (y : List Nat) (r : List (List Nat)) : ∃ z zs, dbl (y :: r) = z :: zs := by
  cases r with
  | nil => exact ⟨_, _, rfl⟩
  | cons a b => exact ⟨_, _, rfl⟩
theorem dbl_join : ∀ ws : List (List Nat), TL.joinL [32, 32] ws = TL.joinL [32] (dbl ws)
  | [] => rfl
  | [x] => rfl
  | x :: y :: r => by
    have ih := dbl_join (y :: r)
    obtain ⟨z, zs, e⟩ := dbl_cons y r
    rw [joinL_two, ih]
    show _ = TL.joinL [32] (x :: [] :: dbl (y :: r))
    rw [e, joinL_two, joinL_two]
    rfl
theorem dbl_len : ∀ ws : List (List Nat), (dbl ws).length ≤ 2 * ws.length
  | [] => Nat.le_refl _
  | [x] => by show 1 ≤ 2 * 1; decide
  | x :: y :: r => by
    have ih := dbl_len (y :: r)
    show (dbl (y :: r)).length + 1 + 1 ≤ 2 * ((y :: r).length + 1)
    omega
theorem dbl_mem : ∀ {ws : List (List Nat)} {w : List Nat}, w ∈ dbl ws → w = [] ∨ w ∈ ws
  | [], w, h => by cases h
  | [x], w, h => Or.inr h
  | x :: y :: r, w, h => by
    rcases List.mem_cons.mp (show w ∈ x :: [] :: dbl (y :: r) from h) with h | h
    · exact Or.inr (by rw [h]; exact List.mem_cons_self)
    · rcases List.mem_cons.mp h with h | h
      · exact Or.inl h
      · exact (dbl_mem h).imp id fun h => List.mem_cons_of_mem _ h
theorem dbl_sum : ∀ ws : List (List Nat), sumL (dbl ws) ≤ 2 * sumL ws
  | [] => Nat.le_refl _
  | [x] => by show x.length + 1 + 0 ≤ 2 * (x.length + 1 + 0); omega
  | x :: y :: r => by
    have ih := dbl_sum (y :: r)
    show (x.length + 1) + ((0 + 1) + sumL (dbl (y :: r))) ≤ 2 * ((x.length + 1) + sumL (y :: r))
    omega
theorem empty_ok : LowL [] ∧ 10 ∉ ([] : List Nat) ∧ 32 ∉ ([] : List Nat) ∧ WOk [] := (word_ok (w := []) (by decide +kernel)).1
theorem repl_ok {b : Nat} {l : List Nat} (h : LnOk b l) (hb : 1 ≤ b) : ∃ r, Txt.replace (S l) (S [32]) (S [32, 32]) = S r ∧ LnOk (2 * b) r ∧ r.length ≤ 2 * l.length + 2 := by
  have hw := ln_words h
  have hne := spl_ne 32 l
  unfold Txt.replace
  split
  · exact ⟨l, rfl, h.mono (by omega), by omega⟩
  · rename_i hc
    by_cases hl : l = []
    · subst hl
      exact (hc (by decide +kernel)).elim
    · refine ⟨TL.joinL [32, 32] (spl 32 l), ?_, ?_, ?_⟩
      · rw [← SX.join_S, ← spl_S]
        unfold Txt.join Txt.split
        have h1 : decide ((S l).length < (S [32]).length) = false := by
          rw [SX.S_len, SX.S_len]
          have := pos_of hl
          exact decide_eq_false (by show ¬ l.length < 1; omega)
        have h2 : decide (Builtin.Str.strKind (S l) < Builtin.Str.strKind (S [32])) = false := by
          rw [kind_low h.low, kind_low (l := [32]) (fun c hc => by rw [List.mem_singleton.mp hc]; decide)]
          rfl
        rw [h1, h2]
        have h3 : ¬ (Builtin.Str.occurrences (S l) (S [32]) 0 (S l).length ((S l).length + 1)).isEmpty = true := fun e => hc (by rw [e]; rfl)
        rw [if_neg (by decide), if_neg h3]
      · rw [dbl_join]
        refine ln_join ?_ (Nat.le_trans (dbl_len _) (by have := h.wds; omega)) fun w hw2 => ?_
        · cases e : spl 32 l with
          | nil => exact (hne e).elim
          | cons y r =>
            obtain ⟨z, zs, e2⟩ := dbl_cons y r
            rw [e2]
            simp
        · rcases dbl_mem hw2 with e | e
          · rw [e]
            exact empty_ok
          · exact hw w e
      · rw [dbl_join]
        have h1 := joinL_le 32 (dbl (spl 32 l))
        have h2 := dbl_sum (spl 32 l)
        have h3 : sumL (spl 32 l) = l.length + 1 := spl_sum 32 l
        omega
theorem join_snoc (ws : List (List Nat)) (w : List Nat) (h : ws ≠ []) : TL.joinL [32] (ws ++ [w]) = TL.joinL [32] ws ++ ([32] ++ w) := by
  induction ws with
  | nil => exact (h rfl).elim
  | cons x r ih =>
    cases r with
    | nil => rfl
    | cons y r =>
      show TL.joinL [32] (x :: y :: (r ++ [w])) = _
      rw [joinL_two, joinL_two]
      have := ih (by simp)
      rw [show y :: (r ++ [w]) = (y :: r) ++ [w] from rfl, this]
      simp
theorem ln_snoc {b : Nat} {l w : List Nat} (h : LnOk b l) (hw : LowL w ∧ 10 ∉ w ∧ 32 ∉ w ∧ WOk w) : LnOk (b + 1) (l ++ ([32] ++ w)) := by
  have e := join_snoc (spl 32 l) w (spl_ne 32 l)
  rw [spl_join] at e
  rw [← e]
  refine ln_join (by simp) (by rw [List.length_append]; have := h.wds; show _ + 1 ≤ _; omega) fun u hu => ?_
  rcases List.mem_append.mp hu with hu | hu
  · exact ln_words h u hu
  · rw [List.mem_singleton.mp hu]
    exact hw
theorem ln_front {b : Nat} {l : List Nat} (h : LnOk b l) : LnOk (b + 1) ([32] ++ l) := by
  have e : TL.joinL [32] ([] :: spl 32 l) = [32] ++ l := by
    cases e : spl 32 l with
    | nil => exact (spl_ne 32 l e).elim
    | cons y r =>
      rw [joinL_two, ← e, spl_join]
      rfl
  rw [← e]
  refine ln_join (by simp) (by rw [List.length_cons]; have := h.wds; omega) fun u hu => ?_
  rcases List.mem_cons.mp hu with hu | hu
  · rw [hu]
    exact empty_ok
  · exact ln_words h u hu
theorem ln_set {b : Nat} {l w : List Nat} {k : Nat} (h : LnOk b l) (hw : LowL w ∧ 10 ∉ w ∧ 32 ∉ w ∧ WOk w) : LnOk b (TL.joinL [32] ((spl 32 l).set k w)) := by
  refine ln_join ?_ (by rw [List.length_set]; exact h.wds) fun u hu => ?_
  · intro e
    have := congrArg List.length e
    rw [List.length_set] at this
    exact spl_ne 32 l (List.length_eq_zero_iff.mp this)
  · rcases List.mem_or_eq_of_mem_set hu with hu | hu
    · exact ln_words h u hu
    · rw [hu]
      exact hw
theorem ln_nil {b : Nat} (hb : 1 ≤ b) : LnOk b [] := by
  have := ln_join (b := b) (ws := [[]]) (by simp) hb fun w hw => by rw [List.mem_singleton.mp hw]; exact empty_ok
  exact this
end Lw

namespace Mq
open PySem PySem.Spec PyProof.Rows L2
/-! ### e.replace(c, d) of two written texts, e any expression, behind a first item that gives out a token -/
section
variable {X : Cx}
def tRepE (te : TE) (y z : Str) : TE := fun σ H Q => te σ H fun v H1 => ∃ x, v = .str x ∧ x.length + (x.length + 1) * z.length ≤ 16777216 ∧ Q (.str (Txt.replace x y z)) H1
theorem pet_repE {e : Expr} {te : TE} {j0 j1 : Nat} {y z : Str} {c0 c1 apos pos : Pos} (he : PE X e te) (hyz : (y == z) = false)
    (hst : starEach [.Constant (.str y) j0 c0, .Constant (.str z) j1 c1] X.env = [(false, eval (.Constant (.str y) j0 c0) X.env), (false, eval (.Constant (.str z) j1 c1) X.env)] := by rfl)
    (hbase : attributeBase e "replace" X.env (eval e X.env) = eval e X.env := by rfl) (hline : (apos.endLine == pos.line) = true := by rfl) :
    PET X (.Call (.Attribute e "replace" apos) [.Constant (.str y) j0 c0, .Constant (.str z) j1 c1] [] pos) (tRepE te y z) := by
  intro pins s σ H Q h0 I h
  refine PySem.Call_method2 hbase hst hline ?_
  refine wpAny_mono (PySem.wpAny_toks (he.run pins s σ H _ I h)) (fun v s1 hq => ?_) fun _ _ z => z.2
  obtain ⟨hk, y0, H1, I1, r1, x, rfl, hb, q⟩ := hq
  obtain ⟨tx, e⟩ := r1
  subst e
  have hk' : s.toks ≤ s1.toks := hk
  refine ⟨"str", _, F.plainAttrs_str, F.slot_str_replace, F.type_str_replace, typeIs_str _ _ _, (fun _ e => nomatch e), Calls.callWith_builtin rfl (Calls.evalArgs_plain (Calls.spliced_cons ?_))⟩
  refine Calls.Constant_str (Calls.spliced_cons (Calls.Constant_str (Calls.spliced_nil ?_)))
  exact PySem.SC.replace (show s1.toks ≠ 0 by omega) (show s1.toks + 1 ≠ 0 by omega) (show s1.toks ≠ s1.toks + 1 by omega) hyz hb fun t' k => ⟨.str (Txt.replace x y z), H1, I1.tok k, ⟨t', rfl⟩, q⟩
end
end Mq

namespace Lw
open PySem PySem.Spec PyProof.Rows L2 Mq
open SX (S)
/-! ### a text with something otherwise: the def -/
theorem joinS (sep : List Nat) (ws : List (List Nat)) (w : List Nat) (h : ws ≠ []) : TL.joinL sep (ws ++ [w]) = TL.joinL sep ws ++ (sep ++ w) := by
  induction ws with
  | nil => exact (h rfl).elim
  | cons x r ih =>
    cases r with
    | nil => rfl
    | cons y r =>
      show TL.joinL sep (x :: y :: (r ++ [w])) = _
      rw [joinL_two, joinL_two]
      have := ih (by simp)
      rw [show y :: (r ++ [w]) = (y :: r) ++ [w] from rfl, this]
      simp
theorem Pg.mono {a b c a' b' c' : Nat} {t : List Nat} (h : Pg a b c t) (ha : a ≤ a') (hb : b ≤ b') (hc : c ≤ c') : Pg a' b' c' t := ⟨Nat.le_trans h.lns ha, Nat.le_trans h.len hc, fun l hl => (h.ok l hl).mono hb⟩
def poolA : List (List Nat) := [[97], [45], [], [48], [49], [48, 49], [45, 49], [48, 44, 49], [49, 44, 48], [48, 44, 48], [48, 44], [100, 111, 110, 101], [111, 112, 101, 110], [108, 111, 116]]
def poolB : List (List Nat) := [[108, 111, 103], [63, 97], [63], [122], [57]]
theorem poolA_is : ([V.str "a", V.str "-", V.str "", V.str "0", V.str "1", V.str "01", V.str "-1", V.str "0,1", V.str "1,0", V.str "0,0", V.str "0,", V.str "done", V.str "open", V.str "lot"] : List V) = txs poolA := rfl
theorem poolB_is : ([V.str "log", V.str "?a", V.str "?", V.str "z", V.str "9"] : List V) = txs poolB := rfl
theorem pool_is : txs poolA ++ txs poolB = txs pool := rfl
def tEnd : TE := fun σ H Q => ∃ (W : Addr) (ps : List (List Nat)) (way a b c : Nat), σ[2]? = some (some (.ref W)) ∧ σ[3]? = some (some (.int ((way : Nat) : Int))) ∧ H W = some (.lst (txs ps)) ∧ (∀ l ∈ ps, LnOk b l) ∧ ps.length ≤ a ∧ sumL ps ≤ c ∧ c ≤ 100000 ∧ 1 ≤ b ∧ 1 ≤ a ∧ 1 ≤ c ∧ (ps ≠ [] ∨ way ≠ 8) ∧
  ∀ l, Pg (a + 1) b (c + 1) l → Q (.str (S l)) H
def spBent : Sp := fun vs H Q _ => ∃ (D C : Addr) (T : Nat) (t : List Nat) (a b c : Nat), vs = [.ref D, .str (S t)] ∧ DeckAt D C T H ∧ T ≤ 890000 ∧ Pg a b c t ∧ a ≤ 12 ∧ b ≤ 100 ∧ c ≤ 4000 ∧ 1 ≤ b ∧
  ∀ H' l, Pg (a + 2) (2 * b + 2) (2 * c + 20) l → DeckAt D C (T + 6) H' → Off D C H H' → Q (.str (S l)) H'
section
variable {P : Program} {w : World} {K : PySem.W.Frag} {mg : Str → Option Value} {base : Heap}
theorem ok_bent {f fD fP : Addr} {fd fdD fdP : FuncData} (F : Fun K "_law_bent" "_law_bent" s__law_bent f fd) (B : Blt mg)
    (FD : Fun K "_law_draw" "_law_draw" s__law_draw fD fdD) (gD : mg "_law_draw" = some (.ref fD)) (bD : Binds K fdD ["_law_deck_here", "_law_below"] []) (GD : FnOk P w K mg base CX0 1 fD fdD ["_law_deck_here", "_law_below"] spDraw)
    (FP : Fun K "_law_pick" "_law_pick" s__law_pick fP fdP) (gP : mg "_law_pick" = some (.ref fP)) (bP : Binds K fdP ["_law_deck_here", "_law_some"] []) (GP : FnOk P w K mg base CX0 2 fP fdP ["_law_deck_here", "_law_some"] spPick) :
    FnOk P w K mg base CX0 3 f fd ["_law_deck_here", "_law_page_here"] spBent := by
  refine F.ok sc__law_bent (fun vs H Q E h => ?_) (fun cdv A outer s H vs Q E hr h => ?_)
  · obtain ⟨_, _, _, _, _, _, _, rfl, _⟩ := h
    rfl
  · obtain ⟨D, C, T, t, a, b, c, rfl, hdk, hT, hpg, ha12, hb100, hc4, hb1, q⟩ := h
    refine ⟨_, (pss_cons (ps_par (i := 2) (j := 3) rfl sc__law_bent.nd rfl rfl (by decide) rfl rfl (pa_cons (pe_split (pv 1) pe_str) (pa_cons (pe_call GD (hr.mono (by decide)) (by rfl) gD FD.kp bD .nil pass0 (pa_cons (pv 0) (pa_cons pe_int pa_nil))) pa_nil)) (by rfl))
      (pss_cons (ps_par (i := 4) (j := 5) rfl sc__law_bent.nd rfl rfl (by decide) rfl rfl (pa_cons (pe_call GD (hr.mono (by decide)) (by rfl) gD FD.kp bD .nil pass0 (pa_cons (pv 0) (pa_cons (pe_callB call_len_seq (by rfl) B.len (by decide +kernel) (pa_cons (pv 2) pa_nil)) pa_nil))) (pa_cons (pe_call GD (hr.mono (by decide)) (by rfl) gD FD.kp bD .nil pass0 (pa_cons (pv 0) (pa_cons (pe_callB call_len_seq (by rfl) B.len (by decide +kernel) (pa_cons (pv 2) pa_nil)) pa_nil))) pa_nil)) (by rfl))
      (pss_cons (ps_set (i := 6) sc__law_bent.nd rfl (Or.inl rfl) (pe_split (pe_ix ix_list (pv 2) (pv 4) (fun _ _ => rfl)) pe_str))
      (pss_cons (ps_set (i := 7) sc__law_bent.nd rfl (Or.inl rfl) (pe_call GD (hr.mono (by decide)) (by rfl) gD FD.kp bD .nil pass0 (pa_cons (pv 0) (pa_cons (pe_callB call_len_seq (by rfl) B.len (by decide +kernel) (pa_cons (pv 6) pa_nil)) pa_nil))))
      (pss_cons (ps_if (pt_cmpR op_lt (pv 3) pe_int (nomark _))
          (pss_cons (ps_set (i := 8) sc__law_bent.nd rfl (Or.inl rfl) (Mq.pe_ls (pa_cons pe_str (pa_cons pe_str (pa_cons pe_str (pa_cons pe_str (pa_cons pe_str (pa_cons pe_str (pa_cons pe_str (pa_cons pe_str (pa_cons pe_str (pa_cons pe_str (pa_cons pe_str (pa_cons pe_str (pa_cons pe_str (pa_cons pe_str pa_nil))))))))))))))))
          (pss_cons (ps_set (i := 8) sc__law_bent.nd rfl (Or.inl rfl) (pe_op op_cat (pv 8) (Mq.pe_ls (pa_cons pe_str (pa_cons pe_str (pa_cons pe_str (pa_cons pe_str (pa_cons pe_str pa_nil))))))))
          (pss_cons (ps_asg (pe_call GP (hr.mono (by decide)) (by rfl) gP FP.kp bP .nil pass0 (pa_cons (pv 0) (pa_cons (pv 8) pa_nil))) (pg_sub (pv 6) (pv 7) set_list))
          (pss_one (ps_asg (pe_join pe_str (pv 6)) (pg_sub (pv 2) (pv 4) set_list))))))
        (pss_one (ps_if (pt_cmpR op_eq (pv 3) pe_int (nomark _)) (pss_one (ps_set (i := 2) sc__law_bent.nd rfl (Or.inl rfl) (pe_op op_cat (pe_slice sl_list (pv 2) po_none (po_some (pv 4))) (pe_slice sl_list (pv 2) (po_some (pe_op op_add (pv 4) pe_int)) po_none))))
        (pss_one (ps_if (pt_cmpR op_eq (pv 3) pe_int (nomark _)) (pss_one (ps_asg (pe_tup (pa_cons (pe_ix ix_list (pv 2) (pv 5) (fun _ _ => rfl)) (pa_cons (pe_ix ix_list (pv 2) (pv 4) (fun _ _ => rfl)) pa_nil))) (pg_tup rfl (pgs_cons (pg_sub (pv 2) (pv 4) set_list) (pgs_cons (pg_sub (pv 2) (pv 5) set_list) pgs_nil)))))
        (pss_one (ps_if (pt_cmpR op_eq (pv 3) pe_int (nomark _))
          (pss_cons (ps_set (i := 8) sc__law_bent.nd rfl (Or.inl rfl) (Mq.pe_ls (pa_consT op_add_str (pe_ix ix_list (pv 2) (pv 4) (fun _ _ => rfl)) (L2.pat_cons (pet_of (pe_op op_add_str pe_str (pe_ix ix_list (pv 2) (pv 4) (fun _ _ => rfl)))) (L2.pat_cons (pet_repE (pe_ix ix_list (pv 2) (pv 4) (fun _ _ => rfl)) (by decide +kernel)) (L2.pat_cons (pet_of pe_str) (L2.pat_cons (pet_of (pe_op op_add_str (pe_ix ix_list (pv 2) (pv 4) (fun _ _ => rfl)) pe_str)) (L2.pat_cons (pet_of (pe_op op_add_str (pe_ix ix_list (pv 2) (pv 4) (fun _ _ => rfl)) pe_str)) L2.pat_nil))))))))
          (pss_one (ps_asg (pe_call GP (hr.mono (by decide)) (by rfl) gP FP.kp bP .nil pass0 (pa_cons (pv 0) (pa_cons (pv 8) pa_nil))) (pg_sub (pv 2) (pv 4) set_list))))
        (pss_one (ps_if (pt_cmpR op_eq (pv 3) pe_int (nomark _)) (pss_one (ps_set (i := 2) sc__law_bent.nd rfl (Or.inl rfl) (pe_op op_cat (pe_op op_cat (pe_slice sl_list (pv 2) po_none (po_some (pv 4))) (Mq.pe_ls (pa_cons (pe_ix ix_list (pv 2) (pv 4) (fun _ _ => rfl)) pa_nil))) (pe_slice sl_list (pv 2) (po_some (pv 4)) po_none)))) pss_nil)))))))))
      (pss_one (ps_ret (PE_imp (t' := tEnd) (pe_op op_add_str (pe_join pe_str (pv 2)) (pe_ifExp (pt_cmpR op_eq (pv 3) pe_int (nomark _)) pe_str pe_str)) (fun σ H Q h => by
        obtain ⟨W, ps, way, a, b, c, h2, h3, hW, hok, hla, hsc, hc, hb1, ha1, hc1, hne, q⟩ := h
        refine ⟨⟨_, rfl⟩, _, h2, S [10], W, ps.map S, rfl, rfl, Or.inl (SqL.of (hW.trans (by rw [map_SV]))), by rw [join_bound]; omega, ?_⟩
        rw [SX.join_S]
        have h1 := joinL_le 10 ps
        refine ⟨_, h3, rfl, _, rfl, ite2 (fun hy => ?_) (fun _ => ?_)⟩
        · refine ⟨S (TL.joinL [10] ps), S [10], rfl, rfl, sz_le (by rw [SX.S_len, SX.S_len]; show _ + 1 ≤ _; omega), ?_⟩
          rw [SX.S_cat]
          have hn : ps ≠ [] := hne.resolve_right fun e => e (by have := V.int.inj (of_decide_eq_true hy); omega)
          have e := joinS [10] ps [] hn
          rw [List.append_nil] at e
          rw [← e]
          refine q _ (pg_join (by rw [List.length_append]; show _ + 1 ≤ _; omega) (by rw [sumL_app, sumL_one]; show _ + (0 + 1) ≤ _; omega) (fun l hl => ?_) (by omega) hb1 (by omega))
          rcases List.mem_append.mp hl with hl | hl
          · exact hok l hl
          · rw [List.mem_singleton.mp hl]
            exact ln_nil hb1
        · refine ⟨S (TL.joinL [10] ps), S [], rfl, rfl, sz_le (by rw [SX.S_len, SX.S_len]; show _ + 0 ≤ _; omega), ?_⟩
          rw [SX.S_cat, List.append_nil]
          exact q _ (pg_join (by omega) (by omega) hok (by omega) hb1 (by omega))))))))))), ?_⟩
    have hz : (S t).length = t.length := SX.S_len t
    have htl := hpg.len
    refine ⟨_, rfl, ⟨_, rfl⟩, S t, S [10], rfl, rfl, rfl, sz_le (by omega), fun W hW => ?_⟩
    rw [spl_S, map_SV]
    obtain ⟨nD, nC⟩ := new_ne hdk hW
    have s1 := same_new (o := HO.lst (txs (spl 10 t))) hW
    have z1 : upd H W (.lst (txs (spl 10 t))) W = some (.lst (txs (spl 10 t))) := upd_same
    have dk1 := hdk.same s1
    have off1 : Off D C H (upd H W (.lst (txs (spl 10 t)))) := Off.same s1
    generalize upd H W (.lst (txs (spl 10 t))) = H1 at s1 z1 dk1 off1 ⊢
    have hsum : sumL (spl 10 t) = t.length + 1 := spl_sum 10 t
    have hwo := hpg.ok
    have hla := hpg.lns
    have hnn := spl_ne 10 t
    have hne := pos_of hnn
    generalize spl 10 t = ws at z1 hwo hla hsum hne hnn ⊢
    refine ⟨_, rfl, D, C, T, 9, rfl, dk1, by omega, by decide, by decide, fun H2 way hway dk2 off2 => ?_⟩
    have z2 := off2 W _ nD nC z1
    refine ⟨_, _, rfl, ?_⟩
    refine ⟨_, rfl, _, rfl, W, _, rfl, .inl (SqL.of z2), D, C, T + 1, ws.length, ?_, dk2, by omega, hne, by omega, fun H3 at_ hat dk3 off3 => ?_⟩
    · rw [List.length_map]
      rfl
    have z3 := off3 W _ nD nC z2
    refine ⟨_, rfl, _, rfl, W, _, rfl, .inl (SqL.of z3), D, C, T + 2, ws.length, ?_, dk3, by omega, hne, by omega, fun H4 to hto dk4 off4 => ?_⟩
    · rw [List.length_map]
      rfl
    have z4 := off4 W _ nD nC z3
    have off14 := ((off1.trans off2).trans off3).trans off4
    refine ⟨_, _, rfl, ?_⟩
    have len1 : ∀ {k : Nat} (h : k < ws.length), (ws[k]).length ≤ t.length := by
      intro k h
      have h1 := sum_ge (List.getElem_mem h)
      have h2 : (ws.map fun p => p.length + 1).sum = t.length + 1 := hsum
      omega
    have hlk := hwo _ (List.getElem_mem hat)
    have hll := len1 hat
    refine ⟨_, rfl, _, rfl, W, _, _, _, rfl, rfl, SqL.of z4, txs_at hat, ⟨_, rfl⟩, S ws[at_], S [32], rfl, rfl, rfl, sz_le (by rw [SX.S_len]; omega), fun V2 hV2 => ?_⟩
    rw [spl_S, map_SV]
    obtain ⟨vD, vC⟩ := new_ne dk4 hV2
    have hVW : V2 ≠ W := by
      rintro rfl
      rw [z4] at hV2
      cases hV2
    have s5 := same_new (o := HO.lst (txs (spl 32 ws[at_]))) hV2
    have v5 : upd H4 V2 (.lst (txs (spl 32 ws[at_]))) V2 = some (.lst (txs (spl 32 ws[at_]))) := upd_same
    have z5 := s5 _ _ z4
    have dk5 := dk4.same s5
    have off15 := off14.trans (Off.same s5)
    have hV0 : H V2 = none := by
      cases e : H V2 with
      | none => rfl
      | some o =>
        rw [off14 V2 o vD vC e] at hV2
        cases hV2
    generalize upd H4 V2 (.lst (txs (spl 32 ws[at_]))) = H5 at s5 v5 z5 dk5 off15 ⊢
    have hwc := hlk.wds
    have hwp := pos_of (spl_ne 32 ws[at_])
    refine ⟨_, rfl, _, rfl, V2, _, rfl, .inl (SqL.of v5), D, C, T + 3, (spl 32 ws[at_]).length, ?_, dk5, by omega, hwp, by omega, fun H6 sp hsp dk6 off6 => ?_⟩
    · rw [List.length_map]
      rfl
    have z6 := off6 W _ nD nC z5
    have v6 := off6 V2 _ vD vC v5
    have off16 := off15.trans off6
    have ea : ((at_ : Nat) : Int) + 1 = ((at_ + 1 : Nat) : Int) := by omega
    have hcut := sumL_cut ws at_
    have hdr := sumL_drop ws at_
    have hsz : ∀ (ps qs : List (List Nat)), ps.length ≤ 2000 → qs.length ≤ 2000 → (txs ps).length + (txs qs).length ≤ sizeLine := fun ps qs h1 h2 => sz_le (by rw [List.length_map, List.length_map]; omega)
    have htk : (ws.take at_).length ≤ at_ := by rw [List.length_take]; omega
    have hdp : (ws.drop at_).length = ws.length - at_ := List.length_drop ..
    have hdp1 : (ws.drop (at_ + 1)).length = ws.length - (at_ + 1) := List.length_drop ..
    have set1 : ∀ (k : Nat) (u : List Nat), (txs ws).set k (V.str (S u)) = txs (ws.set k u) := fun k u => List.map_set.symm
    have okT : ∀ n, ∀ l ∈ ws.take n, LnOk b l := fun n l hl => hwo l (List.mem_of_mem_take hl)
    have okD : ∀ n, ∀ l ∈ ws.drop n, LnOk b l := fun n l hl => hwo l (List.mem_of_mem_drop hl)
    have okS : ∀ (k : Nat) (u : List Nat) (b' : Nat), b ≤ b' → LnOk b' u → ∀ l ∈ ws.set k u, LnOk b' l := fun k u b' hb' hu l hl => (List.mem_or_eq_of_mem_set hl).elim (fun h => (hwo l h).mono hb') fun h => by rw [h]; exact hu
    have setN : ∀ (k : Nat) (u : List Nat), ws.set k u ≠ [] := fun k u e => hnn (List.length_eq_zero_iff.mp (by have := congrArg List.length e; rw [List.length_set] at this; exact this))
    refine ⟨_, rfl, _, _, rfl, rfl, _, rfl, ite2 (fun hc => ?_) (fun hc => ?_)⟩
    · refine ⟨sz_le (n := 14) (by decide), fun p hp _ => ?_⟩
      rw [poolA_is]
      have t1 := same_new (o := HO.lst (txs poolA)) hp
      have y1 : upd H6 p (.lst (txs poolA)) p = some (.lst (txs poolA)) := upd_same
      generalize upd H6 p (.lst (txs poolA)) = G1 at t1 y1 ⊢
      refine ⟨_, rfl, sz_le (n := 5) (by decide), fun p2 hp2 _ => ?_⟩
      rw [poolB_is]
      have t2 := same_new (o := HO.lst (txs poolB)) hp2
      have y2 : upd G1 p2 (.lst (txs poolB)) p2 = some (.lst (txs poolB)) := upd_same
      have y12 := t2 _ _ y1
      have t12 := t1.trans t2
      generalize upd G1 p2 (.lst (txs poolB)) = G2 at y2 y12 t12 ⊢
      refine ⟨p, p2, _, _, rfl, rfl, y12, y2, sz_le (n := 19) (by decide), fun p3 hp3 => ?_⟩
      rw [pool_is]
      have t3 := same_new (o := HO.lst (txs pool)) hp3
      have t13 := t12.trans t3
      have dk7 := dk6.same t13
      obtain ⟨pD, pC⟩ := new_ne (dk6.same t12) hp3
      refine ⟨_, rfl, _, rfl, D, C, T + 4, .ref p3, rfl, dk7, by omega, Or.inr ⟨p3, _, rfl, upd_same, pC, by decide, by decide, fun H9 v hv dk9 off9 => ?_⟩⟩
      obtain ⟨w, hwl, rfl⟩ := List.mem_map.mp hv
      obtain ⟨wok, wn⟩ := pool_ok w hwl
      have z9 := off9 W _ nD nC (t13 _ _ z6)
      have v9 := off9 V2 _ vD vC (t13 _ _ v6)
      refine ⟨_, rfl, _, rfl, V2, _, _, sp, rfl, rfl, v9, ixN_at (by rw [List.length_map]; exact hsp), ?_⟩
      rw [show (txs (spl 32 ws[at_])).set sp (V.str (S w)) = txs ((spl 32 ws[at_]).set sp w) from List.map_set.symm]
      have e2 := sumL_set (spl 32 ws[at_]) sp w
      have e3 : sumL (spl 32 ws[at_]) = (ws[at_]).length + 1 := spl_sum 32 ws[at_]
      have e4 := joinL_le 32 ((spl 32 ws[at_]).set sp w)
      have nl := ln_set (k := sp) hlk wok
      refine ⟨⟨_, rfl⟩, _, rfl, S [32], V2, ((spl 32 ws[at_]).set sp w).map S, rfl, rfl, Or.inl (SqL.of (upd_same.trans (by rw [map_SV]))), by rw [join_bound]; omega, ?_⟩
      rw [SX.join_S]
      generalize TL.joinL [32] ((spl 32 ws[at_]).set sp w) = l' at e4 nl ⊢
      refine ⟨_, rfl, _, rfl, W, _, _, at_, rfl, rfl, (upd_ne (Ne.symm hVW)).trans z9, ixN_at (by rw [List.length_map]; exact hat), ?_⟩
      rw [set1]
      have e5 := sumL_set_eq hat l'
      exact ⟨W, ws.set at_ l', way, a, b, c + 20, rfl, rfl, upd_same, okS at_ l' b (Nat.le_refl _) nl, by rw [List.length_set]; exact hla, by omega, by omega, hb1, by omega, by omega, Or.inl (setN _ _),
        fun l hl => q _ l (hl.mono (by omega) (by omega) (by omega)) ((deck_lst (deck_lst dk9 vD vC) nD nC).mono (by omega)) (off_lst (off_lst ((off16.trans (Off.same t13)).trans off9) hV0) hW)⟩
    refine ⟨_, rfl, rfl, _, rfl, ite2 (fun hc4 => ?_) (fun hc4 => ?_)⟩
    · refine ⟨_, rfl, _, rfl, _, rfl, W, _, rfl, SqL.of z6, fun p1 hp1 => ?_⟩
      rw [txs_to]
      have t1 := same_new (o := HO.lst (txs (ws.take at_))) hp1
      have y1 : upd H6 p1 (.lst (txs (ws.take at_))) p1 = some (.lst (txs (ws.take at_))) := upd_same
      have w1 := t1 _ _ z6
      generalize upd H6 p1 (.lst (txs (ws.take at_))) = G1 at t1 y1 w1 ⊢
      refine ⟨_, rfl, _, rfl, _, _, rfl, rfl, _, rfl, W, _, rfl, SqL.of w1, fun p2 hp2 => ?_⟩
      rw [ea, txs_from]
      have t2 := same_new (o := HO.lst (txs (ws.drop (at_ + 1)))) hp2
      refine ⟨p1, p2, _, _, rfl, rfl, t2 _ _ y1, upd_same, hsz _ _ (by omega) (by omega), fun p3 hp3 => ?_⟩
      rw [show txs (ws.take at_) ++ txs (ws.drop (at_ + 1)) = txs (ws.take at_ ++ ws.drop (at_ + 1)) from List.map_append.symm]
      have t3 := same_new (o := HO.lst (txs (ws.take at_ ++ ws.drop (at_ + 1)))) hp3
      have t13 := (t1.trans t2).trans t3
      have e5 := sumL_app (ws.take at_) (ws.drop (at_ + 1))
      have w8 : way ≠ 8 := by have := V.int.inj (of_decide_eq_true hc4); omega
      exact ⟨p3, ws.take at_ ++ ws.drop (at_ + 1), way, a, b, c, rfl, rfl, upd_same, fun l hl => (List.mem_append.mp hl).elim (okT _ l) (okD _ l), by rw [List.length_append]; omega, by omega, by omega, hb1, by omega, by omega, Or.inr w8, fun l hl => q _ l (hl.mono (by omega) (by omega) (by omega)) ((dk6.same t13).mono (by omega)) (off16.trans (Off.same t13))⟩
    refine ⟨_, rfl, rfl, _, rfl, ite2 (fun _ => ?_) (fun _ => ?_)⟩
    · refine ⟨_, rfl, _, rfl, W, _, _, _, rfl, rfl, SqL.of z6, txs_at hto, _, rfl, _, rfl, W, _, _, _, rfl, rfl, SqL.of z6, txs_at hat, sz_le (n := 2) (by decide), fun p hp => ?_⟩
      have t1 := same_new (o := HO.tup [V.str (S ws[to]), V.str (S ws[at_])]) hp
      have w1 := t1 _ _ z6
      have dk7 := dk6.same t1
      have off7 := off16.trans (Off.same t1)
      refine ⟨p, _, rfl, Or.inl (Or.inl upd_same), rfl, _, _, rfl, _, rfl, _, rfl, W, _, _, at_, rfl, rfl, w1, ixN_at (by rw [List.length_map]; exact hat), ?_⟩
      rw [set1]
      have e1 := sumL_set_eq hat ws[to]
      have hto2 : to < (ws.set at_ ws[to]).length := by rw [List.length_set]; exact hto
      have e2 := sumL_set_eq hto2 ws[at_]
      have e3 : ((ws.set at_ ws[to])[to]).length = (ws[to]).length := by
        rw [List.getElem_set]
        split
        · rfl
        · rfl
      refine ⟨_, _, rfl, _, rfl, _, rfl, W, _, _, to, rfl, rfl, upd_same, ixN_at (by rw [List.length_map, List.length_set]; exact hto), rfl, ?_⟩
      rw [show (txs (ws.set at_ ws[to])).set to (V.str (S ws[at_])) = txs ((ws.set at_ ws[to]).set to ws[at_]) from List.map_set.symm]
      exact ⟨W, (ws.set at_ ws[to]).set to ws[at_], way, a, b, c, rfl, rfl, upd_same, fun l hl => (List.mem_or_eq_of_mem_set hl).elim (okS at_ _ b (Nat.le_refl _) (hwo _ (List.getElem_mem hto)) l) fun e => by rw [e]; exact hlk, by rw [List.length_set, List.length_set]; exact hla, by omega, by omega, hb1, by omega, by omega,
        Or.inl (fun e => setN at_ ws[to] (List.length_eq_zero_iff.mp (by have := congrArg List.length e; rw [List.length_set] at this; exact this))), fun l hl => q _ l (hl.mono (by omega) (by omega) (by omega)) ((deck_lst (deck_lst dk7 nD nC) nD nC).mono (by omega)) (off_lst (off_lst off7 hW) hW)⟩
    refine ⟨_, rfl, rfl, _, rfl, ite2 (fun _ => ?_) (fun _ => ?_)⟩
    · have hlz : (S ws[at_]).length = (ws[at_]).length := SX.S_len _
      obtain ⟨r, er, rok, rn⟩ := repl_ok hlk hb1
      have n1 : (" " : Str).length = 1 := by decide +kernel
      have n2 : (" a" : Str).length = 2 := by decide +kernel
      have n3 : (" -" : Str).length = 2 := by decide +kernel
      have n4 : ("  " : Str).length = 2 := by decide +kernel
      have e1 : (S ws[at_] ++ " " : Str) = S (ws[at_] ++ ([32] ++ [])) := by rw [show (" " : Str) = S [32] by decide +kernel, SX.S_cat]; rfl
      have e2 : (" " ++ S ws[at_] : Str) = S ([32] ++ ws[at_]) := by rw [show (" " : Str) = S [32] by decide +kernel, SX.S_cat]
      have e3 : (S ws[at_] ++ " a" : Str) = S (ws[at_] ++ ([32] ++ [97])) := by rw [show (" a" : Str) = S [32, 97] by decide +kernel, SX.S_cat]; rfl
      have e4 : (S ws[at_] ++ " -" : Str) = S (ws[at_] ++ ([32] ++ [45])) := by rw [show (" -" : Str) = S [32, 45] by decide +kernel, SX.S_cat]; rfl
      refine ⟨_, rfl, _, rfl, W, _, _, _, rfl, rfl, SqL.of z6, txs_at hat, S ws[at_], " ", rfl, rfl, sz_le (by omega), ?_⟩
      rw [e1]
      refine ⟨_, rfl, _, rfl, W, _, _, _, rfl, rfl, SqL.of z6, txs_at hat, " ", S ws[at_], rfl, rfl, sz_le (by omega), ?_⟩
      rw [e2]
      refine ⟨_, rfl, _, rfl, W, _, _, _, rfl, rfl, SqL.of z6, txs_at hat, S ws[at_], rfl, by rw [n4]; omega, ?_⟩
      rw [show Txt.replace (S ws[at_]) " " "  " = S r from er]
      refine ⟨_, rfl, _, rfl, W, _, _, _, rfl, rfl, SqL.of z6, txs_at hat, S ws[at_], " a", rfl, rfl, sz_le (by omega), ?_⟩
      rw [e3]
      refine ⟨_, rfl, _, rfl, W, _, _, _, rfl, rfl, SqL.of z6, txs_at hat, S ws[at_], " -", rfl, rfl, sz_le (by omega), ?_⟩
      rw [e4]
      refine ⟨sz_le (n := 6) (by decide), fun p hp _ => ?_⟩
      have six : ∀ u ∈ [ws[at_] ++ ([32] ++ []), [32] ++ ws[at_], r, [], ws[at_] ++ ([32] ++ [97]), ws[at_] ++ ([32] ++ [45])], LnOk (2 * b + 2) u ∧ u.length ≤ 2 * (ws[at_]).length + 2 := by
        intro u hu
        simp only [List.mem_cons, List.not_mem_nil, or_false] at hu
        rcases hu with rfl | rfl | rfl | rfl | rfl | rfl
        · exact ⟨(ln_snoc hlk empty_ok).mono (by omega), by rw [List.length_append]; show _ + 1 ≤ _; omega⟩
        · exact ⟨(ln_front hlk).mono (by omega), by rw [List.length_append]; show 1 + _ ≤ _; omega⟩
        · exact ⟨rok.mono (by omega), rn⟩
        · exact ⟨ln_nil (by omega), Nat.zero_le _⟩
        · exact ⟨(ln_snoc hlk (word_ok (w := [97]) (by decide +kernel)).1).mono (by omega), by rw [List.length_append]; show _ + 2 ≤ _; omega⟩
        · exact ⟨(ln_snoc hlk (word_ok (w := [45]) (by decide +kernel)).1).mono (by omega), by rw [List.length_append]; show _ + 2 ≤ _; omega⟩
      generalize hgs : [ws[at_] ++ ([32] ++ []), [32] ++ ws[at_], r, [], ws[at_] ++ ([32] ++ [97]), ws[at_] ++ ([32] ++ [45])] = gs at six
      have hgl : gs.length = 6 := by rw [← hgs]; rfl
      have egs : [V.str (S (ws[at_] ++ ([32] ++ []))), V.str (S ([32] ++ ws[at_])), V.str (S r), V.str "", V.str (S (ws[at_] ++ ([32] ++ [97]))), V.str (S (ws[at_] ++ ([32] ++ [45])))] = txs gs := by rw [← hgs]; rfl
      rw [egs]
      have t1 := same_new (o := HO.lst (txs gs)) hp
      have dk7 := dk6.same t1
      obtain ⟨pD, pC⟩ := new_ne dk6 hp
      refine ⟨_, rfl, _, rfl, D, C, T + 4, .ref p, rfl, dk7, by omega, Or.inr ⟨p, _, rfl, upd_same, pC, by rw [List.length_map, hgl]; decide, by rw [List.length_map, hgl]; decide, fun H9 v hv dk9 off9 => ?_⟩⟩
      obtain ⟨u, hu, rfl⟩ := List.mem_map.mp hv
      obtain ⟨uok, un⟩ := six u hu
      have z9 := off9 W _ nD nC (t1 _ _ z6)
      refine ⟨_, rfl, _, rfl, W, _, _, at_, rfl, rfl, z9, ixN_at (by rw [List.length_map]; exact hat), ?_⟩
      rw [set1]
      have e5 := sumL_set_eq hat u
      exact ⟨W, ws.set at_ u, way, a, 2 * b + 2, 2 * c + 10, rfl, rfl, upd_same, okS at_ u _ (by omega) uok, by rw [List.length_set]; exact hla, by omega, by omega, by omega, by omega, by omega, Or.inl (setN _ _),
        fun l hl => q _ l (hl.mono (by omega) (by omega) (by omega)) ((deck_lst dk9 nD nC).mono (by omega)) (off_lst ((off16.trans (Off.same t1)).trans off9) hW)⟩
    refine ⟨_, rfl, rfl, _, rfl, ite2 (fun _ => ?_) (fun _ => ?_)⟩
    · refine ⟨_, rfl, _, rfl, _, rfl, W, _, rfl, SqL.of z6, fun p1 hp1 => ?_⟩
      rw [txs_to]
      have t1 := same_new (o := HO.lst (txs (ws.take at_))) hp1
      have y1 : upd H6 p1 (.lst (txs (ws.take at_))) p1 = some (.lst (txs (ws.take at_))) := upd_same
      have w1 := t1 _ _ z6
      generalize upd H6 p1 (.lst (txs (ws.take at_))) = G1 at t1 y1 w1 ⊢
      refine ⟨_, rfl, _, rfl, W, _, _, _, rfl, rfl, SqL.of w1, txs_at hat, sz_le (n := 1) (by decide), fun p2 hp2 _ => ?_⟩
      have t2 := same_new (o := HO.lst [V.str (S ws[at_])]) hp2
      have y2 := t2 _ _ y1
      have w2 := t2 _ _ w1
      have x2 : upd G1 p2 (.lst [V.str (S ws[at_])]) p2 = some (.lst (txs [ws[at_]])) := upd_same
      have t12 := t1.trans t2
      generalize upd G1 p2 (.lst [V.str (S ws[at_])]) = G2 at t12 y2 w2 x2 ⊢
      refine ⟨p1, p2, _, _, rfl, rfl, y2, x2, hsz _ _ (by omega) (by show 1 ≤ 2000; decide), fun p3 hp3 => ?_⟩
      rw [show txs (ws.take at_) ++ txs [ws[at_]] = txs (ws.take at_ ++ [ws[at_]]) from List.map_append.symm]
      have t3 := same_new (o := HO.lst (txs (ws.take at_ ++ [ws[at_]]))) hp3
      have y3 : upd G2 p3 (.lst (txs (ws.take at_ ++ [ws[at_]]))) p3 = some (.lst (txs (ws.take at_ ++ [ws[at_]]))) := upd_same
      have w3 := t3 _ _ w2
      have t13 := t12.trans t3
      generalize upd G2 p3 (.lst (txs (ws.take at_ ++ [ws[at_]]))) = G3 at t13 y3 w3 ⊢
      refine ⟨_, rfl, _, rfl, _, rfl, W, _, rfl, SqL.of w3, fun p4 hp4 => ?_⟩
      rw [txs_from]
      have t4 := same_new (o := HO.lst (txs (ws.drop at_))) hp4
      have lt1 : (ws.take at_ ++ [ws[at_]]).length ≤ at_ + 1 := by rw [List.length_append]; show _ + 1 ≤ _; omega
      refine ⟨p3, p4, _, _, rfl, rfl, t4 _ _ y3, upd_same, hsz _ _ (by omega) (by omega), fun p5 hp5 => ?_⟩
      rw [show txs (ws.take at_ ++ [ws[at_]]) ++ txs (ws.drop at_) = txs (ws.take at_ ++ [ws[at_]] ++ ws.drop at_) from List.map_append.symm]
      have t5 := same_new (o := HO.lst (txs (ws.take at_ ++ [ws[at_]] ++ ws.drop at_))) hp5
      have t15 := (t13.trans t4).trans t5
      have e5 : sumL (ws.take at_ ++ [ws[at_]] ++ ws.drop at_) = sumL (ws.take at_) + ((ws[at_]).length + 1) + sumL (ws.drop at_) := by rw [sumL_app, sumL_app, sumL_one]
      exact ⟨p5, ws.take at_ ++ [ws[at_]] ++ ws.drop at_, way, a + 1, b, 2 * c, rfl, rfl, upd_same, fun l hl => (List.mem_append.mp hl).elim (fun hl => (List.mem_append.mp hl).elim (okT _ l) fun e => by rw [List.mem_singleton.mp e]; exact hlk) (okD _ l),
        by rw [List.length_append]; omega, by omega, by omega, hb1, by omega, by omega, Or.inl (fun e => by have := congrArg List.length e; rw [List.length_append, List.length_append] at this; simp at this), fun l hl => q _ l (hl.mono (by omega) (by omega) (by omega)) ((dk6.same t15).mono (by omega)) (off16.trans (Off.same t15))⟩
    · exact ⟨W, ws, way, a, b, c, rfl, rfl, z6, hwo, hla, by omega, by omega, hb1, by omega, by omega, Or.inl hnn, fun l hl => q _ l (hl.mono (by omega) (by omega) (by omega)) (dk6.mono (by omega)) off16⟩
end
end Lw

namespace Lw
open PySem PySem.Spec PyProof.Rows L2 Mq
open SX (S)
open TL (numL)
/-! ### the law's own text of a log -/
def rawL (L : Lot) : List (List Nat) := [lotL, numL L.n, stateL L.d, TL.joinL [44] (L.e.map numL), TL.joinL [32] L.w]
theorem raw_words (L : Lot) : (rawL L).map orDash = wordsL L := by
  have h1 : orDash (numL L.n) = numL L.n := if_neg (TL.numL_ne _)
  have h2 : orDash (stateL L.d) = stateL L.d := by cases L.d <;> rfl
  show [orDash lotL, orDash (numL L.n), orDash (stateL L.d), _, _] = _
  rw [h1, h2]
  rfl
def tState3 : TE := fun σ H Q => ∃ d, σ[3]? = some (some (.bl d)) ∧ Q (.str (S (stateL d))) H
theorem lines_sum (gs : List Lot) (h : ∀ f ∈ gs, LotOk f) : sumL (gs.map lineL) ≤ gs.length * 2001 := by
  induction gs with
  | nil => exact Nat.zero_le _
  | cons g gs ih =>
    have h3 := ih fun f hf => h f (List.mem_cons_of_mem _ hf)
    have h4 := lineL_len (h g List.mem_cons_self)
    show ((lineL g).length + 1) + sumL (gs.map lineL) ≤ (gs.length + 1) * 2001
    omega
section
variable {P : Program} {w : World} {K : PySem.W.Frag} {mg : Str → Option Value} {base : Heap}
theorem ok_page {f : Addr} {fd : FuncData} (F : Fun K "_law_page" "_law_page" s__law_page f fd) (B : Blt mg) :
    FnOk P w K mg base CX0 1 f fd ["_law_log_here"] (spLogText K) := by
  refine F.ok sc__law_page (fun vs H Q E h => ?_) (fun cdv A outer s H vs Q E hr h => ?_)
  · obtain ⟨_, _, _, rfl, _⟩ := h
    rfl
  · obtain ⟨p, xs, Ls, rfl, hp, hall, hok, hl, q⟩ := h
    refine ⟨_, (pss_cons (ps_set (i := 1) sc__law_page.nd rfl (Or.inl rfl) (Mq.pe_ls (pa_cons pe_str pa_nil)))
      (pss_cons (ps_for PassesOwn.never rfl (pi_tup (pv 0)) (pg_tup rfl (pgs_cons (pg_name (i := 2) sc__law_page.nd rfl (Or.inl rfl)) (pgs_cons (pg_name (i := 3) sc__law_page.nd rfl (Or.inl rfl)) (pgs_cons (pg_name (i := 4) sc__law_page.nd rfl (Or.inl rfl)) (pgs_cons (pg_name (i := 5) sc__law_page.nd rfl (Or.inl rfl)) pgs_nil)))))
        (pss_cons (ps_set (i := 6) sc__law_page.nd rfl (Or.inl rfl) (Mq.pe_ls (pa_cons pe_str (pa_cons (pe_callTy call_str_int (by rfl) B.str (by decide +kernel) (pa_cons (pv 2) pa_nil)) (pa_cons (PE_imp (t' := tState3) (pe_ifExp (pt_val (pv 3)) pe_str pe_str) (fun σ H Q h => by
          obtain ⟨d, h2, q⟩ := h
          refine ⟨_, h2, d, rfl, ?_⟩
          cases d with
          | true => exact ifT rfl q
          | false => exact ifF rfl q)) (pa_cons (pe_join pe_str (pe_lc (own := [("_law_n", 7)]) (g := gName 7) (tt := tYes) rfl sc__law_page.nd (pi_tup (pv 4)) (blkOk_by (own := [("_law_n", 7)]) (N := ["_law_log_here", "_law_lines", "_law_number_here", "_law_is_done", "_law_earlier", "_law_weft", "_law_some", "_law_n", "_law_word"]) (sc := defScope s__law_page) (by decide +kernel)) (fun _ _ _ _ _ => pg_name (i := 7) sc__law_page.nd rfl (Or.inl rfl)) (fun _ _ _ _ _ => pts_nil) (fun _ _ _ _ _ => (pe_callTy call_str_int (by rfl) B.str (by decide +kernel) (pa_cons (pv 7) pa_nil))))) (pa_cons (pe_join pe_str (pv 5)) pa_nil)))))))
        (pss_one (ps_expr (pe_bm PySem.F.plainAttrs_list PySem.F.slot_list_append PySem.F.type_list_append mt_append (pv 1) (pa_cons (pe_join pe_str (pe_lc (own := [("_law_word", 8)]) (g := gName 8) (tt := tYes) rfl sc__law_page.nd (pi_list (pv 6)) (blkOk_by (own := [("_law_word", 8)]) (N := ["_law_log_here", "_law_lines", "_law_number_here", "_law_is_done", "_law_earlier", "_law_weft", "_law_some", "_law_n", "_law_word"]) (sc := defScope s__law_page) (by decide +kernel)) (fun _ _ _ _ _ => pg_name (i := 8) sc__law_page.nd rfl (Or.inl rfl)) (fun _ _ _ _ _ => pts_nil) (fun _ _ _ _ _ => (pe_ifExp (pt_cmpR op_ne (pv 8) pe_str (nomark _)) (pv 8) pe_str)))) pa_nil))))))
      (pss_one (ps_ret (pe_join pe_str (pv 1)))))), ?_⟩
    have hxl : xs.length = Ls.length := hall.len
    refine ⟨sz_le (n := 1) (by decide), fun L hL _ => ?_⟩
    have s1 := same_new (o := HO.lst [V.str "log"]) hL
    have z1 : upd H L (.lst [V.str "log"]) L = some (.lst (txs [logL])) := upd_same
    generalize upd H L (.lst [V.str "log"]) = H1 at s1 z1 ⊢
    refine ⟨_, rfl, p, rfl, ⟨_, Same.tup s1 hp⟩, ?_⟩
    refine for_tup (xs := xs) (fun i σ H' => Same H H' ∧ H' L = some (.lst (txs (logL :: (Ls.take i).map lineL))) ∧ ∃ o2 o3 o4 o5 o6 o7 o8, σ = [some (.ref p), some (.ref L), o2, o3, o4, o5, o6, o7, o8])
      ⟨s1, z1, _, _, _, _, _, _, _, rfl⟩ (fun i σ H' _ pp => Same.tup pp.1 hp) ?_ ?_
    · rintro i x σ H2 hx ⟨s2, zL, o2, o3, o4, o5, o6, o7, o8, rfl⟩
      obtain ⟨Lt, hLt, pp, pe, pw, rfl, hpp, hpe, hpw⟩ := hall.at hx
      have ok := hok Lt (List.mem_of_getElem? hLt)
      have hi : i < Ls.length := by
        rcases Nat.lt_or_ge i Ls.length with h | h
        · exact h
        · rw [List.getElem?_eq_none h] at hLt
          cases hLt
      have hpp2 := Same.tup s2 hpp
      have hpe2 := Same.tup s2 hpe
      have hpw2 := Same.tup s2 hpw
      have hes := earl_sum ok
      have hww := ok.w
      refine ⟨pp, _, rfl, hpp2, rfl, _, _, rfl, _, _, rfl, _, _, rfl, _, _, rfl, rfl, ?_⟩
      refine ⟨_, rfl, _, rfl, log2_lt ok.n, ?_⟩
      rw [SX.num_S]
      refine ⟨Lt.d, rfl, ⟨_, rfl⟩, _, rfl, pe, rfl, ⟨_, hpe2⟩, fun D hD => ?_⟩
      refine lc_yes (walk_tup (a := pe) (xs := intsV Lt.e)) (fun i H' => Same H2 H' ∧ H' D = some (.lst (txs ((Lt.e.take i).map numL)))) ⟨same_new hD, upd_same⟩ (fun _ _ _ pp => Same.tup pp.1 hpe2) ?_ ?_
      · rintro j x H3 H4 hj ⟨s3, zD⟩ ⟨rfl, hx⟩
        rw [List.length_map] at hj
        rw [List.getElem?_map, List.getElem?_eq_getElem hj] at hx
        cases hx
        refine ⟨rfl, _, rfl, _, rfl, log2_lt (ok.e _ (List.getElem_mem hj)), _, zD, sz_lt (by rw [List.length_map, List.length_map, List.length_take]; have := ok.el; omega), push_same hD s3, ?_⟩
        rw [upd_same, List.take_add_one, List.getElem?_eq_getElem hj, List.map_append, SX.num_S]
        exact congrArg (fun z => some (HO.lst z)) (List.map_append (f := fun l : List Nat => V.str (S l)) (l₁ := (Lt.e.take j).map numL) (l₂ := [numL Lt.e[j]])).symm
      · rintro H3 ⟨s3, zD⟩
        rw [List.length_map, List.take_length] at zD
        refine ⟨S [44], D, (Lt.e.map numL).map S, rfl, rfl, Or.inl (SqL.of (zD.trans (by rw [map_SV]))), by rw [join_bound]; omega, ?_⟩
        rw [SX.join_S]
        refine ⟨⟨_, rfl⟩, _, rfl, S [32], pw, Lt.w.map S, rfl, rfl, Or.inr (by rw [map_SV]; exact Same.tup s3 hpw2), by rw [join_bound]; omega, ?_⟩
        rw [SX.join_S]
        refine ⟨sz_le (n := 5) (by decide), fun p6 hp6 _ => ?_⟩
        have e6 : [V.str "lot", V.str (S (numL Lt.n)), V.str (S (stateL Lt.d)), V.str (S (TL.joinL [44] (Lt.e.map numL))), V.str (S (TL.joinL [32] Lt.w))] = txs (rawL Lt) := rfl
        rw [e6]
        have s4 := same_new (o := HO.lst (txs (rawL Lt))) hp6
        have z6 : upd H3 p6 (.lst (txs (rawL Lt))) p6 = some (.lst (txs (rawL Lt))) := upd_same
        have s24 := s3.trans s4
        have zL4 := s24 _ _ zL
        generalize upd H3 p6 (.lst (txs (rawL Lt))) = H4 at z6 s24 zL4 ⊢
        refine ⟨_, rfl, Or.inl ⟨rfl, _, SqL.of zL4⟩, ⟨_, rfl⟩, _, rfl, p6, rfl, ⟨_, SqL.of z6⟩, fun D2 hD2 => ?_⟩
        refine lc_yes (walk_list (a := p6) (xs := txs (rawL Lt))) (fun i H' => Same H4 H' ∧ H' D2 = some (.lst (txs (((rawL Lt).take i).map orDash)))) ⟨same_new hD2, upd_same⟩ (fun _ _ _ pp => SqL.of (pp.1 _ _ z6)) ?_ ?_
        · rintro j x H5 H6 hj ⟨s5, zD2⟩ ⟨rfl, hx⟩
          rw [List.length_map] at hj
          rw [List.getElem?_map, List.getElem?_eq_getElem hj] at hx
          cases hx
          have fin : ∃ acc, H6 D2 = some (.lst acc) ∧ acc.length < sizeLine ∧ Same H4 (upd H6 D2 (.lst (acc ++ [V.str (S (orDash (rawL Lt)[j]))]))) ∧ upd H6 D2 (.lst (acc ++ [V.str (S (orDash (rawL Lt)[j]))])) D2 = some (.lst (txs (((rawL Lt).take (j + 1)).map orDash))) := by
            refine ⟨_, zD2, sz_lt (by rw [List.length_map, List.length_map, List.length_take]; have : (rawL Lt).length = 5 := rfl; omega), push_same hD2 s5, ?_⟩
            rw [upd_same, List.take_add_one, List.getElem?_eq_getElem hj, List.map_append]
            exact congrArg (fun z => some (HO.lst z)) (List.map_append (f := fun l : List Nat => V.str (S l)) (l₁ := ((rawL Lt).take j).map orDash) (l₂ := [orDash (rawL Lt)[j]])).symm
          refine ⟨rfl, _, rfl, rfl, _, rfl, ?_⟩
          rw [str_is_nil]
          unfold orDash at fin
          by_cases e : (rawL Lt)[j] = []
          · rw [if_pos e] at fin
            rw [decide_eq_true e]
            exact ifF rfl fin
          · rw [if_neg e] at fin
            rw [decide_eq_false e]
            exact ifT rfl ⟨_, rfl, fin⟩
        · rintro H5 ⟨s5, zD2⟩
          rw [List.length_map, List.take_length, raw_words] at zD2
          have hln := lineL_len ok
          have hsl : sumL (wordsL Lt) ≤ 16777216 := by
            have := join_len 32 (wordsL Lt) (by unfold wordsL; simp)
            unfold lineL at hln
            show ((wordsL Lt).map fun p => p.length + 1).sum ≤ _
            omega
          refine ⟨S [32], D2, (wordsL Lt).map S, rfl, rfl, Or.inl (SqL.of (zD2.trans (by rw [map_SV]))), by rw [join_bound]; exact hsl, ?_⟩
          rw [SX.join_S]
          refine ⟨L, _, _, rfl, rfl, s5 _ _ zL4, sz_lt (by rw [List.length_map, List.length_cons, List.length_map, List.length_take]; omega), push_same hL (s2.trans (s24.trans s5)), ?_, _, _, _, _, _, _, _, rfl⟩
          rw [upd_same, List.take_add_one, hLt, List.map_append]
          exact congrArg (fun z => some (HO.lst z)) (List.map_append (f := fun l : List Nat => V.str (S l)) (l₁ := logL :: (Ls.take i).map lineL) (l₂ := [lineL Lt])).symm
    · rintro σ H2 ⟨s2, zL, o2, o3, o4, o5, o6, o7, o8, rfl⟩
      rw [hxl, List.take_length] at zL
      have h5 := lines_sum Ls hok
      have hsum : sumL (logL :: Ls.map lineL) ≤ 1000000 := by
        show (3 + 1) + sumL (Ls.map lineL) ≤ _
        omega
      refine ⟨⟨_, rfl⟩, _, rfl, S [10], L, (logL :: Ls.map lineL).map S, rfl, rfl, Or.inl (SqL.of (zL.trans (by rw [map_SV]))), by rw [join_bound]; omega, ?_⟩
      rw [SX.join_S]
      exact q _ s2
end
end Lw

namespace Lw
open PySem PySem.Spec PyProof.Rows L2 Mq
open SX (S)
/-! ### a drawn log -/
def BigN : Nat := 10 ^ 30 + 1
abbrev nsOf (Ls : List Lot) : List Nat := Ls.map fun L => L.n
inductive Dr (sg : List Nat) : List Lot → Prop
  | nil : Dr sg []
  | snoc {acc : List Lot} {L : Lot} : Dr sg acc → (∀ m ∈ nsOf acc, m < L.n) → L.e.Sublist (nsOf acc) → (∀ u ∈ L.w, itemB sg u = true) → L.w.length ≤ 3 → L.n ≤ 3 + acc.length * BigN → Dr sg (acc ++ [L])
def menuA : List (List Nat) := [[97, 98], [97, 109], [97, 98, 120], [97]]
def spLog (K : PySem.W.Frag) : Sp := fun vs H Q _ => ∃ (D C : Addr) (T : Nat) (sg : List Nat), vs = [.ref D, .str (S sg)] ∧ DeckAt D C T H ∧ T ≤ 800000 ∧ sg.length ≤ 100 ∧
  ∀ H' p xs Ls, Dr sg Ls → Ls.length ≤ 4 → SqT K H' p xs → LotAll K H' xs Ls → DeckAt D C (T + 100) H' → Off D C H H' → Q (.ref p) H'
theorem items_pos {sg u : List Nat} (h : u ∈ itemsL sg) : 0 < u.length := by
  unfold itemsL at h
  rw [List.mem_append, List.mem_append, List.mem_singleton, List.mem_map, List.mem_map] at h
  rcases h with (rfl | ⟨c, hc, rfl⟩) | ⟨c, hc, rfl⟩
  · decide
  · exact Nat.succ_pos 1
  · exact Nat.succ_pos 0
def tIt : TE := fun σ H Q => ∃ (lays : Int) (sg u : List Nat), σ[5]? = some (some (.int lays)) ∧ σ[10]? = some (some (.str (S u))) ∧ u ∈ itemsL sg ∧ ∀ u', u' ∈ itemsL sg → Q (.str (S u')) H
def tDone : TE := fun σ H Q => ∃ (D C : Addr) (T : Nat) (many : Int), σ[0]? = some (some (.ref D)) ∧ σ[11]? = some (some (.int many)) ∧ DeckAt D C T H ∧ T ≤ 900000 ∧ ∀ H' d, DeckAt D C (T + 1) H' → Off D C H H' → Q (.bl d) H'
section
variable {P : Program} {w : World} {K : PySem.W.Frag} {mg : Str → Option Value} {base : Heap}
theorem ok_log {f fD fP fI : Addr} {fd fdD fdP fdI : FuncData} (F : Fun K "_law_log" "_law_log" s__law_log f fd) (B : Blt mg) (bM : mg "min" = none)
    (FD : Fun K "_law_draw" "_law_draw" s__law_draw fD fdD) (gD : mg "_law_draw" = some (.ref fD)) (bD : Binds K fdD ["_law_deck_here", "_law_below"] []) (GD : FnOk P w K mg base CX0 1 fD fdD ["_law_deck_here", "_law_below"] spDraw)
    (FP : Fun K "_law_pick" "_law_pick" s__law_pick fP fdP) (gP : mg "_law_pick" = some (.ref fP)) (bP : Binds K fdP ["_law_deck_here", "_law_some"] []) (GP : FnOk P w K mg base CX0 2 fP fdP ["_law_deck_here", "_law_some"] spPick)
    (FI : Fun K "_law_items" "_law_items" s__law_items fI fdI) (gI : mg "_law_items" = some (.ref fI)) (bI : Binds K fdI ["_law_letters"] []) (GI : FnOk P w K mg base CX0 1 fI fdI ["_law_letters"] spItems) :
    FnOk P w K mg base CX0 3 f fd ["_law_deck_here", "_law_letters"] (spLog K) := by
  refine F.ok sc__law_log (fun vs H Q E h => ?_) (fun cdv A outer s H vs Q E hr h => ?_)
  · obtain ⟨_, _, _, _, rfl, _⟩ := h
    rfl
  · obtain ⟨D, C, T, sg, rfl, hdk, hT, hsg, q⟩ := h
    refine ⟨_, (pss_cons (ps_asg (pe_tup (pa_cons (Mq.pe_ls pa_nil) (pa_cons (pe_call GD (hr.mono (by decide)) (by rfl) gD FD.kp bD .nil pass0 (pa_cons (pv 0) (pa_cons pe_int pa_nil))) (pa_cons pe_int (pa_cons (pe_op op_sub pe_int (pe_callTy call_int1 (by rfl) B.int (by decide +kernel) (pa_cons (pe_cmpR op_gt (pe_callB call_len (by rfl) B.len (by decide +kernel) (pa_cons (pv 1) pa_nil)) pe_int (nomark _)) pa_nil))) pa_nil))))) (pg_tup rfl (pgs_cons (pg_name (i := 2) sc__law_log.nd rfl (Or.inl rfl)) (pgs_cons (pg_name (i := 3) sc__law_log.nd rfl (Or.inl rfl)) (pgs_cons (pg_name (i := 4) sc__law_log.nd rfl (Or.inl rfl)) (pgs_cons (pg_name (i := 5) sc__law_log.nd rfl (Or.inl rfl)) pgs_nil))))))
      (pss_cons (ps_for PassesOwn.never rfl (pi_range1 (by rfl) B.range (pa_cons (pe_call GD (hr.mono (by decide)) (by rfl) gD FD.kp bD .nil pass0 (pa_cons (pv 0) (pa_cons pe_int pa_nil))) pa_nil)) (pg_name (i := 6) sc__law_log.nd rfl (Or.inl rfl))
        (pss_cons (ps_par (i := 7) (j := 8) rfl sc__law_log.nd rfl rfl (by decide) rfl rfl (pa_cons (pe_callTy call_tuple_of (by rfl) B.tuple (by decide +kernel) (pa_cons (pe_lc (own := [("_law_lot_here", 12)]) (g := gName 12) rfl sc__law_log.nd (pi_list (pv 2)) (blkOk_by (own := [("_law_lot_here", 12)]) (N := ["_law_deck_here", "_law_letters", "_law_found", "_law_number_here", "_law_left", "_law_lays", "_law_k", "_law_earlier", "_law_weft", "_law_j", "_law_it", "_law_many", "_law_lot_here"]) (sc := defScope s__law_log) (by decide +kernel)) (fun _ _ _ _ _ => pg_name (i := 12) sc__law_log.nd rfl (Or.inl rfl)) (fun _ _ _ _ _ => pts_one (pt_cmpR op_eq (pe_call GD (hr.mono (by decide)) (by rfl) gD FD.kp bD .nil pass0 (pa_cons (pv 0) (pa_cons pe_int pa_nil))) pe_int (nomark _))) (fun _ _ _ _ _ => (pe_ix (ix_tupK (K := K) rfl) (pv 12) pe_int (fun _ _ => rfl)))) pa_nil)) (pa_cons (pe_tup pa_nil) pa_nil)) (by rfl))
        (pss_cons (ps_for PassesOwn.never rfl (pi_range1 (by rfl) B.range (pa_cons (pe_callB (call_min2 rfl) (by rfl) bM (by decide +kernel) (pa_cons (pv 4) (pa_cons (pe_call GD (hr.mono (by decide)) (by rfl) gD FD.kp bD .nil pass0 (pa_cons (pv 0) (pa_cons pe_int pa_nil))) pa_nil))) pa_nil)) (pg_name (i := 9) sc__law_log.nd rfl (Or.inl rfl))
          (pss_cons (ps_set (i := 10) sc__law_log.nd rfl (Or.inl rfl) (pe_call GP (hr.mono (by decide)) (by rfl) gP FP.kp bP .nil pass0 (pa_cons (pv 0) (pa_cons (pe_call GI (hr.mono (by decide)) (by rfl) gI FI.kp bI .nil pass0 (pa_cons (pv 1) pa_nil)) pa_nil))))
          (pss_cons (ps_set (i := 10) sc__law_log.nd rfl (Or.inl rfl) (PE_imp (t' := tIt) (pe_ifExp (pt_cmpR op_eq (pv 5) pe_int (nomark _)) pe_str (pv 10)) (fun σ H Q h => by
            obtain ⟨lays, sg, u, h5, h10, hu, q⟩ := h
            refine ⟨_, h5, rfl, _, rfl, ite2 (fun _ => ?_) (fun _ => ?_)⟩
            · exact q [63, 45] (List.mem_append_left _ (List.mem_append_left _ (List.mem_singleton.mpr rfl)))
            · exact ⟨_, h10, q u hu⟩)))
          (pss_one (ps_par (i := 8) (j := 5) rfl sc__law_log.nd rfl rfl (by decide) rfl rfl (pa_cons (pe_op op_catN (pv 8) (pe_tup (pa_cons (pv 10) pa_nil))) (pa_cons (pe_op op_sub (pv 5) (pe_callTy call_int1 (by rfl) B.int (by decide +kernel) (pa_cons (pe_cmpR op_ne (pe_ix ix_str (pv 10) pe_int (fun _ _ => rfl)) pe_str (nomark _)) pa_nil))) pa_nil)) (by rfl))))))
        (pss_cons (ps_set (i := 11) sc__law_log.nd rfl (Or.inl rfl) (pe_callB call_len_seq (by rfl) B.len (by decide +kernel) (pa_cons (pe_lc (own := [("_law_lot_here", 12)]) (g := gName 12) rfl sc__law_log.nd (pi_list (pv 2)) (blkOk_by (own := [("_law_lot_here", 12)]) (N := ["_law_deck_here", "_law_letters", "_law_found", "_law_number_here", "_law_left", "_law_lays", "_law_k", "_law_earlier", "_law_weft", "_law_j", "_law_it", "_law_many", "_law_lot_here"]) (sc := defScope s__law_log) (by decide +kernel)) (fun _ _ _ _ _ => pg_name (i := 12) sc__law_log.nd rfl (Or.inl rfl)) (fun _ _ _ _ _ => pts_one (pt_not (pt_val (pe_ix (ix_tupK (K := K) rfl) (pv 12) pe_int (fun _ _ => rfl))))) (fun _ _ _ _ _ => (pv 12))) pa_nil)))
        (pss_cons (ps_expr (pe_bm PySem.F.plainAttrs_list PySem.F.slot_list_append PySem.F.type_list_append mt_append (pv 2) (pa_cons (pe_tup (pa_cons (pv 3) (pa_cons (PE_imp (t' := tDone) (pe_or (pe_cmpR op_eq (pe_call GD (hr.mono (by decide)) (by rfl) gD FD.kp bD .nil pass0 (pa_cons (pv 0) (pa_cons pe_int pa_nil))) pe_int (nomark _)) (pe_one (pe_cmpR op_gt (pv 11) pe_int (nomark _)))) (fun σ H Q h => by
            obtain ⟨D, C, T, many, h0, h11, dk, hT, q⟩ := h
            refine ⟨_, h0, D, C, T, 2, rfl, dk, by omega, by decide, by decide, fun H' r hr dk' off' => ⟨rfl, _, rfl, ite2 (fun hy => ?_) (fun _ => ?_)⟩⟩
            · exact q _ _ dk' off'
            · exact ⟨_, h11, _, _, rfl, rfl, q _ _ dk' off'⟩)) (pa_cons (pv 7) (pa_cons (pv 8) pa_nil))))) pa_nil)))
        (pss_one (ps_par (i := 3) (j := 4) rfl sc__law_log.nd rfl rfl (by decide) rfl rfl (pa_cons (pe_op op_add (pe_op op_add (pv 3) pe_int) (pe_call GP (hr.mono (by decide)) (by rfl) gP FP.kp bP .nil pass0 (pa_cons (pv 0) (pa_cons (Mq.pe_ls (pa_cons pe_int (pa_cons pe_int (pa_cons pe_int (pa_cons pe_int (pa_cons pe_int (pa_cons (pe_op op_pow pe_int pe_int) pa_nil))))))) pa_nil)))) (pa_cons (pe_op op_sub (pv 4) (pe_callB call_len_seq (by rfl) B.len (by decide +kernel) (pa_cons (pv 8) pa_nil))) pa_nil)) (by rfl))))))))
      (pss_one (ps_ret (pe_callTy call_tuple_of (by rfl) B.tuple (by decide +kernel) (pa_cons (pv 2) pa_nil)))))), ?_⟩
    refine ⟨sz_le (n := 0) (by decide), fun L hL _ => ?_⟩
    obtain ⟨nD, nC⟩ := new_ne hdk hL
    have s1 := same_new (o := HO.lst []) hL
    have z1 : upd H L (.lst []) L = some (.lst []) := upd_same
    have dk1 := hdk.same s1
    have off1 : Off D C H (upd H L (.lst [])) := Off.same s1
    generalize upd H L (.lst []) = H1 at s1 z1 dk1 off1 ⊢
    refine ⟨_, rfl, D, C, T, 3, rfl, dk1, by omega, by decide, by decide, fun H2 n0 hn0 dk2 off2 => ?_⟩
    have z2 := off2 L _ nD nC z1
    refine ⟨_, rfl, _, _, rfl, len_S (by omega), _, _, rfl, rfl, Or.inr ⟨_, rfl, _, _, rfl, rfl, sz_le (n := 4) (by decide), fun p4 hp4 => ?_⟩⟩
    have s3 := same_new (o := HO.tup [V.ref L, V.int ((n0 : Nat) : Int), V.int 8, V.int (5 - (if decide ((2 : Int) < ((sg.length : Nat) : Int)) = true then 1 else 0))]) hp4
    refine ⟨p4, _, rfl, Or.inl (Or.inl upd_same), rfl, _, _, rfl, _, _, rfl, _, _, rfl, _, _, rfl, rfl, ?_⟩
    have z3 := s3 _ _ z2
    have dk3 := dk2.same s3
    have off3 := (off1.trans off2).trans (Off.same s3)
    generalize upd H2 p4 _ = H3 at z3 dk3 off3 ⊢
    refine ⟨_, rfl, D, C, T + 1, 5, rfl, dk3, by omega, by decide, by decide, fun H4 m hm dk4 off4 => ⟨_, rfl, by omega, by omega, ?_⟩⟩
    have z4 := off4 L _ nD nC z3
    refine for_it (walk_rng (n := m)) (fun i σ H' => DeckAt D C (T + 2 + 20 * i) H' ∧ Off D C H H' ∧ ∃ (vs : List V) (acc : List Lot) (n left : Nat) (lays : Int) (o6 o7 o8 o9 o10 o11 o12 : Option V), H' L = some (.lst vs) ∧ LotAll K H' vs acc ∧ acc.length = i ∧ Dr sg acc ∧ (∀ k ∈ nsOf acc, k < n) ∧ n ≤ 3 + i * BigN ∧ left ≤ 8 ∧
      σ = [some (.ref D), some (.str (S sg)), some (.ref L), some (.int ((n : Nat) : Int)), some (.int ((left : Nat) : Int)), some (.int lays), o6, o7, o8, o9, o10, o11, o12])
      ⟨dk4, off3.trans off4, [], [], n0, 8, _, _, _, _, _, _, _, _, z4, .nil, rfl, .nil, (fun _ h => by cases h), by omega, Nat.le_refl 8, rfl⟩ (fun _ _ _ _ _ => trivial) ?_ ?_
    · rintro i x σ H5 H5' hi ⟨dk5, off5, vs, acc, n, left, lays, o6, o7, o8, o9, o10, o11, o12, hv, ha, hlen, hdr, hlt, hn, hleft, rfl⟩ ⟨rfl, rfl⟩
      have hvl : vs.length = acc.length := ha.len
      refine ⟨_, rfl, L, rfl, ⟨_, SqL.of hv⟩, fun Lc hLc => ?_⟩
      obtain ⟨cD, cC⟩ := new_ne dk5 hLc
      refine lc_it (walk_list (a := L) (xs := vs)) (fun j H' => DeckAt D C (T + 2 + 20 * i + j) H' ∧ Off D C H5' H' ∧ ∃ es : List Nat, es.Sublist (nsOf (acc.take j)) ∧ H' Lc = some (.lst (intsV es))) ⟨dk5.same (same_new hLc), Off.same (same_new hLc), [], .slnil, upd_same⟩ (fun _ _ _ pp => SqL.of (pp.2.1 L _ nD nC hv)) ?_ ?_
      · rintro j y H6 H6' hj ⟨dk6, off6, es, hsub, zL⟩ ⟨rfl, hy⟩
        obtain ⟨Lt, hLt, pp, pe, pw, rfl, hpp, _⟩ := ha.at hy
        have etk : nsOf (acc.take (j + 1)) = nsOf (acc.take j) ++ [Lt.n] := by unfold nsOf; rw [List.take_add_one, hLt, List.map_append]; rfl
        refine ⟨rfl, _, rfl, D, C, T + 2 + 20 * i + j, 2, rfl, dk6, by omega, by decide, by decide, fun H7 r hr dk7 off7 => ⟨rfl, _, rfl, ite2 (fun _ => ?_) (fun _ => ?_)⟩⟩
        · have off57 := off6.trans off7
          have zL7 := off7 Lc _ cD cC zL
          have hel := hsub.length_le
          have htk := List.length_take_le j acc
          refine ⟨_, rfl, pp, _, 0, _, rfl, rfl, off57.tup dk5 hpp, atI_nat (j := 0) rfl, _, zL7, sz_lt (by rw [List.length_map]; unfold nsOf at hel; rw [List.length_map] at hel; omega), deck_lst dk7 cD cC, off_lst off57 hLc, es ++ [Lt.n], ?_, ?_⟩
          · rw [etk]
            exact hsub.append (List.Sublist.refl _)
          · rw [upd_same]
            unfold intsV
            rw [List.map_append]
            rfl
        · refine ⟨dk7, off6.trans off7, es, ?_, off7 Lc _ cD cC zL⟩
          rw [etk]
          exact hsub.trans (List.sublist_append_left _ _)
      · rintro H6 ⟨dk6, off6, es, hsub, zL⟩
        rw [List.take_of_length_le (by omega)] at hsub
        refine ⟨Lc, _, rfl, Or.inl ⟨SqL.of zL, fun te hte => ?_⟩⟩
        have s7 := same_new (o := HO.tup (intsV es)) hte
        have zte : SqT K (upd H6 te (.tup (intsV es))) te (intsV es) := Or.inl (Or.inl upd_same)
        have dk7 := dk6.same s7
        have off7 := off6.trans (Off.same s7)
        generalize upd H6 te (.tup (intsV es)) = H7 at zte dk7 off7 ⊢
        refine ⟨sz_le (n := 0) (by decide), fun pw0 hpw0 => ⟨_, _, rfl, ?_⟩⟩
        have s8 := same_new (o := HO.tup []) hpw0
        have zte := Same.tup s8 zte
        have zpw : SqT K (upd H7 pw0 (.tup [])) pw0 (txs []) := Or.inl (Or.inl upd_same)
        have dk8 := dk7.same s8
        have off8 := off7.trans (Off.same s8)
        generalize upd H7 pw0 (.tup []) = H8 at zte zpw dk8 off8 ⊢
        have dk8 := dk8.mono (T' := T + 2 + 20 * i + 4) (by omega)
        refine ⟨_, rfl, _, rfl, D, C, T + 2 + 20 * i + 4, 4, rfl, dk8, by omega, by decide, by decide, fun H9 r hr dk9 off9 => ⟨_, _, rfl, ?_⟩⟩
        rw [show (if ((r : Nat) : Int) < ((left : Nat) : Int) then ((r : Nat) : Int) else ((left : Nat) : Int)) = ((min r left : Nat) : Int) by split <;> omega]
        refine ⟨_, rfl, by omega, by omega, ?_⟩
        have zte := off9.tup dk8 zte
        have zpw := off9.tup dk8 zpw
        have off59 := off8.trans off9
        have hesl : es.Sublist (nsOf acc) := hsub
        refine for_it (walk_rng (n := min r left)) (fun j σ H' => DeckAt D C (T + 2 + 20 * i + 5 + j) H' ∧ Off D C H9 H' ∧ ∃ (pw : Addr) (ws : List (List Nat)) (lays : Int) (o9 o10 : Option V), SqT K H' pw (txs ws) ∧ ws.length = j ∧ (∀ u ∈ ws, itemB sg u = true) ∧
          σ = [some (.ref D), some (.str (S sg)), some (.ref L), some (.int ((n : Nat) : Int)), some (.int ((left : Nat) : Int)), some (.int lays), some (.int ((i : Nat) : Int)), some (.ref te), some (.ref pw), o9, o10, o11, o12])
          ⟨dk9, Off.refl D C H9, pw0, [], lays, _, _, zpw, rfl, (fun _ h => by cases h), rfl⟩ (fun _ _ _ _ _ => trivial) ?_ ?_
        · rintro j x σ G0 G0' hj ⟨dg0, og0, pw, ws, lays, o9, o10, hpw, hwl, hwi, rfl⟩ ⟨rfl, rfl⟩
          refine ⟨_, rfl, _, rfl, sg, rfl, by omega, fun G1 p1 t1 hp1 y1 => ?_⟩
          obtain ⟨_, pC⟩ := new_ne dg0 hp1
          refine ⟨D, C, T + 2 + 20 * i + 5 + j, .ref p1, rfl, dg0.same t1, by omega, Or.inr ⟨p1, _, rfl, y1, pC, ?_, ?_, fun G2 v hv2 dg2 og2 => ?_⟩⟩
          · unfold itemsL
            rw [List.length_map, List.length_append, List.length_append]
            show 0 < 1 + _ + _
            omega
          · unfold itemsL
            rw [List.length_map, List.length_append, List.length_append, List.length_map, List.length_map]
            show 1 + _ + _ ≤ 1000
            omega
          obtain ⟨u0, hu0, rfl⟩ := List.mem_map.mp hv2
          refine ⟨lays, sg, u0, rfl, rfl, hu0, fun u hu => ?_⟩
          have og02 := (Off.same (D := D) (C := C) t1).trans og2
          have hpw2 := og02.tup dg0 hpw
          refine ⟨_, rfl, _, rfl, sz_le (n := 1) (by decide), fun p3 hp3 => ?_⟩
          have t3 := same_new (o := HO.tup [V.str (S u)]) hp3
          refine ⟨pw, p3, txs ws, txs [u], rfl, rfl, Same.tup t3 hpw2, Or.inl (Or.inl upd_same), ?_, fun p5 G5 t5 h5 => ?_⟩
          · rw [List.length_map]
            exact sz_le (show ws.length + 1 ≤ 1000000 by omega)
          rw [show txs ws ++ txs [u] = txs (ws ++ [u]) from List.map_append.symm] at h5
          refine ⟨_, rfl, _, rfl, S u, 0, u.getD 0 0, rfl, rfl, sz_le (by have := item_two (sg := sg) (w := u) (by rw [← items_mem]; exact decide_eq_true hu); rw [SX.S_len]; omega), at_get (l := u) (k := 0) (items_pos hu), rfl, Or.inr ⟨_, rfl, _, _, rfl, rfl, _, _, rfl, ?_⟩⟩
          have tt := t3.trans t5
          refine ⟨(dg2.same tt).mono (by omega), (og0.trans og02).trans (Off.same tt), p5, ws ++ [u], _, _, _, h5, by rw [List.length_append, hwl]; rfl, fun x hx => ?_, rfl⟩
          rcases List.mem_append.mp hx with hx | hx
          · exact hwi x hx
          · rw [List.mem_singleton.mp hx, ← items_mem]
            exact decide_eq_true hu
        · rintro σ G0 ⟨dg0, og0, pw, ws, lays, o9, o10, hpw, hwl, hwi, rfl⟩
          have off5g := off59.trans og0
          have hvg := off5g L _ nD nC hv
          have hag := ha.kp (KpT.off off5g dk5)
          have zteg := og0.tup dk9 zte
          refine ⟨_, rfl, L, rfl, ⟨_, SqL.of hvg⟩, fun Lm hLm => ?_⟩
          refine lc_it (walk_list (a := L) (xs := vs)) (fun j H' => Same G0 H' ∧ ∃ zs, zs.length ≤ j ∧ H' Lm = some (.lst zs)) ⟨same_new hLm, [], Nat.le_refl 0, upd_same⟩ (fun _ _ _ pp => SqL.of (pp.1 _ _ hvg)) ?_ ?_
          · rintro j y G1 G1' hj ⟨t1, zs, hzs, zL⟩ ⟨rfl, hy⟩
            obtain ⟨Lt, hLt, pp, pe, pw', rfl, hpp, _⟩ := hag.at hy
            refine ⟨rfl, _, rfl, pp, _, 1, _, rfl, rfl, Same.tup t1 hpp, atI_nat (j := 1) rfl, Lt.d, rfl, ?_⟩
            cases Lt.d with
            | true => exact ⟨t1, zs, by omega, zL⟩
            | false => exact ⟨_, rfl, _, zL, sz_lt (by omega), push_same hLm t1, zs ++ [.ref pp], by rw [List.length_append]; show _ + 1 ≤ _; omega, upd_same⟩
          · rintro G1 ⟨t1, zs, hzs, zL⟩
            refine ⟨Lm, _, rfl, .inl (SqL.of zL), ?_⟩
            have hvg1 := t1 _ _ hvg
            have hag1 := hag.kp (KpT.same t1)
            have zteg1 := Same.tup t1 zteg
            have hpw1 := Same.tup t1 hpw
            have dg1 := dg0.same t1
            have off51 := off5g.trans (Off.same t1)
            refine ⟨_, rfl, Or.inl ⟨rfl, _, SqL.of hvg1⟩, _, rfl, D, C, T + 2 + 20 * i + 5 + min r left, _, rfl, rfl, dg1, by omega, fun G2 d dg2 og2 => ?_⟩
            have off52 := off51.trans og2
            refine ⟨_, rfl, _, rfl, sz_le (n := 4) (by decide), fun pt hpt => ?_⟩
            have t3 := same_new (o := HO.tup [V.int ((n : Nat) : Int), V.bl d, V.ref te, V.ref pw]) hpt
            have off53 := off52.trans (Off.same t3)
            refine ⟨L, _, _, rfl, rfl, off53 L _ nD nC hv, sz_lt (by omega), ?_⟩
            have hv53 := off53 L _ nD nC hv
            have zt : SqT K (upd G2 pt (.tup [V.int ((n : Nat) : Int), V.bl d, V.ref te, V.ref pw])) pt [V.int ((n : Nat) : Int), V.bl d, V.ref te, V.ref pw] := Or.inl (Or.inl upd_same)
            have zte3 := Same.tup t3 (og2.tup dg1 zteg1)
            have zpw3 := Same.tup t3 (og2.tup dg1 hpw1)
            have hall3 := (ha.kp (KpT.off off53 dk5)).snoc (f := ⟨n, d, es, ws⟩) ⟨pt, te, pw, rfl, zt, zte3, zpw3⟩
            have dg3 := deck_lst (o := HO.lst (vs ++ [.ref pt])) (dg2.same t3) nD nC
            have off3' : Off D C H (upd (upd G2 pt (.tup [V.int ((n : Nat) : Int), V.bl d, V.ref te, V.ref pw])) L (.lst (vs ++ [.ref pt]))) := off_lst (off5.trans off53) hL
            have hall4 := hall3.kp (KpT.lst (ys := vs ++ [.ref pt]) hv53)
            have zpw4 := KpT.lst (K := K) (ys := vs ++ [.ref pt]) hv53 _ _ zpw3
            have hv4 : upd (upd G2 pt (.tup [V.int ((n : Nat) : Int), V.bl d, V.ref te, V.ref pw])) L (.lst (vs ++ [.ref pt])) L = some (.lst (vs ++ [.ref pt])) := upd_same
            generalize upd (upd G2 pt (.tup [V.int ((n : Nat) : Int), V.bl d, V.ref te, V.ref pw])) L (.lst (vs ++ [.ref pt])) = G4 at dg3 off3' hall4 zpw4 hv4 ⊢
            refine ⟨_, rfl, _, _, rfl, rfl, _, rfl, _, _, rfl, rfl, ⟨by decide, by decide, by decide⟩, sz_le (n := 6) (by decide), fun pl hpl _ => ?_⟩
            have t5 := same_new (o := HO.lst [V.int 0, V.int 0, V.int 0, V.int 1, V.int 9, V.int (10 ^ (30 : Int).toNat)]) hpl
            obtain ⟨_, plC⟩ := new_ne dg3 hpl
            refine ⟨D, C, T + 2 + 20 * i + 5 + min r left + 1, .ref pl, rfl, dg3.same t5, by omega, Or.inr ⟨pl, _, rfl, upd_same, plC, by decide, by decide, fun G5 v hv5 dg5 og5 => ?_⟩⟩
            have hk : ∃ k : Nat, k ≤ 10 ^ 30 ∧ v = .int ((k : Nat) : Int) := by
              simp only [List.mem_cons, List.not_mem_nil, or_false] at hv5
              rcases hv5 with rfl | rfl | rfl | rfl | rfl | rfl
              · exact ⟨0, Nat.zero_le _, rfl⟩
              · exact ⟨0, Nat.zero_le _, rfl⟩
              · exact ⟨0, Nat.zero_le _, rfl⟩
              · exact ⟨1, by decide, rfl⟩
              · exact ⟨9, by decide, rfl⟩
              · exact ⟨10 ^ 30, Nat.le_refl _, congrArg V.int (by decide +kernel)⟩
            obtain ⟨k, hk, rfl⟩ := hk
            have og45 := (Off.same (D := D) (C := C) t5).trans og5
            have zpw5 := og45.tup dg3 zpw4
            refine ⟨_, _, rfl, rfl, _, rfl, _, rfl, pw, _, rfl, .inr zpw5, _, _, rfl, rfl, _, _, rfl, ?_⟩
            dsimp only
            rw [show ((n : Nat) : Int) + 1 + ((k : Nat) : Int) = ((n + 1 + k : Nat) : Int) by omega, show ((left : Nat) : Int) - (((txs ws).length : Nat) : Int) = ((left - ws.length : Nat) : Int) by rw [List.length_map]; omega]
            refine ⟨dg5.mono (by omega), off3'.trans og45, vs ++ [.ref pt], acc ++ [⟨n, d, es, ws⟩], n + 1 + k, left - ws.length, _, _, _, _, _, _, _, _, og45 L _ nD nC hv4, hall4.kp (KpT.off og45 dg3), by rw [List.length_append, hlen]; rfl, .snoc hdr hlt hesl hwi ?_ ?_, fun x hx => ?_, ?_, by omega, rfl⟩
            · show ws.length ≤ 3
              omega
            · show n ≤ 3 + acc.length * BigN
              rw [hlen]
              exact hn
            · have hx : x ∈ nsOf (acc ++ [⟨n, d, es, ws⟩]) := hx
              unfold nsOf at hx
              rw [List.map_append] at hx
              rcases List.mem_append.mp hx with hx | hx
              · have := hlt x hx
                omega
              · rw [List.mem_singleton.mp hx]
                show n < _
                omega
            · have e : (i + 1) * BigN = i * BigN + BigN := Nat.succ_mul i BigN
              have e2 : BigN = 10 ^ 30 + 1 := rfl
              rw [e]
              omega
    · rintro σ H5 ⟨dk5, off5, vs, acc, n, left, lays, o6, o7, o8, o9, o10, o11, o12, hv, ha, hlen, hdr, hlt, hn, hleft, rfl⟩
      refine ⟨_, rfl, L, vs, rfl, Or.inl ⟨SqL.of hv, fun fa hfa => ?_⟩⟩
      have s6 := same_new (o := HO.tup vs) hfa
      exact q _ fa vs acc hdr (by omega) (Or.inl (Or.inl upd_same)) (ha.kp (KpT.same s6)) ((dk5.same s6).mono (by omega)) (off5.trans (Off.same s6))
end
end Lw

namespace Lw
open PySem PySem.Spec PyProof.Rows L2 Mq
open SX (S)
open TL (numL)
/-! ### the text of a drawn log, read again -/
structure Sg (sg : List Nat) : Prop where
  low : LowL sg
  few : sg.length ≤ 100
  c10 : 10 ∉ sg
  c32 : 32 ∉ sg
  c44 : 44 ∉ sg
  c45 : 45 ∉ sg
theorem numL_zero : ∀ (k n : Nat), n ≤ k → (numL n).getD 0 0 = 48 → n = 0
  | 0, n, h, _ => by omega
  | k + 1, n, h, e => by
    by_cases h1 : n < 10
    · rw [TL.numL_lt h1] at e
      have e : 48 + n = 48 := e
      omega
    · rw [TL.numL_step (by omega)] at e
      have hne := TL.numL_ne (n / 10)
      have e2 : (numL (n / 10)).getD 0 0 = 48 := by
        cases h2 : numL (n / 10) with
        | nil => exact (hne h2).elim
        | cons a b =>
          rw [h2] at e
          exact e
      have := numL_zero k (n / 10) (by omega) e2
      omega
theorem digB_all {w : List Nat} (h : ∀ c ∈ w, 48 ≤ c ∧ c ≤ 57) : digB w = true := by
  unfold digB
  rw [← all_filter, List.all_map, List.all_eq_true]
  intro k hk
  have hk := List.mem_range.mp hk
  show inB (w.getD k 0) digs = true
  rw [in_digs]
  have := h _ (getD_mem hk)
  rw [Bool.and_eq_true, decide_eq_true_eq, decide_eq_true_eq]
  exact this
theorem numL_dig {n c : Nat} (h : c ∈ numL n) : 48 ≤ c ∧ c ≤ 57 := by
  by_cases e : c < 48 ∨ 57 < c
  · exact (TL.numL_free e h).elim
  · omega
theorem num_back (n : Nat) : numM (numL n) = some n := by
  have hb : numB (numL n) = true := by
    unfold numB
    rw [decide_eq_false (TL.numL_ne n), digB_all fun c hc => numL_dig hc]
    by_cases e : (numL n).getD 0 0 = 48
    · have := numL_zero n n (Nat.le_refl n) e
      subst this
      decide +kernel
    · rw [decide_eq_false e]
      rfl
  unfold numM
  rw [if_pos hb, TL.numL_val]
theorem join_flat (sep : List Nat) (us : List (List Nat)) (h : us ≠ []) : ∀ ws : List (List Nat), TL.joinL sep (ws ++ [TL.joinL sep us]) = TL.joinL sep (ws ++ us)
  | [] => rfl
  | [x] => by
    cases us with
    | nil => exact (h rfl).elim
    | cons u us => rfl
  | x :: y :: r => by
    have ih := join_flat sep us h (y :: r)
    show TL.joinL sep (x :: y :: (r ++ [TL.joinL sep us])) = TL.joinL sep (x :: y :: (r ++ us))
    rw [joinL_two, joinL_two]
    have e : TL.joinL sep (y :: (r ++ [TL.joinL sep us])) = TL.joinL sep (y :: (r ++ us)) := ih
    rw [e]
def weftL (w : List (List Nat)) : List (List Nat) := if w = [] then [[45]] else w
def wordsF (L : Lot) : List (List Nat) := [lotL, numL L.n, stateL L.d, orDash (TL.joinL [44] (L.e.map numL))] ++ weftL L.w
theorem join_nil {w : List (List Nat)} (h : ∀ u ∈ w, 0 < u.length) (hw : w ≠ []) : TL.joinL [32] w ≠ [] := by
  cases w with
  | nil => exact (hw rfl).elim
  | cons u r =>
    have := h u List.mem_cons_self
    cases r with
    | nil =>
      intro e
      have e : u = [] := e
      rw [e] at this
      cases this
    | cons v r =>
      rw [joinL_two]
      intro e
      have := congrArg List.length e
      rw [List.length_append, List.length_append] at this
      simp at this
theorem lineF {L : Lot} (h : ∀ u ∈ L.w, 0 < u.length) : lineL L = TL.joinL [32] (wordsF L) := by
  unfold lineL wordsL wordsF weftL
  by_cases e : L.w = []
  · rw [if_pos e, e]
    rfl
  · rw [if_neg e]
    have e2 : orDash (TL.joinL [32] L.w) = TL.joinL [32] L.w := if_neg (join_nil h e)
    rw [e2]
    exact join_flat [32] L.w e [lotL, numL L.n, stateL L.d, orDash (TL.joinL [44] (L.e.map numL))]
theorem item_no {sg u : List Nat} {c : Nat} (hs : c ∉ sg) (h1 : c ≠ 63) (h2 : c ≠ 45) (h : itemB sg u = true) : c ∉ u := by
  rw [← items_mem] at h
  have h := of_decide_eq_true h
  unfold itemsL at h
  rw [List.mem_append, List.mem_append, List.mem_singleton, List.mem_map, List.mem_map] at h
  rcases h with (rfl | ⟨d, hd, rfl⟩) | ⟨d, hd, rfl⟩
  · simp [h1, h2]
  · simp only [List.mem_cons, List.not_mem_nil, or_false, not_or]
    exact ⟨h1, fun e => hs (e ▸ hd)⟩
  · simp only [List.mem_cons, List.not_mem_nil, or_false]
    exact fun e => hs (e ▸ hd)
theorem item_dash {sg : List Nat} (hs : 45 ∉ sg) : itemB sg [45] = false := by
  rw [← items_mem]
  refine decide_eq_false fun h => ?_
  unfold itemsL at h
  rw [List.mem_append, List.mem_append, List.mem_singleton, List.mem_map, List.mem_map] at h
  rcases h with (h | ⟨d, hd, h⟩) | ⟨d, hd, h⟩
  · cases h
  · injection h with h1 h2
    cases h1
  · injection h with h1 h2
    exact hs (h1 ▸ hd)
theorem item_pos {sg u : List Nat} (h : itemB sg u = true) : 0 < u.length := by
  rw [← items_mem] at h
  exact items_pos (of_decide_eq_true h)
/-- what is known of a drawn lot -/
structure LotG (sg : List Nat) (L : Lot) : Prop where
  n : L.n < 10 ^ 31
  e : ∀ n ∈ L.e, n < 10 ^ 31
  el : L.e.length ≤ 4
  w : ∀ u ∈ L.w, itemB sg u = true
  wl : L.w.length ≤ 3
theorem word_free {sg : List Nat} {L : Lot} (hs : Sg sg) (h : LotG sg L) {c : Nat} (hc : c = 10 ∨ c = 32) : ∀ w ∈ wordsF L, c ∉ w := by
  have h1 : c ∉ sg := by rcases hc with rfl | rfl; exact hs.c10; exact hs.c32
  have h2 : c < 48 ∨ 57 < c := by omega
  intro w hw
  unfold wordsF at hw
  rcases List.mem_append.mp hw with hw | hw
  · simp only [List.mem_cons, List.not_mem_nil, or_false] at hw
    rcases hw with rfl | rfl | rfl | rfl
    · rcases hc with rfl | rfl <;> decide
    · exact TL.numL_free h2
    · cases L.d <;> rcases hc with rfl | rfl <;> decide
    · unfold orDash
      split
      · rcases hc with rfl | rfl <;> decide
      · intro hd
        rcases join_in 44 hd with hd | ⟨p, hp, hd⟩
        · omega
        · obtain ⟨n, hn, rfl⟩ := List.mem_map.mp hp
          exact TL.numL_free h2 hd
  · unfold weftL at hw
    split at hw
    · rw [List.mem_singleton.mp hw]
      rcases hc with rfl | rfl <;> decide
    · exact item_no h1 (by omega) (by omega) (h.w w hw)
theorem earl_back {known e : List Nat} (hk : ∀ n ∈ e, n ∈ known) (ha : e.Pairwise (· < ·)) : earlM (orDash (TL.joinL [44] (e.map numL))) known = some e := by
  rw [earl_uni]
  have e1 : earlN (orDash (TL.joinL [44] (e.map numL))) = e.map some := by
    unfold earlN orDash
    by_cases c : e = []
    · subst c
      rfl
    · have hne : TL.joinL [44] (e.map numL) ≠ [] := by
        cases e with
        | nil => exact (c rfl).elim
        | cons a r =>
          have := TL.numL_ne a
          cases r with
          | nil => exact this
          | cons b r =>
            show TL.joinL [44] (numL a :: numL b :: r.map numL) ≠ []
            rw [joinL_two]
            intro h
            have := congrArg List.length h
            rw [List.length_append, List.length_append] at this
            simp at this
      rw [if_neg hne]
      have hd : TL.joinL [44] (e.map numL) ≠ [45] := by
        intro h
        have h45 : 45 ∈ TL.joinL [44] (e.map numL) := by rw [h]; exact List.mem_singleton.mpr rfl
        rcases join_in 44 h45 with h | ⟨p, hp, h⟩
        · cases h
        · obtain ⟨n, hn, rfl⟩ := List.mem_map.mp hp
          exact TL.numL_free (Or.inl (by decide)) h
      rw [if_neg hd]
      unfold nums
      rw [spl_of (by decide) (fun h => c (List.map_eq_nil_iff.mp h)) fun p hp => by
        obtain ⟨n, hn, rfl⟩ := List.mem_map.mp hp
        exact TL.numL_free (Or.inl (by decide)), List.map_map]
      exact List.map_congr_left fun n _ => num_back n
  rw [e1]
  have e2 : vals (e.map some) = e := by
    unfold vals
    rw [List.map_map]
    exact List.map_id _
  rw [e2, asc_pair.mpr ha, Bool.and_true, if_pos]
  rw [List.all_map, List.all_eq_true]
  exact fun n hn => decide_eq_true (hk n hn)
theorem lot_back {sg known : List Nat} {L : Lot} (hs : Sg sg) (h : LotG sg L) (hn : ∀ m ∈ known, m < L.n) (hk : ∀ n ∈ L.e, n ∈ known) (ha : L.e.Pairwise (· < ·)) : lotM sg known (lineL L) = some L := by
  rw [lineF fun u hu => item_pos (h.w u hu)]
  have e1 := spl_of (c := 32) (by decide) (ps := wordsF L) (by unfold wordsF; simp) (word_free hs h (Or.inr rfl))
  have hw : ∃ u us, weftL L.w = u :: us := by
    unfold weftL
    split
    · exact ⟨_, _, rfl⟩
    · rename_i c
      cases e : L.w with
      | nil => exact (c e).elim
      | cons u us => exact ⟨u, us, rfl⟩
  obtain ⟨u, us, hu⟩ := hw
  have e2 : wordsF L = lotL :: numL L.n :: stateL L.d :: orDash (TL.joinL [44] (L.e.map numL)) :: u :: us := by
    unfold wordsF
    rw [hu]
    rfl
  rw [e2] at e1
  have e1' : spl 32 (TL.joinL [32] (wordsF L)) = lotL :: numL L.n :: stateL L.d :: orDash (TL.joinL [44] (L.e.map numL)) :: u :: us := by rw [e2]; exact e1
  rw [lot_five e1', num_back, earl_back hk ha]
  have e3 : (decide (stateL L.d = doneL) || decide (stateL L.d = openL)) = true := by cases L.d <;> decide
  have e4 : decide (stateL L.d = doneL) = L.d := by cases L.d <;> decide
  have e5 : weftM (u :: us) = L.w := by
    rw [← hu]
    unfold weftM weftL
    by_cases c : L.w = []
    · rw [if_pos c, if_pos rfl, c]
    · rw [if_neg c, if_neg fun e => ?_]
      have := h.w [45] (by rw [e]; exact List.mem_singleton.mpr rfl)
      rw [item_dash hs.c45] at this
      cases this
  have e6 : nextB known L.n = true := by
    unfold nextB
    split
    · rfl
    · rename_i m hm
      exact decide_eq_true (hn m (List.mem_of_getLast? hm))
  have e7 : L.w.all (itemB sg) = true := List.all_eq_true.mpr h.w
  rw [e3, e4, e5, e7]
  dsimp only
  rw [e6]
  rfl
theorem dr_asc {sg : List Nat} {Ls : List Lot} (h : Dr sg Ls) : (nsOf Ls).Pairwise (· < ·) := by
  induction h with
  | nil => exact List.Pairwise.nil
  | snoc h1 h2 h3 h4 h5 h6 ih =>
    unfold nsOf at ih h2 ⊢
    rw [List.map_append, List.pairwise_append]
    exact ⟨ih, List.pairwise_singleton _ _, fun a ha b hb => by rw [List.mem_singleton.mp hb]; exact h2 a ha⟩
theorem dr_all {sg : List Nat} {Ls : List Lot} (h : Dr sg Ls) : Ls.length ≤ 4 → ∀ L ∈ Ls, LotG sg L := by
  induction h with
  | nil => exact fun _ L hL => by cases hL
  | @snoc acc L h1 h2 h3 h4 h5 h6 ih =>
    intro hl M hM
    rw [List.length_append] at hl
    have hl : acc.length + 1 ≤ 4 := hl
    rcases List.mem_append.mp hM with hM | hM
    · exact ih (by omega) M hM
    · rw [List.mem_singleton.mp hM]
      have hn : L.n < 10 ^ 31 := by
        have h7 : acc.length * BigN ≤ 3 * BigN := Nat.mul_le_mul_right _ (by omega)
        have h8 : BigN = 10 ^ 30 + 1 := rfl
        omega
      refine ⟨hn, fun n hne => Nat.lt_trans (h2 n (h3.subset hne)) hn, ?_, h4, h5⟩
      have := h3.length_le
      unfold nsOf at this
      rw [List.length_map] at this
      omega
theorem body_back {sg : List Nat} (hs : Sg sg) {Ls : List Lot} (h : Dr sg Ls) : Ls.length ≤ 4 → ∀ ls, bodyM sg (Ls.map lineL ++ ls) [] = bodyM sg ls Ls := by
  induction h with
  | nil => exact fun _ ls => rfl
  | @snoc acc L h1 h2 h3 h4 h5 h6 ih =>
    intro hl ls
    have hl2 := hl
    rw [List.length_append] at hl
    have hl : acc.length + 1 ≤ 4 := hl
    have hg := dr_all (.snoc h1 h2 h3 h4 h5 h6) hl2 L (List.mem_append_right _ (List.mem_singleton.mpr rfl))
    rw [List.map_append, List.append_assoc]
    have e := ih (by omega) (lineL L :: ls)
    refine e.trans ?_
    have e2 := lot_back hs hg h2 (fun n hn => h3.subset hn) ((dr_asc h1).sublist h3)
    show (match lotM sg (acc.map fun L => L.n) (lineL L) with
      | none => (Sum.inr (acc.length + 2) : List Lot ⊕ Nat)
      | some L => bodyM sg ls (acc ++ [L])) = _
    rw [show lotM sg (acc.map fun L => L.n) (lineL L) = some L from e2]
end Lw

namespace Lw
open PySem PySem.Spec PyProof.Rows L2 Mq
open SX (S)
open TL (numL)
/-! ### the text of a drawn log: its bounds -/
theorem page_back {sg : List Nat} (hs : Sg sg) {Ls : List Lot} (h : Dr sg Ls) (hl : Ls.length ≤ 4) : pageM sg (pageT Ls) = .inl Ls := by
  have hg := dr_all h hl
  have e : spl 10 (pageT Ls) = logL :: Ls.map lineL := by
    unfold pageT
    refine spl_of (by decide) (by simp) fun p hp => ?_
    rcases List.mem_cons.mp hp with hp | hp
    · rw [hp]
      decide
    · obtain ⟨L, hL, rfl⟩ := List.mem_map.mp hp
      have g := hg L hL
      rw [lineF fun u hu => item_pos (g.w u hu)]
      intro h10
      rcases join_in 32 h10 with h10 | ⟨q, hq, h10⟩
      · cases h10
      · exact word_free hs g (Or.inl rfl) q hq h10
  unfold pageM
  rw [e]
  dsimp only
  rw [if_pos rfl]
  have := body_back hs h hl []
  rw [List.append_nil] at this
  exact this
theorem num31 {n : Nat} (h : n < 10 ^ 31) : (numL n).length ≤ 31 := TL.numL_len (by decide) h
theorem wok_free {w : List Nat} (h : 44 ∉ w) (hl : w.length ≤ 50) : WOk w := by
  have e := spl_none (c := 44) (by decide) h
  refine ⟨fun p hp => ?_, by rw [e]; show 1 ≤ 10; decide⟩
  rw [e] at hp
  rw [List.mem_singleton.mp hp]
  exact hl
theorem earl31 {es : List Nat} (h : ∀ n ∈ es, n < 10 ^ 31) (hl : es.length ≤ 4) : sumL (es.map numL) ≤ 128 := by
  have : ∀ es : List Nat, (∀ n ∈ es, n < 10 ^ 31) → sumL (es.map numL) ≤ es.length * 32 := by
    intro es
    induction es with
    | nil => exact fun _ => Nat.zero_le _
    | cons n es ih =>
      intro hn
      have h1 := ih fun m hm => hn m (List.mem_cons_of_mem _ hm)
      have h2 := num31 (hn n List.mem_cons_self)
      show ((numL n).length + 1) + sumL (es.map numL) ≤ (es.length + 1) * 32
      omega
  have h1 := this es h
  omega
theorem weft_sum {sg : List Nat} {ws : List (List Nat)} (h : ∀ u ∈ ws, itemB sg u = true) (hl : ws.length ≤ 3) : sumL ws ≤ 9 := by
  have : ∀ ws : List (List Nat), (∀ u ∈ ws, itemB sg u = true) → sumL ws ≤ ws.length * 3 := by
    intro ws
    induction ws with
    | nil => exact fun _ => Nat.zero_le _
    | cons u ws ih =>
      intro hn
      have h1 := ih fun m hm => hn m (List.mem_cons_of_mem _ hm)
      have h2 := item_two (hn u List.mem_cons_self)
      show (u.length + 1) + sumL ws ≤ (ws.length + 1) * 3
      omega
  have h1 := this ws h
  omega
theorem lotG_ok {sg : List Nat} {L : Lot} (h : LotG sg L) : LotOk L :=
  ⟨Nat.lt_trans h.n (by decide), fun n hn => Nat.lt_trans (h.e n hn) (by decide), by have := h.el; omega, by have := weft_sum h.w h.wl; omega⟩
theorem lotG_W {sg : List Nat} (hs : Sg sg) {L : Lot} (h : LotG sg L) : LotW L :=
  ⟨Nat.lt_trans h.n (by decide), fun n hn => Nat.lt_trans (h.e n hn) (by decide), by have := h.el; omega, by have := h.wl; omega, fun u hu => ⟨item_two (h.w u hu), item_low hs.low (h.w u hu)⟩⟩
theorem dig_low {n : Nat} : LowL (numL n) := fun c hc => by have := numL_dig hc; omega
theorem line_ok {sg : List Nat} (hs : Sg sg) {L : Lot} (h : LotG sg L) : LnOk 7 (lineL L) ∧ (lineL L).length ≤ 200 := by
  have he := earl31 h.e h.el
  have hj := joinL_le 44 (L.e.map numL)
  have hw := weft_sum h.w h.wl
  constructor
  · rw [lineF fun u hu => item_pos (h.w u hu)]
    refine ln_join (by unfold wordsF; simp) ?_ fun w hw => ⟨?_, word_free hs h (Or.inl rfl) w hw, word_free hs h (Or.inr rfl) w hw, ?_⟩
    · unfold wordsF weftL
      rw [List.length_append]
      split
      · show 4 + 1 ≤ 7
        decide
      · have := h.wl
        show 4 + _ ≤ 7
        omega
    · unfold wordsF at hw
      rcases List.mem_append.mp hw with hw | hw
      · simp only [List.mem_cons, List.not_mem_nil, or_false] at hw
        rcases hw with rfl | rfl | rfl | rfl
        · intro c hc
          have : ∀ c ∈ lotL, c < 128 := by decide
          exact this c hc
        · exact dig_low
        · cases L.d
          · have : ∀ c ∈ openL, c < 128 := by decide
            exact this
          · have : ∀ c ∈ doneL, c < 128 := by decide
            exact this
        · unfold orDash
          split
          · intro c hc
            rw [List.mem_singleton.mp hc]
            decide
          · refine joinL_low (by decide) fun p hp => ?_
            obtain ⟨n, hn, rfl⟩ := List.mem_map.mp hp
            exact dig_low
      · unfold weftL at hw
        split at hw
        · rw [List.mem_singleton.mp hw]
          intro c hc
          rw [List.mem_singleton.mp hc]
          decide
        · exact item_low hs.low (h.w w hw)
    · unfold wordsF at hw
      rcases List.mem_append.mp hw with hw | hw
      · simp only [List.mem_cons, List.not_mem_nil, or_false] at hw
        rcases hw with rfl | rfl | rfl | rfl
        · exact wok_free (by decide) (by decide)
        · exact wok_free (TL.numL_free (Or.inl (by decide))) (Nat.le_trans (num31 h.n) (by decide))
        · cases L.d
          · exact wok_free (w := openL) (by decide) (by decide)
          · exact wok_free (w := doneL) (by decide) (by decide)
        · unfold orDash
          split
          · exact wok_free (by decide) (by decide)
          · rename_i c
            have hne : L.e.map numL ≠ [] := fun e => c (by rw [e]; rfl)
            have e := spl_of (c := 44) (by decide) hne fun p hp => by
              obtain ⟨n, hn, rfl⟩ := List.mem_map.mp hp
              exact TL.numL_free (Or.inl (by decide))
            refine ⟨fun p hp => ?_, ?_⟩
            · rw [e] at hp
              obtain ⟨n, hn, rfl⟩ := List.mem_map.mp hp
              exact Nat.le_trans (num31 (h.e n hn)) (by decide)
            · rw [e, List.length_map]
              have := h.el
              omega
      · unfold weftL at hw
        split at hw
        · rw [List.mem_singleton.mp hw]
          exact wok_free (by decide) (by decide)
        · exact wok_free (item_no hs.c44 (by decide) (by decide) (h.w w hw)) (Nat.le_trans (item_two (h.w w hw)) (by decide))
  · rw [lineL_eq]
    have h1 := num31 h.n
    have h2 := state_len L.d
    have h3 := orDash_le (Nat.le_trans hj he) (by decide)
    have h4 := orDash_le (Nat.le_trans (joinL_le 32 L.w) hw) (by decide)
    simp only [List.length_append, List.length_singleton]
    show 3 + 1 + _ + 1 + _ + 1 + _ + 1 + _ ≤ 200
    omega
theorem page_pg {sg : List Nat} (hs : Sg sg) {Ls : List Lot} (h : Dr sg Ls) (hl : Ls.length ≤ 4) : Pg 5 7 900 (pageT Ls) := by
  have hg := dr_all h hl
  have hsum : sumL (Ls.map lineL) ≤ Ls.length * 201 := by
    have : ∀ Ms : List Lot, (∀ L ∈ Ms, LotG sg L) → sumL (Ms.map lineL) ≤ Ms.length * 201 := by
      intro Ms
      induction Ms with
      | nil => exact fun _ => Nat.zero_le _
      | cons n Ms ih =>
        intro hn
        have h1 := ih fun m hm => hn m (List.mem_cons_of_mem _ hm)
        have h2 := (line_ok hs (hn n List.mem_cons_self)).2
        show ((lineL n).length + 1) + sumL (Ms.map lineL) ≤ (Ms.length + 1) * 201
        omega
    exact this Ls hg
  refine pg_join (by rw [List.length_cons, List.length_map]; omega) ?_ (fun l hl => ?_) (by decide) (by decide) (by decide)
  · show (3 + 1) + sumL (Ls.map lineL) ≤ 900
    omega
  · rcases List.mem_cons.mp hl with hl | hl
    · rw [hl]
      have := ln_join (b := 7) (ws := [logL]) (by simp) (by decide) fun w hw => by
        rw [List.mem_singleton.mp hw]
        exact (word_ok (w := logL) (by decide +kernel)).1
      exact this
    · obtain ⟨L, hL, rfl⟩ := List.mem_map.mp hl
      exact (line_ok hs (hg L hL)).1
end Lw

namespace Lw
open PySem PySem.Spec PyProof.Rows L2 Mq
open SX (S)
/-! ### the law -/
theorem kbn_one {K : PySem.W.Frag} {x qual : Str} {st : Stmt} {f : Addr} {fd : FuncData} {p1 : Str} (F : Fun K x qual st f fd)
    (h : ∀ (kV doc pm : Value) (an : Option Addr) (cdv ct : Value) (a : Value), bindArgs (PySem.W.fnOf x qual (defArgs st) (defBody st) (defScope st) .none kV doc pm an cdv ct) ⟨[], [(p1, a)]⟩ = pure [(p1, a)]) :
    KBn K fd [p1] 0 [p1] rev0 rev0 := by
  obtain ⟨oc, od, kV, doc, pm, an, cdv, ct, osl, rfl, lk, hcd⟩ := F.ex
  refine ⟨fun s us ws _ h1 h2 => ?_, fun a b => vals_rev b⟩
  match us, ws, h1, h2 with
  | [], [a], _, _ => exact .of_eq (h kV doc pm an cdv ct a)
def spLaw (K : PySem.W.Frag) : Sp := fun vs H Q _ => ∃ (a : Addr) (ns : List Int), vs = [.ref a] ∧ SqL K H a (ns.map V.int) ∧ ns.length ≤ 63 ∧ ∀ H', Q (.bl true) H'
theorem cx0_at {X : Cx} {σ : L2.St} {E : XK} : PassesAt CX0 X σ E := fun _ _ _ _ _ _ z => z.elim
theorem menu_is : ([V.str "ab", V.str "am", V.str "abx", V.str "a"] : List V) = txs menuA := rfl
theorem menu_ok : ∀ sg ∈ menuA, Sg sg := by
  have h : (menuA.all fun sg => sg.all (fun c => decide (c < 128) && (decide (c ≠ 10) && (decide (c ≠ 32) && (decide (c ≠ 44) && decide (c ≠ 45))))) && decide (sg.length ≤ 100)) = true := by decide +kernel
  intro sg hsg
  obtain ⟨h1, h2⟩ := Bool.and_eq_true_iff.mp (List.all_eq_true.mp h sg hsg)
  have h3 : ∀ c ∈ sg, c < 128 ∧ c ≠ 10 ∧ c ≠ 32 ∧ c ≠ 44 ∧ c ≠ 45 := fun c hc => by
    obtain ⟨a, b⟩ := Bool.and_eq_true_iff.mp (List.all_eq_true.mp h1 c hc)
    obtain ⟨b, d⟩ := Bool.and_eq_true_iff.mp b
    obtain ⟨d, e⟩ := Bool.and_eq_true_iff.mp d
    obtain ⟨e, g⟩ := Bool.and_eq_true_iff.mp e
    exact ⟨of_decide_eq_true a, of_decide_eq_true b, of_decide_eq_true d, of_decide_eq_true e, of_decide_eq_true g⟩
  exact ⟨fun c hc => (h3 c hc).1, of_decide_eq_true h2, fun h => (h3 _ h).2.1 rfl, fun h => (h3 _ h).2.2.1 rfl, fun h => (h3 _ h).2.2.2.1 rfl, fun h => (h3 _ h).2.2.2.2 rfl⟩
def tbB (l : List Nat) : Bool := l.all (fun c => decide (c < 128)) && (decide (l.length ≤ 4000) && (decide ((spl 10 l).length ≤ 12) && (spl 10 l).all fun x => decide ((spl 32 x).length ≤ 100) && (spl 32 x).all fun w => (spl 44 w).all (fun p => decide (p.length ≤ 50)) && decide ((spl 44 w).length ≤ 10)))
theorem tb_of {l : List Nat} (h : tbB l = true) : TB l := by
  unfold tbB at h
  obtain ⟨h1, h⟩ := Bool.and_eq_true_iff.mp h
  obtain ⟨h2, h⟩ := Bool.and_eq_true_iff.mp h
  obtain ⟨h3, h⟩ := Bool.and_eq_true_iff.mp h
  refine ⟨of_decide_eq_true h2, fun c hc => of_decide_eq_true (List.all_eq_true.mp h1 c hc), of_decide_eq_true h3, fun x hx => ?_, fun x hx w hw => ?_⟩
  · exact of_decide_eq_true (Bool.and_eq_true_iff.mp (List.all_eq_true.mp h x hx)).1
  · obtain ⟨a, b⟩ := Bool.and_eq_true_iff.mp (List.all_eq_true.mp (Bool.and_eq_true_iff.mp (List.all_eq_true.mp h x hx)).2 w hw)
    exact ⟨fun p hp => of_decide_eq_true (List.all_eq_true.mp a p hp), of_decide_eq_true b⟩
theorem rd_txt {K : PySem.W.Frag} {H : Hp} {l : List Nat} (h : TB l) : Rd K H (.str (S l)) := Or.inr ⟨l, rfl, h⟩
theorem notx_of {K : PySem.W.Frag} {H : Hp} {v : V} {a : String} (t : TyX K H v (.type a)) (m : a ∈ ["NoneType", "bool", "int", "str", "list", "tuple", "dict"]) (n : a ≠ "str") : NoTx K H v := ⟨_, t, kit_no m n⟩
section
variable {P : Program} {w : World} {K : PySem.W.Frag} {mg : Str → Option Value} {base : Heap} {CT : Addr}
theorem ok_law {f fD fP fL fG fX fR fW fN : Addr} {fd fdE fdP fdL fdG fdX fdR fdW fdN : FuncData} (F : Fun K "law" "law" s_law f fd) (B : Blt mg)
    (FD : Fun K "_law_deck" "_law_deck" s__law_deck fD fdE) (gD : mg "_law_deck" = some (.ref fD)) (bD : Binds K fdE ["_law_script"] []) (GD : FnOk P w K mg base CX0 1 fD fdE ["_law_script"] (spDeck K))
    (FP : Fun K "_law_pick" "_law_pick" s__law_pick fP fdP) (gP : mg "_law_pick" = some (.ref fP)) (bP : Binds K fdP ["_law_deck_here", "_law_some"] []) (GP : FnOk P w K mg base CX0 2 fP fdP ["_law_deck_here", "_law_some"] spPick)
    (FL : Fun K "_law_log" "_law_log" s__law_log fL fdL) (gL : mg "_law_log" = some (.ref fL)) (bL : Binds K fdL ["_law_deck_here", "_law_letters"] []) (GL : FnOk P w K mg base CX0 3 fL fdL ["_law_deck_here", "_law_letters"] (spLog K))
    (FG : Fun K "_law_page" "_law_page" s__law_page fG fdG) (gG : mg "_law_page" = some (.ref fG)) (bG : Binds K fdG ["_law_log_here"] []) (GG : FnOk P w K mg base CX0 1 fG fdG ["_law_log_here"] (spLogText K))
    (FX : Fun K "log_text" "log_text" s_log_text fX fdX) (gX : mg "log_text" = some (.ref fX)) (bX : Binds K fdX ["log"] []) (kX : KBn K fdX ["log"] 0 ["log"] rev0 rev0) (GX : FnOk P w K mg base CX0 3 fX fdX ["log"] (spLogText K))
    (FR : Fun K "log_read" "log_read" s_log_read fR fdR) (gR : mg "log_read" = some (.ref fR)) (bR : Binds K fdR ["letters", "text"] []) (GR : FnOk P w K mg base (L2.CX P w) 5 fR fdR ["letters", "text"] (spRead K CT))
    (FW : Fun K "_law_read_right" "_law_read_right" s__law_read_right fW fdW) (gW : mg "_law_read_right" = some (.ref fW)) (bW : Binds K fdW ["_law_letters", "_law_page_here"] []) (GW : FnG P w K mg base CX0 8 fW fdW ["_law_letters", "_law_page_here"] (spRR K))
    (FN : Fun K "_law_bent" "_law_bent" s__law_bent fN fdN) (gN : mg "_law_bent" = some (.ref fN)) (bN : Binds K fdN ["_law_deck_here", "_law_page_here"] []) (GN : FnOk P w K mg base CX0 3 fN fdN ["_law_deck_here", "_law_page_here"] spBent) :
    FnG P w K mg base CX0 9 f fd ["_law_script"] (spLaw K) := by
  refine Mq.Fun.okG F sc_law (fun vs H Q E h => ?_) (fun cdv A outer s H vs Q E gA hr h => ?_)
  · obtain ⟨_, _, rfl, _⟩ := h
    rfl
  · obtain ⟨a, ns0, rfl, ha, hn0, q⟩ := h
    have hr5 : Room 5 (A.deeper (envOfC "law" (defScope s_law) s.heap.objs.size f cdv)) := hr.mono (by decide)
    have hu64 : (A.deeper (envOfC "law" (defScope s_law) s.heap.objs.size f cdv)).units + 64 < cLine := by
      have := hr.un
      omega
    refine ⟨_, (pss_cons (ps_set (i := 1) sc_law.nd rfl (Or.inl rfl) (pe_call GD (hr.mono (by decide)) (by rfl) gD FD.kp bD .nil pass0 (pa_cons (pv 0) pa_nil)))
      (pss_cons (ps_for (passes_of rfl) rfl (pi_range1 (by rfl) B.range (pa_cons pe_int pa_nil)) (pg_name (i := 2) sc_law.nd rfl (Or.inl rfl))
        (pss_cons (ps_set (i := 3) sc_law.nd rfl (Or.inl rfl) (pe_call GP (hr.mono (by decide)) (by rfl) gP FP.kp bP .nil pass0 (pa_cons (pv 1) (pa_cons (Mq.pe_ls (pa_cons pe_str (pa_cons pe_str (pa_cons pe_str (pa_cons pe_str pa_nil))))) pa_nil))))
        (pss_cons (ps_set (i := 4) sc_law.nd rfl (Or.inl rfl) (pe_call GL (hr.mono (by decide)) (by rfl) gL FL.kp bL .nil pass0 (pa_cons (pv 1) (pa_cons (pv 3) pa_nil))))
        (pss_cons (ps_set (i := 5) sc_law.nd rfl (Or.inl rfl) (pe_call GG (hr.mono (by decide)) (by rfl) gG FG.kp bG .nil pass0 (pa_cons (pv 4) pa_nil)))
        (pss_cons (ps_if (PW.pt (pw_or (pt_cmpR (op_neD hu64) (Mq.pe_ls (pa_cons (pe_call GX (hr.mono (by decide)) (by rfl) gX FX.kp bX .nil pass0 (pa_cons (pv 4) pa_nil)) (pa_cons (Mq.pe_callK0 (E := fun _ => E0) GX (hr.mono (by decide)) (by rfl) gX FX.kp kX (fun _ => cx0_at) (pk_cons (pv 4) pk_nil)) pa_nil))) (Mq.pe_ls (pa_cons (pv 5) (pa_cons (pv 5) pa_nil))) (nomark _))
          (pw_or1 (pt_not (pt_val (pe_callG GW gA (hr.mono (by decide)) (by rfl) gW FW.kp bW pass0 (pa_cons (pv 3) (pa_cons (pv 5) pa_nil)))))))) (pss_one (ps_ret pe_bl)) pss_nil)
        (pss_cons (ps_if (pt_cmpR op_ne (pe_callB (call_rep hr gA) (by rfl) B.repr (by decide +kernel) (pa_cons (pe_callS (E := WE (fun _ _ _ _ => False)) GR hr5 (by rfl) gR FR.kp bR (fun σ => passAt takes0 σ) (pa_cons (pv 3) (pa_cons (pv 5) pa_nil))) pa_nil)) (pe_callB (call_rep hr gA) (by rfl) B.repr (by decide +kernel) (pa_cons (pv 4) pa_nil)) (nomark _)) (pss_one (ps_ret pe_bl)) pss_nil)
        (pss_cons (ps_for (passes_of rfl) rfl (pi_range1 (by rfl) B.range (pa_cons pe_int pa_nil)) (pg_name (i := 6) sc_law.nd rfl (Or.inl rfl))
          (pss_cons (ps_set (i := 7) sc_law.nd rfl (Or.inl rfl) (pe_call GN (hr.mono (by decide)) (by rfl) gN FN.kp bN .nil pass0 (pa_cons (pv 1) (pa_cons (pv 5) pa_nil))))
          (pss_one (ps_if (PW.pt (pw_or (pt_not (pt_val (pe_callG GW gA (hr.mono (by decide)) (by rfl) gW FW.kp bW pass0 (pa_cons (pv 3) (pa_cons (pv 7) pa_nil))))) (pw_or1 (pt_not (pt_val (pe_callG GW gA (hr.mono (by decide)) (by rfl) gW FW.kp bW pass0 (pa_cons (pv 3) (pa_cons (pe_call GN (hr.mono (by decide)) (by rfl) gN FN.kp bN .nil pass0 (pa_cons (pv 1) (pa_cons (pv 7) pa_nil))) pa_nil)))))))) (pss_one (ps_ret pe_bl)) pss_nil))))
        (pss_one (ps_if (pt_not (pt_val (pe_callG GW gA (hr.mono (by decide)) (by rfl) gW FW.kp bW pass0 (pa_cons pe_str (pa_cons (pv 5) pa_nil))))) (pss_one (ps_ret pe_bl)) pss_nil)))))))))
      (pss_cons (ps_set (i := 8) sc_law.nd rfl (Or.inl rfl) (Mq.pe_ls (pa_cons pe_non (pa_cons pe_int (pa_cons pe_bl (pa_cons (Mq.pe_ls pa_nil) (pa_cons (pe_tup (pa_cons pe_str pa_nil)) (pa_cons pe_str (pa_cons pe_str (pa_cons pe_str (pa_cons pe_str (pa_cons pe_str (pa_cons pe_str (pa_cons pe_str pa_nil))))))))))))))
      (pss_one (ps_ret (pe_cmpR (op_eqD hu64) (pe_lc (own := [("_law_it", 9)]) (g := gName 9) rfl sc_law.nd (pi_list (pv 8)) (blkOk_by (own := [("_law_it", 9)]) (N := ["_law_script", "_law_deck_here", "_law_go", "_law_letters", "_law_log_here", "_law_page_here", "_law_turn", "_law_far", "_law_odd", "_law_it"]) (sc := defScope s_law) (by decide +kernel)) (fun _ _ _ _ _ => pg_name (i := 9) sc_law.nd rfl (Or.inl rfl)) (fun _ _ _ _ _ => pts_one (pt_not (pt_val (pe_callG GW gA (hr.mono (by decide)) (by rfl) gW FW.kp bW pass0 (pa_cons pe_str (pa_cons (pv 9) pa_nil)))))) (fun _ _ _ _ _ => (pv 9))) (Mq.pe_ls pa_nil) (nomark _))))))), ?_⟩
    refine ⟨_, rfl, a, ns0, rfl, ha, hn0, fun H1 D Cc s1 dk1 => ?_⟩
    refine ⟨4, rfl, by decide, by decide, ?_⟩
    refine for_it (walk_rng (n := 4)) (fun go σ H' => DeckAt D Cc (300 * go) H' ∧ ∃ o2 o3 o4 o5 o6 o7, σ = [some (.ref a), some (.ref D), o2, o3, o4, o5, o6, o7, none, none]) ⟨dk1, _, _, _, _, _, _, rfl⟩ (fun _ _ _ _ _ => trivial) ?_ ?_
    · rintro go x0 σ H2 H2' hgo ⟨dk2, o2, o3, o4, o5, o6, o7, rfl⟩ ⟨rfl, rfl⟩
      refine ⟨_, rfl, sz_le (n := 4) (by decide), fun p hp _ => ?_⟩
      have t3 := same_new (o := HO.lst (txs menuA)) hp
      obtain ⟨pD, pC⟩ := new_ne dk2 hp
      rw [menu_is]
      refine ⟨D, Cc, 300 * go, .ref p, rfl, dk2.same t3, by omega, Or.inr ⟨p, _, rfl, upd_same, pC, by decide, by decide, fun H3 v hv dk3 off3 => ?_⟩⟩
      obtain ⟨sg, hsg, rfl⟩ := List.mem_map.mp hv
      have hs := menu_ok sg hsg
      have hs100 := hs.few
      refine ⟨_, rfl, _, rfl, D, Cc, _, sg, rfl, dk3, by omega, by omega, fun H4 fa xs Ls hdr hlen hfa hall dk4 off4 => ?_⟩
      have hg := dr_all hdr hlen
      have hok : ∀ L ∈ Ls, LotOk L := fun L hL => lotG_ok (hg L hL)
      have hpg := page_pg hs hdr hlen
      have htb := hpg.tb (by decide) (by decide) (by decide)
      have hback := page_back hs hdr hlen
      have hlow : LowL (pageT Ls) := htb.low
      refine ⟨_, rfl, fa, xs, Ls, rfl, hfa, hall, hok, by omega, fun H5 s5 => ?_⟩
      have dk5 := dk4.same s5
      have hfa5 := Same.tup s5 hfa
      have hall5 := hall.kp (KpT.same s5)
      generalize hpt : pageT Ls = t at hpg htb hback hlow ⊢
      refine ⟨_, rfl, fa, xs, Ls, rfl, hfa5, hall5, hok, by omega, fun H6 s6 => ?_⟩
      have hfa6 := Same.tup s6 hfa5
      have hall6 := hall5.kp (KpT.same s6)
      refine ⟨_, rfl, rfl, fa, xs, Ls, rfl, hfa6, hall6, hok, by omega, fun H7 s7 => ?_⟩
      rw [hpt]
      refine ⟨sz_le (n := 2) (by decide), fun pa hpa _ => ?_⟩
      have u1 := same_new (o := HO.lst (txs [t, t])) hpa
      have za : upd H7 pa (.lst (txs [t, t])) pa = some (.lst (txs [t, t])) := upd_same
      have s57 := (s6.trans s7).trans u1
      have e2 : [V.str (S t), V.str (S t)] = txs [t, t] := rfl
      rw [e2]
      generalize upd H7 pa (.lst (txs [t, t])) = H8 at za s57 ⊢
      refine ⟨_, rfl, _, rfl, sz_le (n := 2) (by decide), fun pb hpb _ => ?_⟩
      have u2 := same_new (o := HO.lst (txs [t, t])) hpb
      have lowtt : LowLs [t, t] := fun x hx => by
        simp only [List.mem_cons, List.not_mem_nil, or_false] at hx
        rcases hx with rfl | rfl <;> exact hlow
      refine ⟨_, _, .lst (SqL.of (u2 _ _ za)) (dp_txs _), .lst (SqL.of upd_same) (dp_txs [t, t]), shaped_txs lowtt, shaped_txs lowtt, ?_⟩
      rw [eqv_txs, decide_eq_true rfl]
      have s58 := s57.trans u2
      have s58 : Same H5 (upd H8 pb (.lst [V.str (S t), V.str (S t)])) := s58
      generalize upd H8 pb (.lst [V.str (S t), V.str (S t)]) = H9 at s58 ⊢
      refine ⟨_, rfl, ifF rfl ?_⟩
      refine ⟨_, rfl, _, rfl, sg, _, rfl, by omega, hs.low, rd_txt htb, fun H10 s10 => ⟨_, rfl, ifF rfl ?_⟩⟩
      have s510 := s58.trans s10
      refine ⟨_, rfl, _, rfl, sg, _, rfl, Or.inr ⟨t, rfl, htb.ok, ?_⟩⟩
      rw [hback]
      intro H11 pr xr s11 hpr hallr
      have s511 := s510.trans s11
      have okl := (gs_log (fun L hL => lotG_W hs (hg L hL)) (by omega)).ok (by decide) (by decide)
      refine ⟨_, logD Ls, rfl, .tup hpr (dg_lots hallr), okl.sh, okl.de, okl.le, ?_⟩
      have hfa11 := Same.tup s511 hfa5
      have hall11 := hall5.kp (KpT.same s511)
      refine ⟨_, rfl, _, logD Ls, rfl, .tup hfa11 (dg_lots hall11), okl.sh, okl.de, okl.le, ?_⟩
      refine ⟨rfl, _, rfl, ifF (by rw [decide_eq_true rfl]; rfl) ?_⟩
      have dk11 := dk5.same s511
      refine ⟨5, rfl, by decide, by decide, ?_⟩
      refine for_it (walk_rng (n := 5)) (fun i σ H' => DeckAt D Cc (300 * go + 1 + 100 + 12 * i) H' ∧ ∃ o6 o7, σ = [some (.ref a), some (.ref D), some (.int ((go : Nat) : Int)), some (.str (S sg)), some (.ref fa), some (.str (S t)), o6, o7, none, none]) ⟨dk11, _, _, rfl⟩ (fun _ _ _ _ _ => trivial) ?_ ?_
      · rintro i y σ H12 H12' hi ⟨dk12, o6, o7, rfl⟩ ⟨rfl, rfl⟩
        refine ⟨_, rfl, _, rfl, D, Cc, _, t, 5, 7, 900, rfl, dk12, by omega, hpg, by decide, by decide, by decide, by decide, fun H13 l1 pg1 dk13 off13 => ?_⟩
        refine ⟨_, rfl, _, rfl, sg, _, rfl, by omega, hs.low, rd_txt (pg1.tb (by decide) (by decide) (by decide)), fun H14 s14 => ⟨_, rfl, ifF rfl ?_⟩⟩
        refine ⟨_, rfl, _, rfl, _, rfl, D, Cc, _, l1, _, _, _, rfl, dk13.same s14, by omega, pg1, by decide, by decide, by decide, by decide, fun H15 l2 pg2 dk15 off15 => ?_⟩
        refine ⟨sg, _, rfl, by omega, hs.low, rd_txt (pg2.tb (by decide) (by decide) (by decide)), fun H16 s16 => ⟨_, rfl, ifF rfl ?_⟩⟩
        exact ⟨(dk15.same s16).mono (by omega), _, _, rfl⟩
      · rintro σ H12 ⟨dk12, o6', o7', rfl⟩
        have lowbc : LowL [98, 99] := fun c hc => by
          simp only [List.mem_cons, List.not_mem_nil, or_false] at hc
          omega
        refine ⟨_, rfl, [98, 99], _, rfl, by decide, lowbc, rd_txt htb, fun H13 s13 => ⟨true, rfl, ifF rfl ?_⟩⟩
        exact ⟨(dk12.same s13).mono (by omega), _, _, _, _, _, _, rfl⟩
    · rintro σ H2 ⟨dk2, o2, o3, o4, o5, o6, o7, rfl⟩
      refine ⟨sz_le (n := 0) (by decide), fun p1 hp1 _ => ?_⟩
      have z1 : upd H2 p1 (.lst []) p1 = some (.lst []) := upd_same
      generalize upd H2 p1 (.lst []) = G1 at z1 ⊢
      refine ⟨sz_le (n := 1) (by decide), fun t1 ht1 => ?_⟩
      have u3 := same_new (o := HO.tup [V.str "log"]) ht1
      have z3 : SqT K (upd G1 t1 (.tup [V.str "log"])) t1 [V.str "log"] := Or.inl (Or.inl upd_same)
      have z1 := u3 _ _ z1
      generalize upd G1 t1 (.tup [V.str "log"]) = G7 at z1 z3 ⊢
      refine ⟨sz_le (n := 12) (by decide), fun p3 hp3 _ => ?_⟩
      show gName 8 (.ref p3) _ (upd G7 p3 (.lst [V.non, .int 0, .bl true, .ref p1, .ref t1, .str "", .str "\n", .str "log\n", .str "Log", .str " log", .str "log\nlot 0 open - ", .str "lot 0 open - -"])) _
      have rds : ∀ v ∈ [V.non, .int 0, .bl true, .ref p1, .ref t1, .str "", .str "\n", .str "log\n", .str "Log", .str " log", .str "log\nlot 0 open - ", .str "lot 0 open - -"], Rd K G7 v := by
        have txt : ∀ (x : Str), tbB x.cps.toList = true → Rd K G7 (.str x) := fun x h => by
          have e : x = S x.cps.toList := by cases x; rfl
          rw [e]
          exact rd_txt (tb_of h)
        intro v hv
        simp only [List.mem_cons, List.not_mem_nil, or_false] at hv
        rcases hv with rfl | rfl | rfl | rfl | rfl | rfl | rfl | rfl | rfl | rfl | rfl | rfl
        · exact Or.inl fun H' e => notx_of (.base .non) (by decide) (by decide)
        · exact Or.inl fun H' e => notx_of (.base (.int _)) (by decide) (by decide)
        · exact Or.inl fun H' e => notx_of (.base (.bl _)) (by decide) (by decide)
        · exact Or.inl fun H' e => notx_of (ty_list (SqL.of (e _ _ z1))) (by decide) (by decide)
        · exact Or.inl fun H' e => notx_of (ty_tup (Same.tup e z3)) (by decide) (by decide)
        · exact txt _ (by decide +kernel)
        · exact txt _ (by decide +kernel)
        · exact txt _ (by decide +kernel)
        · exact txt _ (by decide +kernel)
        · exact txt _ (by decide +kernel)
        · exact txt _ (by decide +kernel)
        · exact txt _ (by decide +kernel)
      generalize hits : [V.non, .int 0, .bl true, .ref p1, .ref t1, .str "", .str "\n", .str "log\n", .str "Log", .str " log", .str "log\nlot 0 open - ", .str "lot 0 open - -"] = its at rds ⊢
      have u8 := same_new (o := HO.lst its) hp3
      have z8 : upd G7 p3 (.lst its) p3 = some (.lst its) := upd_same
      have rds8 : ∀ v ∈ its, Rd K (upd G7 p3 (.lst its)) v := fun v hv => (rds v hv).same u8
      generalize upd G7 p3 (.lst its) = G8 at z8 rds8 ⊢
      refine ⟨_, rfl, p3, rfl, ⟨_, SqL.of z8⟩, fun L hL => ?_⟩
      have lowab : LowL [97, 98] := fun c hc => by
        simp only [List.mem_cons, List.not_mem_nil, or_false] at hc
        omega
      refine lc_it (walk_list (a := p3) (xs := its)) (fun i H' => Same G8 H' ∧ H' L = some (.lst [])) ⟨same_new hL, upd_same⟩ (fun i H' _ p => SqL.of (p.1 _ _ z8)) ?_ ?_
      · rintro i y H4 H4' hi ⟨s4, zL⟩ ⟨rfl, hy⟩
        refine ⟨rfl, _, rfl, [97, 98], y, rfl, by decide, lowab, (rds8 y (List.mem_of_getElem? hy)).same s4, fun H5 s5 => ⟨true, rfl, ifF rfl ?_⟩⟩
        exact ⟨s4.trans s5, s5 _ _ zL⟩
      · rintro H4 ⟨s4, zL⟩
        refine ⟨sz_le (n := 0) (by decide), fun p6 hp6 _ => ?_⟩
        have t6 := same_new (o := HO.lst []) hp6
        refine ⟨.list [], .list [], .lst (SqL.of (t6 _ _ zL)) .nil, .lst (SqL.of upd_same) .nil, rfl, rfl, ?_⟩
        exact q _
end
end Lw

namespace Mq
open PySem PySem.Spec PySem.W PySem.Calls PySem.HandSPX PyProof.Rows
/-! ### an own error made by keywords -/
section
variable {M : Model} {A : Around} {E : Value → Shared → Prop} {h : Heap} {g : Array GenState} {dr : Drawn} {tk : Nat} {os : OsState}
variable {nm q : Str} {C N : Addr} {bs bm bmB : List Value} {hd : Bool} {sn : List Str} {sub : List Value} {ab : Bool} {col : Option Bool} {dd : Option Addr} {k0 k1 k2 k3 k5 : Option Value} {B newId initId : String}
theorem new_fine (F : ExcBaseFacts B newId initId bmB) (same : ∀ X : String, bm.contains (.type X) = bmB.contains (.type X)) {us : List Value} {kw : List (Str × Value)} {Q : Unit → Shared → Prop}
    (at' : h.get? C = some (excClassObj nm q C N bs bm hd sn sub ab col dd k0 k1 k2 k3 k5 newId)) (done : Q () ⟨h, g, dr, tk, os⟩) : wpAny M A (checkBuiltinCall newId ⟨.ref C :: us, kw⟩) Q E ⟨h, g, dr, tk, os⟩ := by
  have below : (Value.ref C :: bm).contains (.type B) = true := by rw [List.contains_cons, same, F.hasB, Bool.or_true]
  have ns := F.noStar
  simp only [checkBuiltinCall, F.newKind, F.newSplit, F.newRow]
  repeat (first
    | refine wpAny_loadPart_at at' ?_
    | (refine wpAny_isSubtype_exc at' ?_; rw [below])
    | refine wpAny_staticBase_exc at' ?_
    | refine wpAny_madeBy_exc at' ?_
    | simp only [bne_self_eq_false, Bool.false_eq_true, if_false]
    | wp_step)
  exact done
end
section
variable {prog : Program} {w : World} {A : Around} {E : Value → Shared → Prop} {R : Result → Shared → Prop} {h : Heap} {g : Array GenState} {dr : Drawn} {tk : Nat} {os : OsState}
variable {nm q : Str} {C N : Addr} {bs bm bmB : List Value} {hd : Bool} {sn : List Str} {sub : List Value} {ab : Bool} {col : Option Bool} {dd : Option Addr} {k0 k1 k2 k3 k5 : Option Value} {B newId initId : String}
theorem new_kw (F : ExcBaseFacts B newId initId bmB) (same : ∀ X : String, bm.contains (.type X) = bmB.contains (.type X)) {us : List Value} {kw : List (Str × Value)}
    (at' : h.get? C = some (excClassObj nm q C N bs bm hd sn sub ab col dd k0 k1 k2 k3 k5 newId)) (few : us.length ≤ sizeLine)
    (done : R (.ok (.ret (.ref (h.objs.size + 1)))) ⟨(h.push (kdv_tup us)).push (excO C h.objs.size), g, dr, tk, os⟩) :
    codeAny (model prog w) A (.builtin newId ⟨.ref C :: us, kw⟩) R ⟨h, g, dr, tk, os⟩ := by
  have ends := F.ends
  have isB : (Value.ref C :: bm).contains (.type B) = true := by rw [List.contains_cons, same, F.hasB, Bool.or_true]
  have isA : (Value.ref C :: bm).contains (.type "AttributeError") = false := by rw [List.contains_cons, same, F.noAttr]; rfl
  have isN : (Value.ref C :: bm).contains (.type "NameError") = false := by rw [List.contains_cons, same, F.noName]; rfl
  refine codeAny_builtinAt F.entry ?_
  unfold Builtin.«BaseException.__new__»
  refine PySem.wpAt_bind ?_
  show PySem.wpAt _ _ _ (stack >>= _) _ _ _
  refine PySem.wpAt_bind (PySem.wpAt_stack fun p below => PySem.wpAt_of_wpAny ?_)
  wp_walk
  refine PySem.wpAt_of_wpAny ?_
  rw [F.owner]
  repeat (first
    | with_reducible refine wpAny_madeHere_exc F.canon at' ?_
    | with_reducible refine wpAny_loadPart_at at' ?_
    | (with_reducible refine wpAny_isSubtype_exc at' ?_; first | rw [isB] | rw [isA] | rw [isN])
    | wp_step)
  show R _ _
  rw [Heap.size_push]
  exact done
theorem type_kw (F : ExcBaseFacts B newId initId bmB) (same : ∀ X : String, bm.contains (.type X) = bmB.contains (.type X)) {us : List Value} {kw : List (Str × Value)} {fI : Addr} {Q : Fin → Shared → Prop}
    (at' : h.get? C = some (excClassObj nm q C N bs bm hd sn sub ab col dd k0 k1 k2 k3 k5 newId)) (few : us.length ≤ sizeLine)
    (looks : Looks (model prog w) h (typeLookup (.ref C) "__init__") (some (.ref fI))) (binds : ∀ self, Looks (model prog w) h (bindSpecial (.ref fI) self) (.ref fI, [self]))
    (done : codeAny (model prog w) A (.call (.ref fI) ⟨.ref (h.objs.size + 1) :: us, kw⟩)
      (fun r s' => match r with | .ok (.ret v) => v = .none ∧ Q (.done (.ret (.ref (h.objs.size + 1)))) s' | .ok _ => False | .error e => E e s')
      ⟨(h.push (kdv_tup us)).push (excO C h.objs.size), g, dr, tk, os⟩) :
    wpAny (model prog w) A (Builtin.«type.__call__» ⟨.ref C :: us, kw⟩) Q E ⟨h, g, dr, tk, os⟩ := by
  repeat (first
    | with_reducible refine wpAny_loadPart_at at' ?_
    | with_reducible refine wpAny_madeBy_exc at' ?_
    | wp_step)
  refine codeAny_call_builtin_code (Code.quiet_builtin _ F.quiet) (new_fine F same at' ?_)
  refine new_kw F same at' few ?_
  show wpAny _ _ _ _ _ _
  have k : ∀ b o, h.get? b = some o → ((h.push (kdv_tup us)).push (excO C h.objs.size)).get? b = some o := fun b o e => Heap.get?_push_of_some _ (Heap.get?_push_of_some _ e)
  have at1 := k _ _ at'
  have new : ((h.push (kdv_tup us)).push (excO C h.objs.size)).get? (h.objs.size + 1) = some (excO C h.objs.size) := by heap_get
  have own : (Value.ref C :: bm).contains (.ref C) = true := by simp
  have i1 := looks.keeps k
  have b1 := (binds (.ref (h.objs.size + 1))).keeps k
  unfold isInstance
  repeat (first
    | with_reducible refine wpAny_loadPart_at new ?_
    | (with_reducible refine wpAny_isSubtype_exc at1 ?_; rw [own])
    | wp_step)
  show wpAny _ _ (typeLookup (.ref C) _) _ _ _
  refine i1.at ?_
  refine wpAny_holding (wpAny_bind (b1.at ?_))
  refine wpAny_bind (wpAny_call (codeAny_mono done fun r s' z => ?_))
  rcases r with e | (v | _ | _ | _) <;> first | exact z | exact z.elim | skip
  obtain ⟨rfl, z⟩ := z
  first
    | exact wpAny_pure (wpAny_pure z)
    | (wp_walk; exact z)
theorem call_kw (F : ExcBaseFacts B newId initId bmB) (same : ∀ X : String, bm.contains (.type X) = bmB.contains (.type X)) {us : List Value} {kw : List (Str × Value)} {fI : Addr}
    (at' : h.get? C = some (excClassObj nm q C N bs bm hd sn sub ab col dd k0 k1 k2 k3 k5 newId)) (few : us.length ≤ sizeLine)
    (looks : Looks (model prog w) h (typeLookup (.ref C) "__init__") (some (.ref fI))) (binds : ∀ self, Looks (model prog w) h (bindSpecial (.ref fI) self) (.ref fI, [self]))
    (done : codeAny (model prog w) (A.under (.builtin "type.__call__" ⟨.ref C :: us, kw⟩)) (.call (.ref fI) ⟨.ref (h.objs.size + 1) :: us, kw⟩) (InitBack (h.objs.size + 1) R)
      ⟨(h.push (kdv_tup us)).push (excO C h.objs.size), g, dr, tk, os⟩) :
    codeAny (model prog w) A (.call (.ref C) ⟨us, kw⟩) R ⟨h, g, dr, tk, os⟩ := by
  have f1 := tc_lookup
  have f2 := tc_bind (.ref C)
  have isT : (⟨h, g, dr, tk, os⟩ : Shared).TypeIs (.ref C) "type" := ⟨_, at', rfl⟩
  refine codeAny_of_tree ?_
  show wpAny _ _ (callAny (.ref C) _) _ _ _
  repeat (any_goals (first
    | assumption
    | with_reducible refine wpAny_loadPart_at at' ?_
    | wp_step))
  refine ⟨rfl, ?_⟩
  refine codeAny_call_builtin_at (Code.quiet_builtin _ (by decide +kernel)) entry_typeCall (wpAny_check_type_call_sub at' (type_kw F same at' few looks binds ?_))
  refine codeAny_mono done fun r s' z => ?_
  rcases r with e | (v | _ | _ | _) <;> exact z
end
end Mq

namespace Mq
open PySem PySem.Spec PyProof.Rows L2
open PySem.W (Frag)
open PySem.Builtin.ObjectAttr
/-! ### a second field -/
section
variable {prog : Program} {w : World} {A : Around} {E : Value → Shared → Prop} {R : Result → Shared → Prop}
  {hp : Heap} {g : Array GenState} {d : Drawn} {t : Nat} {os : OsState} {K : Frag}
theorem osa_next {name n0 : Str} {tk : Tok} {v v0 : Value} {x C t1 dx : Addr} (X : K.In hp)
    (hx : hp.get? x = some (PySem.W.excObj C t1 (some dx) .none)) (hn : hp.Ns1 dx (fun y => if y = n0 then some v0 else none)) (ho : PySem.W.excOver K C exTail = true)
    (hh : PySem.W.hasDictIn K C = true) (ht : PySem.W.takerIn K C name = some none)
    (hq : ∀ h' tk', (∀ b o, b ≠ dx → hp.get? b = some o → h'.get? b = some o) →
      h'.Ns1 dx (fun y => if y = name then some v else if y = n0 then some v0 else none) → R (.ok (.ret .none)) ⟨h', g, d, tk', os⟩) :
    codeAny (model prog w) A (.call (.builtin "object.__setattr__") ⟨[.ref x, .str name tk, v], []⟩) R ⟨hp, g, d, t, os⟩ := by
  obtain ⟨od, hod, _⟩ := lookIn_ns hn
  refine PySem.W.osa_openX (od := some od) (s := ⟨hp, g, d, t, os⟩) F.store_Exception X ⟨hx, rfl, rfl, hod⟩ ho ht (fun b => ?_)
  obtain ⟨cd, hc, hd'⟩ := PySem.W.any_some hh
  have Lc : PySem.W.Looks (model prog w) hp (classData C) cd := PySem.W.looks_clsIn X hc
  refine wpAny_bind (wpAny_pure (wpAny_bind ?_))
  unfold ownDictForStores
  show wpAny _ _ (instanceDict x true) _ _ _
  unfold instanceDict
  refine wpAny_bind (wpAny_loadPart hx ?_)
  dsimp only
  refine wpAny_bind (Lc.here ?_)
  rw [hd']
  rw [if_neg (by decide)]
  refine wpAny_pure ?_
  show wpAny _ _ (storeInDict dx (.str name tk) name v) _ _ _
  unfold storeInDict newKeyGuard
  refine wpAny_bind (wpAny_pure (wpAny_bind (wpAny_nsSet1 hn fun h' hn' hs => ?_)))
  have hw : PySem.Within (fun y => if y = name then some v else if y = n0 then some v0 else none) [name, n0] := by
    have h1 := PySem.Within.cons name v (PySem.Within.cons n0 v0 PySem.Within.nil)
    exact h1
  obtain ⟨oD, esD, epD, hoD, hdD, hcD⟩ := hn'.count hw
  refine wpAny_bind (wpAny_lookBehind hoD (by rw [hdD]; exact pastItsLine_dict (Nat.le_trans hcD (by rw [sizeLine_eq]; show 2 ≤ 16777216 + 1; decide))) ?_)
  wp_walk
  exact hq h' _ (fun b o hb ho => (hs.2 b hb).trans ho) hn'
end
/-! ### errors as values -/
def ExF (C : Addr) (d : Option Addr) (a : Addr) : HO := .ext fun h => ∃ (oe : Obj) (vs : Array Value), h.get? a = some oe ∧ Zc (.ref C) d oe ∧ oe.data = .fields vs
theorem exF_ok {P : Program} {w : World} {H : Hp} {h : Heap} {a C : Addr} {d : Option Addr} {oe : Obj} {vs : Array Value} (e : h.get? a = some oe) (z : Zc (.ref C) d oe) (f : oe.data = .fields vs) : ObjOk P w H h a (ExF C d a) :=
  ⟨⟨oe, vs, e, z, f⟩, ⟨oe, e⟩, fun _ _ ⟨o, v, q, r⟩ k => ⟨o, v, k o q, r⟩⟩
/-- the error at e, of the class C, its field's dict at d -/
structure ErrAt (H : Hp) (C e d : Addr) (fs : List (Str × V)) : Prop where
  ex : H e = some (ExF C (some d) e)
  fd : H d = some (.xd fs)
theorem ErrAt.same {H H' : Hp} {C e d : Addr} {fs : List (Str × V)} (h : ErrAt H C e d fs) (s : ∀ b o, H b = some o → H' b = some o) : ErrAt H' C e d fs := ⟨s _ _ h.ex, s _ _ h.fd⟩
section
variable {X : Cx} {pins : List (Addr × Obj)} {σ : L2.St} {H : Hp} {s : Shared}
/-- e.n, e an error that is a value -/
def tXv (C : Addr) (n : Str) (te : TE) : TE := fun σ H Q => te σ H fun x H1 => ∃ (a d : Addr) (fs : List (Str × V)) (v : V), x = .ref a ∧ ErrAt H1 C a d fs ∧ fs.lookup n = some v ∧ Q v H1
theorem pe_xv {C : Addr} {e : Expr} {te : TE} {pos : Pos} {n : Str} (T : XfC X.K C) (hno : PySem.W.findIn X.K (.ref C) n = some none)
    (he : PE X e te) (hb : attributeBase e n X.env (eval e X.env) = eval e X.env := by rfl) : PE X (.Attribute e n pos) (tXv C n te) := by
  refine ⟨fun pins s σ H Q I h => ?_⟩
  refine attr_of hb (thn (he.run pins s σ H _ I h) fun u s1 hh => ?_)
  obtain ⟨x, H1, I1, rx, a, dd, fs, v, ex, er, l, q⟩ := hh
  subst ex
  obtain rfl : u = Value.ref a := rx
  obtain ⟨⟨oe, vs, ha, hz, hd⟩, _, _⟩ := (show ObjOk X.prog X.w H1 s1.heap a (ExF C (some dd) a) from I1.hok a _ er.ex)
  obtain ⟨mA, hns, hr⟩ := (show ObjOk X.prog X.w H1 s1.heap dd (.xd fs) from I1.hok dd _ er.fd)
  obtain ⟨od, ho, hl⟩ := lookIn_ns hns
  obtain ⟨u, hu, ru⟩ := RelO.some_of (v := v) (o := mA n) (by rw [← l]; exact hr n)
  have J : PySem.W.InstAt s1.heap a oe C (some od) := by
    refine ⟨ha, hz.1, ?_, ?_⟩
    · unfold PySem.W.notCls
      rw [hd]
    · rw [hz.2]
      exact ho
  exact HandSPX.exc_get I1.kIn J T.ga T.gg T.exC (PySem.W.findObj_own T.hdC hno rfl (by rw [hl, hu])) (handed_of ru) ⟨v, H1, I1.tok _, ru, q⟩
/-- isinstance(e, c), e an error that is a value -/
def rIsE (K : PySem.W.Frag) : List V → Hp → VK → Prop := fun xs H Q => ∃ (a D : Addr) (d : Option Addr) (c : V) (u : Value) (b : Bool), xs = [.ref a, c] ∧ ClsV c u ∧ H a = some (ExF D d a) ∧
  (∀ x, d = some x → ∃ fs, H x = some (.xd fs)) ∧ HeldC K D ∧ PySem.W.kitOne K (.ref D) u = some b ∧ Q (.bl b) H
theorem call_isE : CallR X (.builtin "isinstance") (rIsE X.K) := by
  intro pins s σ H xs us Q I r h
  obtain ⟨a, D, d, c, u, b, rfl, k, ha, hdx, C, e, q⟩ := h
  obtain ⟨u1, u2, rfl, r1, r2⟩ := vals2 r
  have e2 := k.eq r2
  subst e2
  cases r1
  obtain ⟨⟨oe, vs, hget, hz, hv⟩, _, _⟩ := (show ObjOk X.prog X.w H s.heap a (ExF D d a) from I.hok a _ ha)
  obtain ⟨od, J⟩ : ∃ od, PySem.W.InstAt s.heap a oe D od := by
    cases d with
    | none =>
      refine ⟨none, hget, hz.1, ?_, ?_⟩
      · unfold PySem.W.notCls
        rw [hv]
      · rw [hz.2]
        trivial
    | some dd =>
      obtain ⟨fs, hf⟩ := hdx dd rfl
      obtain ⟨mA, ⟨od, es, ep, ho, _⟩, _⟩ := (show ObjOk X.prog X.w H s.heap dd (.xd fs) from I.hok dd _ hf)
      refine ⟨some od, hget, hz.1, ?_, ?_⟩
      · unfold PySem.W.notCls
        rw [hv]
      · rw [hz.2]
        exact ho
  refine PySem.W.kia_one (PySem.W.kitx_exc C.cl C.ga C.gg C.sb C.ca C.sp C.tk C.mo) I.kIn J e (fun z => by cases z) (fun tk => ?_)
  exact ⟨.bl b, H, I.kept (t' := tk) (fun _ _ z => z), rfl, q⟩
/-- C(), a bare one -/
theorem pe_exB {C : Addr} {bmB : List Value} {B newId initId : String} {x : Str} {p pos : Pos} (F : ExcBaseFacts B newId initId bmB) (q : PySem.W.excIn X.K C bmB newId = true) (gC : X.mg x = some (.ref C)) (kC : PySem.W.keepIn X.K (.ref C) = true) (hg : Gl X x)
    (hdb : (x == ("__debug__" : Str)) = false := by decide) :
    PE X (.Call (.Name x p) [] [] pos) (fun _ H Q => ∀ a, H a = none → Q (.ref a) (upd H a (ExF C none a))) := by
  refine ⟨fun pins s σ H Q I h => ?_⟩
  refine wpAny_Call_Name_kw (ld_glob I hg gC ?_ hdb)
  refine PySem.W.callWith_K0 I.kIn kC ?_
  obtain ⟨bm, N, nm, qn, bs, hdct, sn, sub, ab, col, dd, k0, k1, k2, k3, k5, mN, hC, hN, hni, T⟩ := exc_obj I.kIn q
  refine wpAny_call_exc_subT F T hC hN hni (fun h' a hm => ?_) (by show 0 ≤ sizeLine; exact Nat.zero_le _)
  have hn : H a = none := I.hok.gone hm.new
  obtain ⟨t, ht, _, _⟩ := hm.there
  exact ⟨.ref a, upd H a (ExF C none a), I.laidN hm.keeps hm.new hn (exF_ok ht ⟨rfl, rfl⟩ rfl), rfl, h a hn⟩
end
end Mq

namespace Mq
open PySem PySem.Spec PyProof.Rows L2
open PySem.W (Frag)
/-! ### the call of an error's class as a value -/
/-- a made error, its fields by m -/
structure MadeM (h h' : Heap) (e C d : Addr) (m : Str → Option Value) : Prop where
  keep : ∀ b o, h.get? b = some o → h'.get? b = some o
  new : h.objs.size ≤ e
  obj : ∃ oe vs, h'.get? e = some oe ∧ oe.cls = .ref C ∧ oe.dict = some d ∧ oe.data = .fields vs ∧ vs[1]? = some .none
  big : h.objs.size ≤ d
  ne : d ≠ e
  ns : h'.Ns1 d m
/-- what the written part says of an error's class -/
structure ErrC (K : Frag) (mg : Str → Option Value) (x : Str) (C fI : Addr) : Prop where
  gC : mg x = some (.ref C)
  kC : PySem.W.keepIn K (.ref C) = true
  ex : PySem.W.excInitIn K C exTail "Exception.__new__" = true
  ov : PySem.W.excOver K C exTail = true
  hdC : PySem.W.hasDictIn K C = true
  sa : PySem.W.findIn K (.ref C) "__setattr__" = some (some (.builtin "object.__setattr__"))
  iC : PySem.W.findIn K (.ref C) "__init__" = some (some (.ref fI))
  tC : PySem.W.typeIn K (.ref fI) = some (.type "function")
  exC : PySem.W.subIn K (.ref C) (.type "BaseException") = some true
  tyC : PySem.W.typeIn K (.ref C) = some (.type "type")
/-- calls of C with these arguments make an error with fields by m -/
def Makes (K : Frag) (C : Addr) (us : List Value) (kw : List (Str × Value)) (m : Str → Option Value) : Prop :=
  ∀ (prog : Program) (w : World) (A : Around) (R : Result → Shared → Prop) (s : Shared), K.In s.heap → s.heap.NoLimit → A.depth + 1 < recursionLimit →
    (∀ h' tk e d, MadeM s.heap h' e C d m → R (.ok (.ret (.ref e))) { s with heap := h', toks := tk }) → codeAny (model prog w) A (.call (.ref C) ⟨us, kw⟩) R s
theorem zip_rel : ∀ {ks : List Str} {vs : List V} {us : List Value}, Vals vs us → ∀ f : Str, RelO ((ks.zip vs).lookup f) ((ks.zip us).lookup f)
  | [], _, _, _, f => by simp [RelO]
  | _ :: _, _, _, .nil, f => by simp [RelO]
  | k :: ks, _, _, .cons r t, f => by
    rw [List.zip_cons_cons, List.zip_cons_cons, List.lookup_cons, List.lookup_cons]
    cases f == k with
    | true => exact r
    | false => exact zip_rel t f
section
variable {X : Cx} {pins : List (Addr × Obj)} {σ : L2.St} {H : Hp}
theorem laid_exc {hp h' : Heap} {g : Array GenState} {dr : Drawn} {tk tk' : Nat} {os : OsState} {e C d : Addr} {m : Str → Option Value} {fs : List (Str × V)}
    (I : L2.Inv X pins σ H ⟨hp, g, dr, tk, os⟩) (M : MadeM hp h' e C d m) (hr : ∀ f, RelO (fs.lookup f) (m f)) :
    H d = none ∧ H e = none ∧ L2.Inv X pins σ (upd (upd H d (.xd fs)) e (ExF C (some d) e)) ⟨h', g, dr, tk', os⟩ := by
  obtain ⟨oe, fv, hoe, hc, hd, hdat, h1⟩ := M.obj
  have hns := M.ns
  obtain ⟨G', g1, g2⟩ := restrict h' fun b => decide (b ≠ e)
  have gk : ∀ b, b ≠ e → G'.get? b = h'.get? b := fun b hb => g1 b (decide_eq_true hb)
  have ge : G'.get? e = none := g2 e (by simp)
  have old : ∀ b o, hp.get? b = some o → G'.get? b = some o := fun b o q => (gk b (Nat.ne_of_lt (Nat.lt_of_lt_of_le (Heap.lt_size q) M.new))).trans (M.keep b o q)
  have ob : ObjOk X.prog X.w (upd H d (.xd fs)) G' d (.xd fs) := ⟨m, hns.at (fun o q => (gk d M.ne).trans q), hr⟩
  have J : L2.Inv X pins σ (upd H d (.xd fs)) ⟨G', g, dr, tk', os⟩ := I.laid (t' := tk') old M.big ob
  have ne : upd H d (.xd fs) e = none := by
    rw [upd_ne (Ne.symm M.ne)]
    exact I.hok.fresh M.new
  have up : ∀ b o, G'.get? b = some o → h'.get? b = some o := fun b o q => by
    by_cases hb : b = e
    · rw [hb, ge] at q
      cases q
    · exact (gk b hb).symm.trans q
  exact ⟨I.hok.fresh M.big, I.hok.fresh M.new, J.laidN (s := ⟨G', g, dr, tk', os⟩) (t' := tk') up ge ne (exF_ok hoe ⟨hc, hd⟩ hdat)⟩
end
section
variable {X : Cx} {C fI : Addr} {x : Str} {k : Nat} {p pos : Pos} {e : Expr} {es : List Expr} {kws : List Keyword} {t tk : TA} {ks kks : List Str}
/-- C(e, ..) -/
def tMkP (C : Addr) (ks : List Str) (t : TA) : TE := fun σ H Q => t σ H fun vs H1 => vs.length = ks.length ∧ ∀ e d, H1 d = none → H1 e = none → d ≠ e → Q (.ref e) (upd (upd H1 d (.xd (ks.zip vs))) e (ExF C (some d) e))
theorem pe_mkP (T : ErrC X.K X.mg x C fI) (hr : Room k X.A) (M : ∀ us : List Value, us.length = ks.length → Makes X.K C us [] fun y => (ks.zip us).lookup y) (ha : PA X (e :: es) t) (hg : Gl X x := by rfl)
    (hdb : (x == ("__debug__" : Str)) = false := by decide) (he : starEach (e :: es) X.env = (false, eval e X.env) :: starEach es X.env := by rfl) (hpl : (backTo pos (starEach es X.env)).any (·.1) = false := by rfl) :
    PE X (.Call (.Name x p) (e :: es) [] pos) (tMkP C ks t) := by
  refine ⟨fun pins s σ H Q I h => ?_⟩
  refine wpAny_Call_Name_kw (ld_glob I hg T.gC ?_ hdb)
  refine PySem.W.callWith_K (h₀ := X.base) I.ok.mod.kin T.kC (thn (ha.run pos pins s σ H _ I h) fun us s1 hh => ?_) he hpl
  obtain ⟨vs, H1, I1, r1, hl, q1⟩ := hh
  refine ⟨I1.kIn, ?_⟩
  have hlim := I1.nolimit
  obtain ⟨hp, g, dr, tk, os⟩ := s1
  have hus : us.length = ks.length := r1.length.symm.trans hl
  show wpAny _ _ (call (.ref C) us) _ _ _
  refine wpAny_call (M us hus X.prog X.w _ _ _ I1.kIn hlim (by have := hr.dp; omega) (fun h' tk' e d MM => ?_))
  obtain ⟨n1, n2, J⟩ := laid_exc (tk' := tk') I1 MM (zip_rel r1)
  exact ⟨.ref e, _, J, rfl, q1 e d n1 n2 MM.ne⟩
/-- C(k = e, ..): the fields' values by g -/
def tMkK (C : Addr) (ks : List Str) (n : Nat) (g : {α : Type} → List α → List α) (tk : TA) : TE := fun σ H Q => tk σ H fun zs H1 => zs.length = n ∧ ∀ e d, H1 d = none → H1 e = none → d ≠ e → Q (.ref e) (upd (upd H1 d (.xd (ks.zip (g zs)))) e (ExF C (some d) e))
theorem pe_mkK {g : {α : Type} → List α → List α} (T : ErrC X.K X.mg x C fI) (hr : Room k X.A) (hg2 : ∀ {vs : List V} {us : List Value}, Vals vs us → Vals (g vs) (g us))
    (M : ∀ ws : List Value, ws.length = kks.length → Makes X.K C [] (kks.zip ws) fun y => (ks.zip (g ws)).lookup y) (hkw : PK X kws tk) (hg : Gl X x := by rfl)
    (hall : (backToKw pos (keywordEach kws X.env)).all (·.1.isSome) = true := by rfl) (hks : (backToKw pos (keywordEach kws X.env)).filterMap (·.1) = kks := by rfl)
    (hdb : (x == ("__debug__" : Str)) = false := by decide)
    (hpl : ((backTo pos (starEach [] X.env)).any (·.1) || (backToKw pos (keywordEach kws X.env)).any (·.1.isNone)) = false := by rfl) :
    PE X (.Call (.Name x p) [] kws pos) (tMkK C ks kks.length g tk) := by
  refine ⟨fun pins s σ H Q I h => ?_⟩
  refine wpAny_Call_Name_kw (ld_glob I hg T.gC ?_ hdb)
  refine PySem.W.callWith_KW0 (h₀ := X.base) I.ok.mod.kin T.kC hall ?_ hpl
  refine thn (hkw.run pos pins s σ H _ I h) fun ws s2 ⟨zs, H2, I2, rz, hl, q2⟩ => ⟨I2.kIn, ?_⟩
  rw [hks]
  have hlim := I2.nolimit
  have hws : ws.length = kks.length := rz.length.symm.trans hl
  obtain ⟨hp, gg, dr, tk, os⟩ := s2
  refine wpAny_call (M ws hws X.prog X.w _ _ _ I2.kIn hlim (by have := hr.dp; omega) (fun h' tk' e d MM => ?_))
  obtain ⟨n1, n2, J⟩ := laid_exc (tk' := tk') I2 MM (zip_rel (hg2 rz))
  exact ⟨.ref e, _, J, rfl, q2 e d n1 n2 MM.ne⟩
end
end Mq

namespace Mq
open PySem PySem.Spec PyProof.Rows L2
/-! ### such a call behind raise -/
section
variable {X : Cx} {pins : List (Addr × Obj)} {σ : L2.St} {H : Hp}
theorem flown {hp h' : Heap} {g : Array GenState} {dr : Drawn} {tk tk' : Nat} {os : OsState} {e C d : Addr} {m : Str → Option Value} {fs : List (Str × V)} {Q : XK}
    (I : L2.Inv X pins σ H ⟨hp, g, dr, tk, os⟩) (M : MadeM hp h' e C d m) (hr : ∀ f, RelO (fs.lookup f) (m f)) (rs : Raises X (.ref C)) (q : Q (.ref C) (some d) (upd H d (.xd fs))) (hd : H d = none) :
    MkP X pins σ Q (.ref e) ⟨h', g, dr, tk', os⟩ := by
  obtain ⟨oe, fv, hoe, hc, hd', hdat, h1⟩ := M.obj
  have hns := M.ns
  obtain ⟨G', g1, g2⟩ := restrict h' fun b => decide (b ≠ e)
  have gk : ∀ b, b ≠ e → G'.get? b = h'.get? b := fun b hb => g1 b (decide_eq_true hb)
  have ge : G'.get? e = none := g2 e (by simp)
  have old : ∀ b o, hp.get? b = some o → G'.get? b = some o := fun b o q => (gk b (Nat.ne_of_lt (Nat.lt_of_lt_of_le (Heap.lt_size q) M.new))).trans (M.keep b o q)
  have ob : ObjOk X.prog X.w (upd H d (.xd fs)) G' d (.xd fs) := ⟨m, hns.at (fun o q => (gk d M.ne).trans q), hr⟩
  have J : L2.Inv X pins σ (upd H d (.xd fs)) ⟨G', g, dr, tk', os⟩ := I.laid (t' := tk') old M.big ob
  refine ⟨e, oe, fv, ⟨G', g, dr, tk', os⟩, _, .ref C, some d, rfl, J, (fun b o q => ?_), ge, hoe, ⟨hc, hd'⟩, hdat, h1, ?_, rfl, I.bare, rs, q⟩
  · by_cases hb : b = e
    · have q' : G'.get? b = some o := q
      rw [hb, ge] at q'
      cases q'
    · exact (gk b hb).symm.trans q
  · rw [upd_ne (Ne.symm M.ne)]
    exact I.hok.fresh M.new
end
section
variable {X : Cx} {C fI : Addr} {x : Str} {k : Nat} {p pos : Pos} {e : Expr} {es : List Expr} {kws : List Keyword} {t tk : TA} {ks kks : List Str}
def tFlP (C : Addr) (ks : List Str) (t : TA) : L2.St → Hp → XK → Prop := fun σ H Q => t σ H fun vs H1 => vs.length = ks.length ∧ ∀ d, H1 d = none → Q (.ref C) (some d) (upd H1 d (.xd (ks.zip vs)))
theorem pmkP (T : ErrC X.K X.mg x C fI) (hr : Room k X.A) (M : ∀ us : List Value, us.length = ks.length → Makes X.K C us [] fun y => (ks.zip us).lookup y) (ha : PA X (e :: es) t) (hg : Gl X x := by rfl)
    (hdb : (x == ("__debug__" : Str)) = false := by decide) (he : starEach (e :: es) X.env = (false, eval e X.env) :: starEach es X.env := by rfl) (hpl : (backTo pos (starEach es X.env)).any (·.1) = false := by rfl) :
    PMk X (.Call (.Name x p) (e :: es) [] pos) (tFlP C ks t) := by
  intro pins s σ H Q I h
  refine wpAny_Call_Name_kw (ld_glob I hg T.gC ?_ hdb)
  refine PySem.W.callWith_K (h₀ := X.base) I.ok.mod.kin T.kC (thn (ha.run pos pins s σ H _ I h) fun us s1 hh => ?_) he hpl
  obtain ⟨vs, H1, I1, r1, hl, q1⟩ := hh
  refine ⟨I1.kIn, ?_⟩
  have hlim := I1.nolimit
  obtain ⟨hp, g, dr, tk, os⟩ := s1
  have hus : us.length = ks.length := r1.length.symm.trans hl
  show wpAny _ _ (call (.ref C) us) _ _ _
  refine wpAny_call (M us hus X.prog X.w _ _ _ I1.kIn hlim (by have := hr.dp; omega) (fun h' tk' e d MM => ?_))
  exact flown I1 MM (zip_rel r1) (raises_own T.exC T.tyC) (q1 d (I1.hok.fresh MM.big)) (I1.hok.fresh MM.big)
def tFlK (C : Addr) (ks : List Str) (n : Nat) (g : {α : Type} → List α → List α) (tk : TA) : L2.St → Hp → XK → Prop := fun σ H Q => tk σ H fun zs H1 => zs.length = n ∧ ∀ d, H1 d = none → Q (.ref C) (some d) (upd H1 d (.xd (ks.zip (g zs))))
theorem pmkK {g : {α : Type} → List α → List α} (T : ErrC X.K X.mg x C fI) (hr : Room k X.A) (hg2 : ∀ {vs : List V} {us : List Value}, Vals vs us → Vals (g vs) (g us))
    (M : ∀ ws : List Value, ws.length = kks.length → Makes X.K C [] (kks.zip ws) fun y => (ks.zip (g ws)).lookup y) (hkw : PK X kws tk) (hg : Gl X x := by rfl)
    (hall : (backToKw pos (keywordEach kws X.env)).all (·.1.isSome) = true := by rfl) (hks : (backToKw pos (keywordEach kws X.env)).filterMap (·.1) = kks := by rfl)
    (hdb : (x == ("__debug__" : Str)) = false := by decide)
    (hpl : ((backTo pos (starEach [] X.env)).any (·.1) || (backToKw pos (keywordEach kws X.env)).any (·.1.isNone)) = false := by rfl) :
    PMk X (.Call (.Name x p) [] kws pos) (tFlK C ks kks.length g tk) := by
  intro pins s σ H Q I h
  refine wpAny_Call_Name_kw (ld_glob I hg T.gC ?_ hdb)
  refine PySem.W.callWith_KW0 (h₀ := X.base) I.ok.mod.kin T.kC hall ?_ hpl
  refine thn (hkw.run pos pins s σ H _ I h) fun ws s2 ⟨zs, H2, I2, rz, hl, q2⟩ => ⟨I2.kIn, ?_⟩
  rw [hks]
  have hlim := I2.nolimit
  have hws : ws.length = kks.length := rz.length.symm.trans hl
  obtain ⟨hp, gg, dr, tk, os⟩ := s2
  refine wpAny_call (M ws hws X.prog X.w _ _ _ I2.kIn hlim (by have := hr.dp; omega) (fun h' tk' e d MM => ?_))
  exact flown I2 MM (zip_rel (hg2 rz)) (raises_own T.exC T.tyC) (q2 d (I2.hok.fresh MM.big)) (I2.hok.fresh MM.big)
end
end Mq

namespace Mq
open PySem PySem.Spec PyProof.Rows L2
section
variable {X : Cx} {pins : List (Addr × Obj)} {σ : L2.St} {H : Hp} {s : Shared}
/-- repr where an error is held: only the room below counts -/
theorem call_repU' (hu : X.A.units + 200 < cLine) (gA : Still X.A) : CallR X (.builtin "repr") (rRep X.K) := by
  intro pins s σ H xs us Q I r h
  obtain ⟨v, d, rfl, hd, hs, hz, hl, q⟩ := h
  cases r with
  | cons rx rr =>
    cases rr
    obtain ⟨as, rd, hn⟩ := Dg.rd I hd rx
    have leaf : ∀ {d : PyData} {t : Tok}, Q (.str d.shown) H → EP X pins σ Q (.str d.shown t) { s with toks := s.toks + 1 } :=
      fun {d t} q => ⟨.str d.shown, H, I.tok _, ⟨_, rfl⟩, q⟩
    cases hd with
    | non =>
      cases rx
      exact PySem.P.repr_of_none (leaf (d := .none) q)
    | bl b =>
      cases rx
      exact PySem.P.repr_of_bool (leaf (d := .bool b) q)
    | int i =>
      obtain ⟨t, rfl⟩ := rx
      exact PySem.P.repr_of_int (by simpa [PyData.showable] using hs) (leaf (d := .int i) q)
    | str x =>
      obtain ⟨t, rfl⟩ := rx
      refine PySem.P.repr_of_str (leaf (d := .str x) q) ?_
      simpa only [PyData.shown] using hl
    | lst ne h1 h2 =>
      cases rx
      exact repr_of_reads' rd hs (fun _ => hn) gA (by omega) (fun _ _ e => e) (fun h' u tk k => ⟨.str _, H, I.kept k, ⟨_, rfl⟩, q⟩) hl
    | tup h1 h2 =>
      cases rx
      exact repr_of_reads' rd hs (fun _ => hn) gA (by omega) (fun _ _ e => e) (fun h' u tk k => ⟨.str _, H, I.kept k, ⟨_, rfl⟩, q⟩) hl
    | dct h1 h2 =>
      cases rx
      exact repr_of_reads' rd hs (fun _ => hn) gA (by omega) (fun _ _ e => e) (fun h' u tk k => ⟨.str _, H, I.kept k, ⟨_, rfl⟩, q⟩) hl
/-- the same, the written part named -/
theorem call_repU {K0 : PySem.W.Frag} (hK : X.K = K0) (hu : X.A.units + 200 < cLine) (gA : Still X.A) : CallR X (.builtin "repr") (rRep K0) := hK ▸ call_repU' hu gA
theorem pe_bmK {K0 : PySem.W.Frag} {e : Expr} {T : String} {r : V → List V → Hp → VK → Prop} {to : TE} {t : TA} (hK : X.K = K0) (h : PE X e (tBM X.K T r to t)) : PE X e (tBM K0 T r to t) := hK ▸ h
end
end Mq

namespace Mq
open PySem PySem.Spec PyProof.Rows L2
/-! ### error classes over a class of one's own, told by their objects -/
def ClsAt (K : PySem.W.Frag) (CM C : Addr) : Prop := ∃ nm q N bs sn sub ab col dd m0 m1 m2 m3 m5, K.lookup C = some (excClassObj nm q C N bs [.ref CM, .type "Exception", .type "BaseException", .type "object"] true sn sub ab col dd m0 m1 m2 m3 m5 "Exception.__new__")
section
variable {K : PySem.W.Frag} {CM C : Addr}
theorem ClsAt.isC (h : ClsAt K CM C) : (PySem.W.clsIn K C).isSome = true := by
  obtain ⟨_, _, _, _, _, _, _, _, _, _, _, _, _, _, h⟩ := h
  simp [PySem.W.clsIn, h, excClassObj]
theorem ClsAt.ty (h : ClsAt K CM C) : PySem.W.typeIn K (.ref C) = some (.type "type") := by
  obtain ⟨_, _, _, _, _, _, _, _, _, _, _, _, _, _, h⟩ := h
  simp [PySem.W.typeIn, h, excClassObj]
theorem ClsAt.has (h : ClsAt K CM C) : PySem.W.hasDictIn K C = true := by
  obtain ⟨_, _, _, _, _, _, _, _, _, _, _, _, _, _, h⟩ := h
  simp [PySem.W.hasDictIn, PySem.W.clsIn, h, excClassObj]
theorem ClsAt.mro (h : ClsAt K CM C) (b : Value) : PySem.W.mroIn K C b = some ((Value.ref C :: Value.ref CM :: exTail).contains b) := by
  obtain ⟨_, _, _, _, _, _, _, _, _, _, _, _, _, _, h⟩ := h
  simp [PySem.W.mroIn, PySem.W.clsIn, h, excClassObj, exTail]
theorem ClsAt.init (h : ClsAt K CM C) : PySem.W.excInitIn K C exTail "Exception.__new__" = true := by
  obtain ⟨_, _, _, _, _, _, _, _, _, _, _, _, _, _, h⟩ := h
  unfold PySem.W.excInitIn
  rw [h]
  simp [excClassObj, PySem.W.excTail, exTail]
theorem ClsAt.over (h : ClsAt K CM C) : PySem.W.excOver K C exTail = true := by
  obtain ⟨_, _, _, _, _, _, _, _, _, _, _, _, _, _, h⟩ := h
  unfold PySem.W.excOver PySem.W.clsIn
  rw [h]
  simp [excClassObj, PySem.W.excTail, exTail]
theorem ClsAt.keep (h : ClsAt K CM C) : PySem.W.keepIn K (.ref C) = true := by
  have ht := h.ty
  obtain ⟨_, _, _, _, _, _, _, _, _, _, _, _, _, _, h⟩ := h
  unfold PySem.W.keepIn
  dsimp only
  rw [h]
  dsimp only
  unfold PySem.W.specialIn
  rw [ht]
  show (fastLookup "type" "__call__" == some (some (Value.builtin "type.__call__"))) = true
  decide +kernel
theorem ClsAt.sub (h : ClsAt K CM C) (b : Value) : PySem.W.subIn K (.ref C) b = some ((Value.ref C :: Value.ref CM :: exTail).contains b) := h.mro b
theorem ref_eq (a b : Addr) : (Value.ref a == Value.ref b) = decide (a = b) := by
  by_cases h : a = b
  · subst h; simp
  · simp [h]
theorem ClsAt.kit {D : Addr} (h : ClsAt K CM C) (hD : ClsAt K CM D) (ne : D ≠ CM) : PySem.W.kitOne K (.ref C) (.ref D) = some (decide (C = D)) := by
  unfold PySem.W.kitOne
  by_cases e : C = D
  · subst e; simp
  · simp [e, PySem.W.kitCls, hD.isC, hD.ty, h.sub, exTail, Ne.symm e, ne]
theorem ClsAt.mill (h : ClsAt K CM C) (h1 : PySem.W.isClsIn K CM = true) (h2 : PySem.W.typeIn K (.ref CM) = some (.type "type")) : PySem.W.kitOne K (.ref C) (.ref CM) = some true := by
  have h1 : (PySem.W.clsIn K CM).isSome = true := h1
  unfold PySem.W.kitOne
  by_cases e : C = CM
  · subst e; simp
  · simp [e, PySem.W.kitCls, h1, h2, h.sub, exTail]
theorem ClsAt.typ (h : ClsAt K CM C) {n : String} (hm : PySem.W.kitMeta n = true) : PySem.W.kitOne K (.ref C) (.type n) = some (exTail.contains (.type n)) := by
  unfold PySem.W.kitOne
  simp [PySem.W.kitCls, hm, h.sub]
/-- what the written part says of such a class -/
structure ClsF (K : PySem.W.Frag) (CM C : Addr) : Prop where
  at_ : ClsAt K CM C
  ga : PySem.W.findIn K (.ref C) "__getattribute__" = some (some (.builtin "BaseException.__getattribute__"))
  gg : PySem.W.findIn K (.ref C) "__getattr__" = some none
  ca : PySem.W.findIn K (.ref C) "__class__" = some (some (.builtin "object.__class__"))
theorem ClsF.base (h : ClsF K CM C) : PySem.W.subIn K (.ref C) (.type "BaseException") = some true := by
  rw [h.at_.sub]
  simp [exTail]
theorem ClsF.xf (h : ClsF K CM C) : XfC K C := ⟨h.ga, h.gg, h.base, h.at_.has⟩
theorem ClsF.held (h : ClsF K CM C) (sp : PySem.W.specialIn K (.builtin "object.__class__") "__get__" = some (some (.builtin "getset_descriptor.__get__"))) (tk : PySem.W.takesIn K (.builtin "object.__class__") = some true) : HeldC K C :=
  ⟨h.at_.isC, h.ga, h.gg, h.base, h.ca, sp, tk, by rw [h.at_.mro]; simp [exTail]⟩
theorem exm_own (h : ClsF K CM C) : PySem.W.exmOne K (.ref C) (.ref C) = some true := by
  simp [PySem.W.exmOne, PySem.W.kitCls, h.at_.isC, h.at_.ty, h.at_.sub, exTail]
end
/-! ### the head's facts by a Hook of our own -/
def exB (fs : List (PySem.W.Frag → Bool)) (K : PySem.W.Frag) : Bool := fs.all fun f => f K
def obsM (n : Nat) (fn : List He.FnD) (fs : List (PySem.W.Frag → Bool)) (g : Addr → Option Obj) : He.Al × Bool :=
  (He.obsG n [] fn g, exB fs (He.frG g (He.asG g n)))
def hookM (n : Nat) (fn : List He.FnD) (fs : List (PySem.W.Frag → Bool)) : PySem.W.Hook where
  α := He.Al × Bool
  obs := fun s => obsM n fn fs s.heap.get?
  val := fun _ => (He.valE fn, true)
  says := fun _ h => ∃ K : PySem.W.Frag, K.In h ∧ He.SaysE [] fn K ∧ exB fs K = true
  of := fun w s e => ⟨He.frG s.heap.get? (He.asG s.heap.get? n), He.frG_in, congrArg Prod.fst e, congrArg Prod.snd e⟩
  keeps := fun w h h' ⟨K, a, b, c⟩ k => ⟨K, a.keeps k, b, c⟩
abbrev AlT := He.Al × Bool
theorem obsM_eq {n : Nat} {fn : List He.FnD} {fs : List (PySem.W.Frag → Bool)} {g : Addr → Option Obj} {s : Shared} (h : ∀ a, g a = s.heap.get? a) : obsM n fn fs g = (hookM n fn fs).obs s := by
  have e : g = s.heap.get? := funext h
  rw [e]
  rfl
theorem exAt {fs : List (PySem.W.Frag → Bool)} {K : PySem.W.Frag} (h : exB fs K = true) (i : Nat) {f : PySem.W.Frag → Bool} (e : fs[i]? = some f) : f K = true := List.all_eq_true.mp h f (List.mem_of_getElem? e)
def fFind (x n : Str) (v : Option Value) : PySem.W.Frag → Bool := fun K => He.eqO (PySem.W.findIn K (.ref (He.ga K x)) n) (some v)
def fInit (x : Str) : PySem.W.Frag → Bool := fun K => He.eqO (PySem.W.findIn K (.ref (He.ga K x)) "__init__") (some (some (.ref (He.ma K (He.ga K x) "__init__"))))
def fGlo (x : Str) : PySem.W.Frag → Bool := fun K => He.eqO (PySem.W.nsIn K mainGlobals x) (some (some (.ref (He.ga K x))))
def fFree (x : Str) : PySem.W.Frag → Bool := fun K => He.eqO (PySem.W.nsIn K mainGlobals x) (some none)
def fExc (x : Str) : PySem.W.Frag → Bool := fun K => PySem.W.excIn K (He.ga K x) exTail "Exception.__new__"
def clsB (K : PySem.W.Frag) (CM C : Addr) : Bool :=
  match K.lookup C with
  | some ⟨.type T, _, .cls cd, sl⟩ => decide (T = "type") && cd.hasDict && !cd.hasDel &&
      (match cd.mro with
       | [.ref a, .ref b, .type t1, .type t2, .type t3] => decide (a = C) && decide (b = CM) && decide (t1 = "Exception") && decide (t2 = "BaseException") && decide (t3 = "object")
       | _ => false) &&
      (match sl.toList with
       | [_, _, _, _, some (.builtin n), _] => decide (n = "Exception.__new__")
       | _ => false)
  | _ => false
def fCls (x : Str) : PySem.W.Frag → Bool := fun K => clsB K (He.ga K "MillError") (He.ga K x)
def fnB (K : PySem.W.Frag) (f : Addr) : Bool :=
  match K.lookup f with
  | some ⟨.type T, _, .func fd, _⟩ => decide (T = "function") && (match fd.kwdefaults with | .none => true | _ => false)
  | _ => false
def fFn (x : Str) : PySem.W.Frag → Bool := fun K => fnB K (He.ma K (He.ga K x) "__init__")
theorem clsB_ok {K : PySem.W.Frag} {CM C : Addr} (h : clsB K CM C = true) : ClsAt K CM C := by
  unfold clsB at h
  split at h
  · rename_i T dd cd sl hl
    obtain ⟨nm, bs, mro, N, qn, hd, sn, sub, ab, col, hdel⟩ := cd
    simp only [Bool.and_eq_true] at h
    obtain ⟨⟨⟨⟨h1, h2⟩, h3⟩, h4⟩, h5⟩ := h
    split at h4
    · simp only [Bool.and_eq_true, decide_eq_true_eq] at h4
      obtain ⟨⟨⟨⟨a1, a2⟩, a3⟩, a4⟩, a5⟩ := h4
      split at h5
      · rename_i m0 m1 m2 m3 n m5 hs
        have hs' := congrArg List.toArray hs
        rw [Array.toArray_toList] at hs'
        have e1 := of_decide_eq_true h1
        have e5 := of_decide_eq_true h5
        simp only [Bool.not_eq_true'] at h3
        subst e1 a1 a2 a3 a4 a5 e5 hs' h3
        have h2' : hd = true := h2
        subst h2'
        exact ⟨_, _, _, _, _, _, _, _, _, _, _, _, _, _, hl⟩
      · cases h5
    · cases h4
  · cases h
theorem fnB_ok {K : PySem.W.Frag} {f : Addr} {oc kV dV doc pm cd ct : Value} {od an : Option Addr} {osl : Array (Option Value)} {nm q : Str} {a : Arguments} {b : List Stmt} {s : Scope}
    (h : fnB K f = true) (l : K.lookup f = some ⟨oc, od, .func (PySem.W.fnOf nm q a b s dV kV doc pm an cd ct), osl⟩) : oc = .type "function" ∧ kV = .none := by
  unfold fnB at h
  rw [l] at h
  split at h
  · rename_i hh
    cases hh
    simp only [Bool.and_eq_true] at h
    obtain ⟨h1, h2⟩ := h
    refine ⟨by rw [of_decide_eq_true h1], ?_⟩
    split at h2
    · rfl
    · cases h2
  · cases h
theorem keep_fn {K : PySem.W.Frag} {f : Addr} {oc : Value} {od : Option Addr} {g : FuncData} {osl : Array (Option Value)} (l : K.lookup f = some ⟨oc, od, .func g, osl⟩) : PySem.W.keepIn K (.ref f) = true := by
  unfold PySem.W.keepIn
  dsimp only
  rw [l]
theorem walk_ofGE {l : PySem.W.OpenLaw} {n k : Nat} {q : Program} {loose : List Str}
    {XP : (Str → Option Value) → Heap → Prop} {YP : World → Heap → Prop} {d : DefRec} {CX : CXT} {x : Str}
    (hn : l.most = some n) (hn2 : n ≤ sizeLine) (hdf : d.params.defaults = []) (hr : Room k callerA)
    (F : ∀ (w : World) (mg : Str → Option Value) (fa : Addr) (h : Heap), YP w h → h.Ns mainGlobals mg → mg d.name = some (.ref fa) →
      ∃ (K : PySem.W.Frag) (fd : FuncData) (sp : Sp), K.In h ∧ (∀ (s : Shared) (u : Value), BindsTo s fd ⟨[u], []⟩ [(x, u)]) ∧
        (∀ (H : Hp) (a : Addr) (ns : List Int), ns.length ≤ n → Only H → SqL K H a (ns.map V.int) → sp [.ref a] H (fun v _ => v = .bl true) fun _ _ _ => False) ∧
        ∀ base : Heap, K.In base → base.Ns mainGlobals mg → FnG l.prog w K mg base CX k fa fd [x] sp)
    (hCX : ∀ (H : Hp) (s : Shared) (e : Value) (s' : Shared), CX [] H s (fun _ _ _ => False) e s' → False) :
    PySem.W.WalkO q loose XP YP l.row.toRowW d [] (fun f vs => PySem.call f vs) := by
  refine Att.attach_call hn hdf ?_
  intro w s₀ s₁ mg mb fa o pm cd doc a vs ns G Y ho hd hcd hmg hobj hints hlen hg
  obtain ⟨K, fd, sp, KX, hb, hsp, hF⟩ := F w mg fa _ Y G.T.g hmg
  exact law_callG KX G.T.g G.T.b G.T.builtins G.T.nolimit hg hobj hints (Nat.le_trans hlen hn2) hr hF hb
    (fun H hO hS => hsp H a ns hlen hO hS) (fun H e s' => hCX H s₁ e s')
theorem glo_of {K : PySem.W.Frag} {x : Str} (h : fGlo x K = true) : PySem.W.nsIn K mainGlobals x = some (some (.ref (He.ga K x))) := He.eqO_ok h
theorem free_of {K : PySem.W.Frag} {x : Str} (h : fFree x K = true) : PySem.W.nsIn K mainGlobals x = some none := He.eqO_ok h
theorem find_of {K : PySem.W.Frag} {x n : Str} {v : Option Value} (h : fFind x n v K = true) : PySem.W.findIn K (.ref (He.ga K x)) n = some v := He.eqO_ok h
theorem init_of {K : PySem.W.Frag} {x : Str} (h : fInit x K = true) : PySem.W.findIn K (.ref (He.ga K x)) "__init__" = some (some (.ref (He.ma K (He.ga K x) "__init__"))) := He.eqO_ok h
theorem cls_of {K : PySem.W.Frag} {x : Str} (h : fCls x K = true) : ClsAt K (He.ga K "MillError") (He.ga K x) := clsB_ok h
theorem exc_of {K : PySem.W.Frag} {x : Str} (h : fExc x K = true) : PySem.W.excIn K (He.ga K x) exTail "Exception.__new__" = true := h
/-! ### further facts -/
def fMeth (x n : Str) : PySem.W.Frag → Bool := fun K => He.eqO (PySem.W.findIn K (.ref (He.ga K x)) n) (some (some (.ref (He.ma K (He.ga K x) n)))) && PySem.W.isFn K (.ref (He.ma K (He.ga K x) n))
theorem meth_of {K : PySem.W.Frag} {x n : Str} (h : fMeth x n K = true) : PySem.W.findIn K (.ref (He.ga K x)) n = some (some (.ref (He.ma K (He.ga K x) n))) ∧ PySem.W.isFn K (.ref (He.ma K (He.ga K x) n)) = true := by
  obtain ⟨a, b⟩ := Bool.and_eq_true_iff.mp h
  exact ⟨He.eqO_ok a, b⟩
/-- a class of one's own, its objects made and read plainly -/
def fOwn (x : Str) : PySem.W.Frag → Bool := fun K => PySem.W.plainGet K (He.ga K x) Str.empty && (PySem.W.hasDictIn K (He.ga K x) && (PySem.W.plainOver K (He.ga K x) && (PySem.W.makesIn K (He.ga K x) && PySem.W.keepIn K (.ref (He.ga K x)))))
theorem own_of {K : PySem.W.Frag} {x : Str} (h : fOwn x K = true) : PySem.W.plainGet K (He.ga K x) Str.empty = true ∧ PySem.W.hasDictIn K (He.ga K x) = true ∧ PySem.W.plainOver K (He.ga K x) = true ∧ PySem.W.makesIn K (He.ga K x) = true ∧ PySem.W.keepIn K (.ref (He.ga K x)) = true := by
  obtain ⟨a, h⟩ := Bool.and_eq_true_iff.mp h
  obtain ⟨b, h⟩ := Bool.and_eq_true_iff.mp h
  obtain ⟨c, h⟩ := Bool.and_eq_true_iff.mp h
  obtain ⟨d, e⟩ := Bool.and_eq_true_iff.mp h
  exact ⟨a, b, c, d, e⟩
def fTxt (x v : Str) : PySem.W.Frag → Bool := fun K => match PySem.W.nsIn K mainGlobals x with
  | some (some (.str y _)) => decide (y = v)
  | _ => false
theorem txt_of {K : PySem.W.Frag} {x v : Str} (h : fTxt x v K = true) : ∃ t, PySem.W.nsIn K mainGlobals x = some (some (.str v t)) := by
  unfold fTxt at h
  split at h
  · rename_i y t e
    have := of_decide_eq_true h
    subst this
    exact ⟨t, e⟩
  · cases h
def fExm (x y : Str) (b : Bool) : PySem.W.Frag → Bool := fun K => decide (PySem.W.exmOne K (.ref (He.ga K x)) (.ref (He.ga K y)) = some b)
theorem exm_of {K : PySem.W.Frag} {x y : Str} {b : Bool} (h : fExm x y b K = true) : PySem.W.exmOne K (.ref (He.ga K x)) (.ref (He.ga K y)) = some b := of_decide_eq_true h
def fKit (x y : Str) (b : Bool) : PySem.W.Frag → Bool := fun K => decide (PySem.W.kitOne K (.ref (He.ga K x)) (.ref (He.ga K y)) = some b)
theorem kit_of {K : PySem.W.Frag} {x y : Str} {b : Bool} (h : fKit x y b K = true) : PySem.W.kitOne K (.ref (He.ga K x)) (.ref (He.ga K y)) = some b := of_decide_eq_true h
def fMro (x : Str) : PySem.W.Frag → Bool := fun K => decide (PySem.W.mroIn K (He.ga K x) (.type "object") = some true)
theorem mro_of {K : PySem.W.Frag} {x : Str} (h : fMro x K = true) : PySem.W.mroIn K (He.ga K x) (.type "object") = some true := of_decide_eq_true h
def fSp : PySem.W.Frag → Bool := fun K => He.eqO (PySem.W.specialIn K (.builtin "object.__class__") "__get__") (some (some (.builtin "getset_descriptor.__get__")))
theorem sp_of {K : PySem.W.Frag} (h : fSp K = true) : PySem.W.specialIn K (.builtin "object.__class__") "__get__" = some (some (.builtin "getset_descriptor.__get__")) := He.eqO_ok h
def fTk : PySem.W.Frag → Bool := fun K => decide (PySem.W.takesIn K (.builtin "object.__class__") = some true)
theorem tk_of {K : PySem.W.Frag} (h : fTk K = true) : PySem.W.takesIn K (.builtin "object.__class__") = some true := of_decide_eq_true h
def fMill : PySem.W.Frag → Bool := fun K => PySem.W.isClsIn K (He.ga K "MillError") && decide (PySem.W.typeIn K (.ref (He.ga K "MillError")) = some (.type "type"))
theorem mill_of {K : PySem.W.Frag} (h : fMill K = true) : PySem.W.isClsIn K (He.ga K "MillError") = true ∧ PySem.W.typeIn K (.ref (He.ga K "MillError")) = some (.type "type") := by
  obtain ⟨a, b⟩ := Bool.and_eq_true_iff.mp h
  exact ⟨a, of_decide_eq_true b⟩
end Mq

namespace Mq
open PySem PySem.Spec PyProof.Rows L2
/-! ### properties among the head's facts; whole numbers and kinds at the top -/
/-- where the getter of the property m of the class x stands -/
def pgA (K : PySem.W.Frag) (x m : Str) : Addr :=
  match PySem.W.recIn K (He.ma K (He.ga K x) m) "property" with
  | some (.ref g :: _) => g
  | _ => 0
def fnRd (K : PySem.W.Frag) (f : Addr) : He.FnV :=
  match K.lookup f with
  | some ⟨_, _, .func fd, _⟩ => some (fd.name, fd.qualname, fd.params, fd.body, fd.scope, fd.globals, fd.closure, fd.defaults, fd.builtins)
  | _ => none
def prObs (K : PySem.W.Frag) (p : Str × Option Str) : He.FnV :=
  match p.2 with
  | some m => fnRd K (pgA K p.1 m)
  | none => none
theorem fnRd_ok {K : PySem.W.Frag} {f : Addr} {nm q : Str} {a : Arguments} {b : List Stmt} {s : Scope} (h : fnRd K f = some (nm, q, a, FuncBody.stmts b, s, mainGlobals, [], Value.none, builtinsNs)) :
    ∃ (oc : Value) (od : Option Addr) (osl : Array (Option Value)) (kV doc pm : Value) (an : Option Addr) (cdv ct : Value), K.lookup f = some ⟨oc, od, .func (PySem.W.fnOf nm q a b s .none kV doc pm an cdv ct), osl⟩ := by
  unfold fnRd at h
  split at h
  · rename_i oc od fd osl e
    obtain ⟨n1, n2, n3, n4, n5, n6, n7, n8, n9, n10, n11, n12, n13, n14, n15⟩ := fd
    simp only [Option.some.injEq, Prod.mk.injEq] at h
    obtain ⟨rfl, rfl, rfl, rfl, rfl, rfl, rfl, rfl, rfl⟩ := h
    exact ⟨oc, od, osl, _, _, _, _, _, _, e⟩
  · cases h
theorem prop_def {K : PySem.W.Frag} {pr : List He.FnD} (h : pr.map (fun d => prObs K d.at_) = pr.map He.FnD.val) (i : Nat) {x m nm q : Str} {a : Arguments} {b : List Stmt} {s : Scope} (e : pr[i]? = some ⟨(x, some m), nm, q, a, b, s⟩) :
    ∃ (oc : Value) (od : Option Addr) (osl : Array (Option Value)) (kV doc pm : Value) (an : Option Addr) (cdv ct : Value), K.lookup (pgA K x m) = some ⟨oc, od, .func (PySem.W.fnOf nm q a b s .none kV doc pm an cdv ct), osl⟩ := by
  have h1 := congrArg (fun l => l[i]?) h
  simp only [List.getElem?_map, e, Option.map_some, Option.some.injEq] at h1
  exact fnRd_ok h1
def recB (K : PySem.W.Frag) (p : Addr) : Bool :=
  match PySem.W.recIn K p "property" with
  | some (.ref _ :: _) => true
  | _ => false
def fProp (x m : Str) : PySem.W.Frag → Bool := fun K => He.eqO (PySem.W.findIn K (.ref (He.ga K x)) m) (some (some (.ref (He.ma K (He.ga K x) m)))) &&
  (He.eqO (PySem.W.specialIn K (.ref (He.ma K (He.ga K x) m)) "__get__") (some (some (.builtin "property.__get__"))) && (decide (PySem.W.takesIn K (.ref (He.ma K (He.ga K x) m)) = some true) && recB K (He.ma K (He.ga K x) m)))
theorem prop_of {K : PySem.W.Frag} {x m : Str} (h : fProp x m K = true) : PropOf K (He.ga K x) m (He.ma K (He.ga K x) m) (pgA K x m) := by
  obtain ⟨a, h⟩ := Bool.and_eq_true_iff.mp h
  obtain ⟨b, h⟩ := Bool.and_eq_true_iff.mp h
  obtain ⟨c, d⟩ := Bool.and_eq_true_iff.mp h
  refine ⟨He.eqO_ok a, He.eqO_ok b, of_decide_eq_true c, ?_⟩
  unfold recB at d
  unfold pgA
  split at d
  · rename_i g rest e
    rw [e]
    exact ⟨rest, rfl⟩
  · cases d
def fPrc (x m q : Str) : PySem.W.Frag → Bool := fun K =>
  match K.lookup (pgA K x m) with
  | some ⟨_, _, .func fd, _⟩ => PySem.W.codeIn K fd.code q
  | _ => false
theorem prc_of {K : PySem.W.Frag} {x m q : Str} {oc : Value} {od : Option Addr} {fd : FuncData} {osl : Array (Option Value)} (h : fPrc x m q K = true) (e : K.lookup (pgA K x m) = some ⟨oc, od, .func fd, osl⟩) : PySem.W.codeIn K fd.code q = true := by
  unfold fPrc at h
  rw [e] at h
  exact h
def fInt (x : Str) (v : Int) : PySem.W.Frag → Bool := fun K => match PySem.W.nsIn K mainGlobals x with
  | some (some (.int y _)) => decide (y = v)
  | _ => false
theorem int_of {K : PySem.W.Frag} {x : Str} {v : Int} (h : fInt x v K = true) : ∃ t, PySem.W.nsIn K mainGlobals x = some (some (.int v t)) := by
  unfold fInt at h
  split at h
  · rename_i y t e
    have := of_decide_eq_true h
    subst this
    exact ⟨t, e⟩
  · cases h
def fKitT (x : Str) (T : String) (b : Bool) : PySem.W.Frag → Bool := fun K => decide (PySem.W.kitOne K (.ref (He.ga K x)) (.type T) = some b)
theorem kitT_of {K : PySem.W.Frag} {x : Str} {T : String} {b : Bool} (h : fKitT x T b K = true) : PySem.W.kitOne K (.ref (He.ga K x)) (.type T) = some b := of_decide_eq_true h
abbrev AlP := (He.Al × Bool) × List He.FnV
def obsP (n : Nat) (fn pr : List He.FnD) (fs : List (PySem.W.Frag → Bool)) (g : Addr → Option Obj) : AlP :=
  (obsM n fn fs g, pr.map fun d => prObs (He.frG g (He.asG g n)) d.at_)
def hookP (n : Nat) (fn pr : List He.FnD) (fs : List (PySem.W.Frag → Bool)) : PySem.W.Hook where
  α := (He.Al × Bool) × List He.FnV
  obs := fun s => obsP n fn pr fs s.heap.get?
  val := fun _ => ((He.valE fn, true), pr.map He.FnD.val)
  says := fun _ h => ∃ K : PySem.W.Frag, K.In h ∧ He.SaysE [] fn K ∧ exB fs K = true ∧ pr.map (fun d => prObs K d.at_) = pr.map He.FnD.val
  of := fun w s e => ⟨He.frG s.heap.get? (He.asG s.heap.get? n), He.frG_in, congrArg (fun z : AlP => z.1.1) e, congrArg (fun z : AlP => z.1.2) e, congrArg Prod.snd e⟩
  keeps := fun w h h' ⟨K, a, b, c⟩ k => ⟨K, a.keeps k, b, c⟩
theorem obsP_eq {n : Nat} {fn pr : List He.FnD} {fs : List (PySem.W.Frag → Bool)} {g : Addr → Option Obj} {s : Shared} (h : ∀ a, g a = s.heap.get? a) : obsP n fn pr fs g = (hookP n fn pr fs).obs s := by
  have e : g = s.heap.get? := funext h
  rw [e]
  rfl
end Mq

namespace Mq
open PySem PySem.Spec PyProof.Rows L2
/-! ### classmethods among the head's facts -/
def cmA (K : PySem.W.Frag) (x m : Str) : Addr :=
  match PySem.W.recIn K (He.ma K (He.ga K x) m) "classmethod" with
  | some (.ref g :: _) => g
  | _ => 0
def cmObs (K : PySem.W.Frag) (p : Str × Option Str) : He.FnV :=
  match p.2 with
  | some m => fnRd K (cmA K p.1 m)
  | none => none
theorem cm_def {K : PySem.W.Frag} {pr : List He.FnD} (h : pr.map (fun d => cmObs K d.at_) = pr.map He.FnD.val) (i : Nat) {x m nm q : Str} {a : Arguments} {b : List Stmt} {s : Scope} (e : pr[i]? = some ⟨(x, some m), nm, q, a, b, s⟩) :
    ∃ (oc : Value) (od : Option Addr) (osl : Array (Option Value)) (kV doc pm : Value) (an : Option Addr) (cdv ct : Value), K.lookup (cmA K x m) = some ⟨oc, od, .func (PySem.W.fnOf nm q a b s .none kV doc pm an cdv ct), osl⟩ := by
  have h1 := congrArg (fun l => l[i]?) h
  simp only [List.getElem?_map, e, Option.map_some, Option.some.injEq] at h1
  exact fnRd_ok h1
def recC (K : PySem.W.Frag) (p : Addr) : Bool :=
  match PySem.W.recIn K p "classmethod" with
  | some (.ref _ :: _) => true
  | _ => false
def fRead (x : Str) : PySem.W.Frag → Bool := fun K => PySem.W.readsIn K (He.ga K x) (.type "type") && He.eqO (PySem.W.specialIn K (.ref (He.ga K x)) "__getattribute__") (some (some (.builtin "type.__getattribute__")))
theorem read_of {K : PySem.W.Frag} {x : Str} (h : fRead x K = true) : ClX.CRead K (He.ga K x) (.type "type") := by
  obtain ⟨a, b⟩ := Bool.and_eq_true_iff.mp h
  exact ⟨a, He.eqO_ok b⟩
def fCm (x m : Str) : PySem.W.Frag → Bool := fun K =>
  (match PySem.W.findCls K (.ref (He.ga K x)) (.type "type") m with
  | some (.get (.builtin t) (.ref q) .none (.ref c)) => decide (t = "classmethod.__get__") && (decide (q = He.ma K (He.ga K x) m) && decide (c = He.ga K x))
  | _ => false) && (recC K (He.ma K (He.ga K x) m) && PySem.W.fnIn K (cmA K x m))
theorem cm_of {K : PySem.W.Frag} {x m : Str} (h : fCm x m K = true) : ClX.CMet K (He.ga K x) (.type "type") m (He.ma K (He.ga K x) m) (cmA K x m) := by
  obtain ⟨a, h⟩ := Bool.and_eq_true_iff.mp h
  obtain ⟨b, c⟩ := Bool.and_eq_true_iff.mp h
  refine ⟨?_, ?_, c⟩
  · split at a
    · rename_i t q d e
      obtain ⟨a1, a2⟩ := Bool.and_eq_true_iff.mp a
      obtain ⟨a2, a3⟩ := Bool.and_eq_true_iff.mp a2
      rw [e, of_decide_eq_true a1, of_decide_eq_true a2, of_decide_eq_true a3]
    · cases a
  · unfold recC at b
    unfold cmA
    split at b
    · rename_i g rest e
      rw [e]
      exact ⟨rest, rfl⟩
    · cases b
def fCmc (x m q : Str) : PySem.W.Frag → Bool := fun K =>
  match K.lookup (cmA K x m) with
  | some ⟨_, _, .func fd, _⟩ => PySem.W.codeIn K fd.code q
  | _ => false
theorem cmc_of {K : PySem.W.Frag} {x m q : Str} {oc : Value} {od : Option Addr} {fd : FuncData} {osl : Array (Option Value)} (h : fCmc x m q K = true) (e : K.lookup (cmA K x m) = some ⟨oc, od, .func fd, osl⟩) : PySem.W.codeIn K fd.code q = true := by
  unfold fCmc at h
  rw [e] at h
  exact h
/-- the fragment, the statics among it -/
def frC (g : Addr → Option Obj) (n : Nat) : PySem.W.Frag := He.frG g (cStatics :: He.asG g n)
def obsC (n : Nat) (fn pr : List He.FnD) (fs : List (PySem.W.Frag → Bool)) (g : Addr → Option Obj) : AlP :=
  ((He.obsE [] fn (frC g n), exB fs (frC g n)), pr.map fun d => cmObs (frC g n) d.at_)
def hookC (n : Nat) (fn pr : List He.FnD) (fs : List (PySem.W.Frag → Bool)) : PySem.W.Hook where
  α := (He.Al × Bool) × List He.FnV
  obs := fun s => obsC n fn pr fs s.heap.get?
  val := fun _ => ((He.valE fn, true), pr.map He.FnD.val)
  says := fun _ h => ∃ K : PySem.W.Frag, K.In h ∧ He.SaysE [] fn K ∧ exB fs K = true ∧ pr.map (fun d => cmObs K d.at_) = pr.map He.FnD.val
  of := fun w s e => ⟨frC s.heap.get? n, He.frG_in, congrArg (fun z : AlP => z.1.1) e, congrArg (fun z : AlP => z.1.2) e, congrArg Prod.snd e⟩
  keeps := fun w h h' ⟨K, a, b, c⟩ k => ⟨K, a.keeps k, b, c⟩
theorem obsC_eq {n : Nat} {fn pr : List He.FnD} {fs : List (PySem.W.Frag → Bool)} {g : Addr → Option Obj} {s : Shared} (h : ∀ a, g a = s.heap.get? a) : obsC n fn pr fs g = (hookC n fn pr fs).obs s := by
  have e : g = s.heap.get? := funext h
  rw [e]
  rfl
end Mq

namespace Lw
open PySem PySem.Spec PyProof.Rows L2 Mq
open SX (S)
theorem all_mk {P : Program} {w : World} {K : PySem.W.Frag} {h : Heap} {mg : Str → Option Value} {fa CM : Addr} (X : K.In h) (G : h.Ns mainGlobals mg) (hfa : mg "law" = some (.ref fa))
    (aM : PySem.W.nsIn K mainGlobals "MillError" = some (some (.ref CM)))
    (mill : PySem.W.isClsIn K CM = true ∧ PySem.W.typeIn K (.ref CM) = some (.type "type"))
    (sp : PySem.W.specialIn K (.builtin "object.__class__") "__get__" = some (some (.builtin "getset_descriptor.__get__")))
    (tk : PySem.W.takesIn K (.builtin "object.__class__") = some true)
    {CT FT : Addr}
    (aT : PySem.W.nsIn K mainGlobals "BadText" = some (some (.ref CT)))
    (xT : ClsAt K CM CT)
    (gaT : PySem.W.findIn K (.ref CT) "__getattribute__" = some (some (.builtin "BaseException.__getattribute__")))
    (ggT : PySem.W.findIn K (.ref CT) "__getattr__" = some none)
    (caT : PySem.W.findIn K (.ref CT) "__class__" = some (some (.builtin "object.__class__")))
    (wsT : PySem.W.findIn K (.ref CT) "__setattr__" = some (some (.builtin "object.__setattr__")))
    (ntT : PySem.W.findIn K (.ref CT) "line" = some none)
    (wiT : PySem.W.findIn K (.ref CT) "__init__" = some (some (.ref FT)))
    {odET anET : Option Addr} {slET : Array (Option Value)} {dcET pmET cdET ctET : Value}
    (lET : K.lookup FT = some ⟨.type "function", odET, .func (PySem.W.fnOf "__init__" "BadText.__init__" (MqE_line.iA ⟨6, 17, 6, 21⟩ ⟨6, 23, 6, 27⟩) (MqE_line.iB ⟨7, 8, 7, 12⟩ ⟨7, 8, 7, 17⟩ ⟨7, 20, 7, 24⟩ ⟨7, 8, 7, 24⟩) MqE_line.iS .none .none dcET pmET anET cdET ctET), slET⟩)
    (cET : PySem.W.codeIn K cdET "BadText.__init__" = true)
    (i_MOST_FIGURES : ∃ t, PySem.W.nsIn K mainGlobals "MOST_FIGURES" = some (some (.int 4300 t)))
    {f0 : Addr} {od0 an0 : Option Addr} {sl0 : Array (Option Value)} {oc0 kV0 dc0 pm0 cd0 ct0 : Value}
    (a0 : PySem.W.nsIn K mainGlobals "is_letter" = some (some (.ref f0)))
    (l0 : K.lookup f0 = some ⟨oc0, od0, .func (PySem.W.fnOf "is_letter" "is_letter" (defArgs s_is_letter) (defBody s_is_letter) (defScope s_is_letter) .none kV0 dc0 pm0 an0 cd0 ct0), sl0⟩)
    (c0 : PySem.W.codeIn K cd0 "is_letter" = true)
    {f1 : Addr} {od1 an1 : Option Addr} {sl1 : Array (Option Value)} {oc1 kV1 dc1 pm1 cd1 ct1 : Value}
    (a1 : PySem.W.nsIn K mainGlobals "is_ascending" = some (some (.ref f1)))
    (l1 : K.lookup f1 = some ⟨oc1, od1, .func (PySem.W.fnOf "is_ascending" "is_ascending" (defArgs s_is_ascending) (defBody s_is_ascending) (defScope s_is_ascending) .none kV1 dc1 pm1 an1 cd1 ct1), sl1⟩)
    (c1 : PySem.W.codeIn K cd1 "is_ascending" = true)
    {f2 : Addr} {od2 an2 : Option Addr} {sl2 : Array (Option Value)} {oc2 kV2 dc2 pm2 cd2 ct2 : Value}
    (a2 : PySem.W.nsIn K mainGlobals "integer_read" = some (some (.ref f2)))
    (l2 : K.lookup f2 = some ⟨oc2, od2, .func (PySem.W.fnOf "integer_read" "integer_read" (defArgs s_integer_read) (defBody s_integer_read) (defScope s_integer_read) .none kV2 dc2 pm2 an2 cd2 ct2), sl2⟩)
    (c2 : PySem.W.codeIn K cd2 "integer_read" = true)
    {f3 : Addr} {od3 an3 : Option Addr} {sl3 : Array (Option Value)} {oc3 kV3 dc3 pm3 cd3 ct3 : Value}
    (a3 : PySem.W.nsIn K mainGlobals "is_item" = some (some (.ref f3)))
    (l3 : K.lookup f3 = some ⟨oc3, od3, .func (PySem.W.fnOf "is_item" "is_item" (defArgs s_is_item) (defBody s_is_item) (defScope s_is_item) .none kV3 dc3 pm3 an3 cd3 ct3), sl3⟩)
    (c3 : PySem.W.codeIn K cd3 "is_item" = true)
    {f4 : Addr} {od4 an4 : Option Addr} {sl4 : Array (Option Value)} {oc4 kV4 dc4 pm4 cd4 ct4 : Value}
    (a4 : PySem.W.nsIn K mainGlobals "is_weft" = some (some (.ref f4)))
    (l4 : K.lookup f4 = some ⟨oc4, od4, .func (PySem.W.fnOf "is_weft" "is_weft" (defArgs s_is_weft) (defBody s_is_weft) (defScope s_is_weft) .none kV4 dc4 pm4 an4 cd4 ct4), sl4⟩)
    (c4 : PySem.W.codeIn K cd4 "is_weft" = true)
    {f5 : Addr} {od5 an5 : Option Addr} {sl5 : Array (Option Value)} {oc5 kV5 dc5 pm5 cd5 ct5 : Value}
    (a5 : PySem.W.nsIn K mainGlobals "weft_text" = some (some (.ref f5)))
    (l5 : K.lookup f5 = some ⟨oc5, od5, .func (PySem.W.fnOf "weft_text" "weft_text" (defArgs s_weft_text) (defBody s_weft_text) (defScope s_weft_text) .none kV5 dc5 pm5 an5 cd5 ct5), sl5⟩)
    (c5 : PySem.W.codeIn K cd5 "weft_text" = true)
    {f6 : Addr} {od6 an6 : Option Addr} {sl6 : Array (Option Value)} {oc6 kV6 dc6 pm6 cd6 ct6 : Value}
    (a6 : PySem.W.nsIn K mainGlobals "log_text" = some (some (.ref f6)))
    (l6 : K.lookup f6 = some ⟨oc6, od6, .func (PySem.W.fnOf "log_text" "log_text" (defArgs s_log_text) (defBody s_log_text) (defScope s_log_text) .none kV6 dc6 pm6 an6 cd6 ct6), sl6⟩)
    (c6 : PySem.W.codeIn K cd6 "log_text" = true)
    {f7 : Addr} {od7 an7 : Option Addr} {sl7 : Array (Option Value)} {oc7 kV7 dc7 pm7 cd7 ct7 : Value}
    (a7 : PySem.W.nsIn K mainGlobals "lot_line" = some (some (.ref f7)))
    (l7 : K.lookup f7 = some ⟨oc7, od7, .func (PySem.W.fnOf "lot_line" "lot_line" (defArgs s_lot_line) (defBody s_lot_line) (defScope s_lot_line) .none kV7 dc7 pm7 an7 cd7 ct7), sl7⟩)
    (c7 : PySem.W.codeIn K cd7 "lot_line" = true)
    {f8 : Addr} {od8 an8 : Option Addr} {sl8 : Array (Option Value)} {oc8 kV8 dc8 pm8 cd8 ct8 : Value}
    (a8 : PySem.W.nsIn K mainGlobals "log_read" = some (some (.ref f8)))
    (l8 : K.lookup f8 = some ⟨oc8, od8, .func (PySem.W.fnOf "log_read" "log_read" (defArgs s_log_read) (defBody s_log_read) (defScope s_log_read) .none kV8 dc8 pm8 an8 cd8 ct8), sl8⟩)
    (c8 : PySem.W.codeIn K cd8 "log_read" = true)
    {f9 : Addr} {od9 an9 : Option Addr} {sl9 : Array (Option Value)} {oc9 kV9 dc9 pm9 cd9 ct9 : Value}
    (a9 : PySem.W.nsIn K mainGlobals "lot_read" = some (some (.ref f9)))
    (l9 : K.lookup f9 = some ⟨oc9, od9, .func (PySem.W.fnOf "lot_read" "lot_read" (defArgs s_lot_read) (defBody s_lot_read) (defScope s_lot_read) .none kV9 dc9 pm9 an9 cd9 ct9), sl9⟩)
    (c9 : PySem.W.codeIn K cd9 "lot_read" = true)
    {f10 : Addr} {od10 an10 : Option Addr} {sl10 : Array (Option Value)} {oc10 kV10 dc10 pm10 cd10 ct10 : Value}
    (a10 : PySem.W.nsIn K mainGlobals "earlier_read" = some (some (.ref f10)))
    (l10 : K.lookup f10 = some ⟨oc10, od10, .func (PySem.W.fnOf "earlier_read" "earlier_read" (defArgs s_earlier_read) (defBody s_earlier_read) (defScope s_earlier_read) .none kV10 dc10 pm10 an10 cd10 ct10), sl10⟩)
    (c10 : PySem.W.codeIn K cd10 "earlier_read" = true)
    {f11 : Addr} {od11 an11 : Option Addr} {sl11 : Array (Option Value)} {oc11 kV11 dc11 pm11 cd11 ct11 : Value}
    (a11 : PySem.W.nsIn K mainGlobals "_law_deck" = some (some (.ref f11)))
    (l11 : K.lookup f11 = some ⟨oc11, od11, .func (PySem.W.fnOf "_law_deck" "_law_deck" (defArgs s__law_deck) (defBody s__law_deck) (defScope s__law_deck) .none kV11 dc11 pm11 an11 cd11 ct11), sl11⟩)
    (c11 : PySem.W.codeIn K cd11 "_law_deck" = true)
    {f12 : Addr} {od12 an12 : Option Addr} {sl12 : Array (Option Value)} {oc12 kV12 dc12 pm12 cd12 ct12 : Value}
    (a12 : PySem.W.nsIn K mainGlobals "_law_draw" = some (some (.ref f12)))
    (l12 : K.lookup f12 = some ⟨oc12, od12, .func (PySem.W.fnOf "_law_draw" "_law_draw" (defArgs s__law_draw) (defBody s__law_draw) (defScope s__law_draw) .none kV12 dc12 pm12 an12 cd12 ct12), sl12⟩)
    (c12 : PySem.W.codeIn K cd12 "_law_draw" = true)
    {f13 : Addr} {od13 an13 : Option Addr} {sl13 : Array (Option Value)} {oc13 kV13 dc13 pm13 cd13 ct13 : Value}
    (a13 : PySem.W.nsIn K mainGlobals "_law_pick" = some (some (.ref f13)))
    (l13 : K.lookup f13 = some ⟨oc13, od13, .func (PySem.W.fnOf "_law_pick" "_law_pick" (defArgs s__law_pick) (defBody s__law_pick) (defScope s__law_pick) .none kV13 dc13 pm13 an13 cd13 ct13), sl13⟩)
    (c13 : PySem.W.codeIn K cd13 "_law_pick" = true)
    {f14 : Addr} {od14 an14 : Option Addr} {sl14 : Array (Option Value)} {oc14 kV14 dc14 pm14 cd14 ct14 : Value}
    (a14 : PySem.W.nsIn K mainGlobals "_law_items" = some (some (.ref f14)))
    (l14 : K.lookup f14 = some ⟨oc14, od14, .func (PySem.W.fnOf "_law_items" "_law_items" (defArgs s__law_items) (defBody s__law_items) (defScope s__law_items) .none kV14 dc14 pm14 an14 cd14 ct14), sl14⟩)
    (c14 : PySem.W.codeIn K cd14 "_law_items" = true)
    {f15 : Addr} {od15 an15 : Option Addr} {sl15 : Array (Option Value)} {oc15 kV15 dc15 pm15 cd15 ct15 : Value}
    (a15 : PySem.W.nsIn K mainGlobals "_law_log" = some (some (.ref f15)))
    (l15 : K.lookup f15 = some ⟨oc15, od15, .func (PySem.W.fnOf "_law_log" "_law_log" (defArgs s__law_log) (defBody s__law_log) (defScope s__law_log) .none kV15 dc15 pm15 an15 cd15 ct15), sl15⟩)
    (c15 : PySem.W.codeIn K cd15 "_law_log" = true)
    {f16 : Addr} {od16 an16 : Option Addr} {sl16 : Array (Option Value)} {oc16 kV16 dc16 pm16 cd16 ct16 : Value}
    (a16 : PySem.W.nsIn K mainGlobals "_law_page" = some (some (.ref f16)))
    (l16 : K.lookup f16 = some ⟨oc16, od16, .func (PySem.W.fnOf "_law_page" "_law_page" (defArgs s__law_page) (defBody s__law_page) (defScope s__law_page) .none kV16 dc16 pm16 an16 cd16 ct16), sl16⟩)
    (c16 : PySem.W.codeIn K cd16 "_law_page" = true)
    {f17 : Addr} {od17 an17 : Option Addr} {sl17 : Array (Option Value)} {oc17 kV17 dc17 pm17 cd17 ct17 : Value}
    (a17 : PySem.W.nsIn K mainGlobals "_law_number" = some (some (.ref f17)))
    (l17 : K.lookup f17 = some ⟨oc17, od17, .func (PySem.W.fnOf "_law_number" "_law_number" (defArgs s__law_number) (defBody s__law_number) (defScope s__law_number) .none kV17 dc17 pm17 an17 cd17 ct17), sl17⟩)
    (c17 : PySem.W.codeIn K cd17 "_law_number" = true)
    {f18 : Addr} {od18 an18 : Option Addr} {sl18 : Array (Option Value)} {oc18 kV18 dc18 pm18 cd18 ct18 : Value}
    (a18 : PySem.W.nsIn K mainGlobals "_law_lot" = some (some (.ref f18)))
    (l18 : K.lookup f18 = some ⟨oc18, od18, .func (PySem.W.fnOf "_law_lot" "_law_lot" (defArgs s__law_lot) (defBody s__law_lot) (defScope s__law_lot) .none kV18 dc18 pm18 an18 cd18 ct18), sl18⟩)
    (c18 : PySem.W.codeIn K cd18 "_law_lot" = true)
    {f19 : Addr} {od19 an19 : Option Addr} {sl19 : Array (Option Value)} {oc19 kV19 dc19 pm19 cd19 ct19 : Value}
    (a19 : PySem.W.nsIn K mainGlobals "_law_parts" = some (some (.ref f19)))
    (l19 : K.lookup f19 = some ⟨oc19, od19, .func (PySem.W.fnOf "_law_parts" "_law_parts" (defArgs s__law_parts) (defBody s__law_parts) (defScope s__law_parts) .none kV19 dc19 pm19 an19 cd19 ct19), sl19⟩)
    (c19 : PySem.W.codeIn K cd19 "_law_parts" = true)
    {f20 : Addr} {od20 an20 : Option Addr} {sl20 : Array (Option Value)} {oc20 kV20 dc20 pm20 cd20 ct20 : Value}
    (a20 : PySem.W.nsIn K mainGlobals "_law_heard" = some (some (.ref f20)))
    (l20 : K.lookup f20 = some ⟨oc20, od20, .func (PySem.W.fnOf "_law_heard" "_law_heard" (defArgs s__law_heard) (defBody s__law_heard) (defScope s__law_heard) .none kV20 dc20 pm20 an20 cd20 ct20), sl20⟩)
    (c20 : PySem.W.codeIn K cd20 "_law_heard" = true)
    {f21 : Addr} {od21 an21 : Option Addr} {sl21 : Array (Option Value)} {oc21 kV21 dc21 pm21 cd21 ct21 : Value}
    (a21 : PySem.W.nsIn K mainGlobals "_law_read_right" = some (some (.ref f21)))
    (l21 : K.lookup f21 = some ⟨oc21, od21, .func (PySem.W.fnOf "_law_read_right" "_law_read_right" (defArgs s__law_read_right) (defBody s__law_read_right) (defScope s__law_read_right) .none kV21 dc21 pm21 an21 cd21 ct21), sl21⟩)
    (c21 : PySem.W.codeIn K cd21 "_law_read_right" = true)
    {f22 : Addr} {od22 an22 : Option Addr} {sl22 : Array (Option Value)} {oc22 kV22 dc22 pm22 cd22 ct22 : Value}
    (a22 : PySem.W.nsIn K mainGlobals "_law_bent" = some (some (.ref f22)))
    (l22 : K.lookup f22 = some ⟨oc22, od22, .func (PySem.W.fnOf "_law_bent" "_law_bent" (defArgs s__law_bent) (defBody s__law_bent) (defScope s__law_bent) .none kV22 dc22 pm22 an22 cd22 ct22), sl22⟩)
    (c22 : PySem.W.codeIn K cd22 "_law_bent" = true)
    {f23 : Addr} {od23 an23 : Option Addr} {sl23 : Array (Option Value)} {oc23 kV23 dc23 pm23 cd23 ct23 : Value}
    (a23 : PySem.W.nsIn K mainGlobals "law" = some (some (.ref f23)))
    (l23 : K.lookup f23 = some ⟨oc23, od23, .func (PySem.W.fnOf "law" "law" (defArgs s_law) (defBody s_law) (defScope s_law) .none kV23 dc23 pm23 an23 cd23 ct23), sl23⟩)
    (c23 : PySem.W.codeIn K cd23 "law" = true)
    (b_len : PySem.W.nsIn K mainGlobals "len" = some none)
    (b_range : PySem.W.nsIn K mainGlobals "range" = some none)
    (b_isinstance : PySem.W.nsIn K mainGlobals "isinstance" = some none)
    (b_all : PySem.W.nsIn K mainGlobals "all" = some none)
    (b_any : PySem.W.nsIn K mainGlobals "any" = some none)
    (b_int : PySem.W.nsIn K mainGlobals "int" = some none)
    (b_str : PySem.W.nsIn K mainGlobals "str" = some none)
    (b_bool : PySem.W.nsIn K mainGlobals "bool" = some none)
    (b_tuple : PySem.W.nsIn K mainGlobals "tuple" = some none)
    (b_list : PySem.W.nsIn K mainGlobals "list" = some none)
    (b_repr : PySem.W.nsIn K mainGlobals "repr" = some none)
    (b_enumerate : PySem.W.nsIn K mainGlobals "enumerate" = some none)
    (b_sorted : PySem.W.nsIn K mainGlobals "sorted" = some none)
    (b_set : PySem.W.nsIn K mainGlobals "set" = some none)
    (b_min : PySem.W.nsIn K mainGlobals "min" = some none)
    (t_DIGITS : ∃ t, PySem.W.nsIn K mainGlobals "DIGITS" = some (some (.str "0123456789" t))) :
    ∃ fd : FuncData, (∀ (s : Shared) (u : Value), BindsTo s fd ⟨[u], []⟩ [("_law_script", u)]) ∧ ∀ base : Heap, K.In base → base.Ns mainGlobals mg → FnG P w K mg base CX0 9 fa fd ["_law_script"] (spLaw K) := by
  have e := hfa.symm.trans (PySem.W.mg_of X G a23)
  cases e
  have B : Blt mg := ⟨PySem.W.mg_none_of X G b_len, PySem.W.mg_none_of X G b_range, PySem.W.mg_none_of X G b_isinstance, PySem.W.mg_none_of X G b_all, PySem.W.mg_none_of X G b_any, PySem.W.mg_none_of X G b_int, PySem.W.mg_none_of X G b_str, PySem.W.mg_none_of X G b_bool, PySem.W.mg_none_of X G b_tuple, PySem.W.mg_none_of X G b_list, PySem.W.mg_none_of X G b_repr, PySem.W.mg_none_of X G b_enumerate⟩
  have n_sorted : mg "sorted" = none := PySem.W.mg_none_of X G b_sorted
  have n_set : mg "set" = none := PySem.W.mg_none_of X G b_set
  have n_min : mg "min" = none := PySem.W.mg_none_of X G b_min
  have U0 := fun_mk (st := s_is_letter) l0 c0 (keep_fn l0)
  have g0 := PySem.W.mg_of X G a0
  have b0 := U0.binds (ps := ["letters", "thing"]) fun _ _ _ _ _ _ us hl => match us, hl with | [_, _], _ => rfl
  have U1 := fun_mk (st := s_is_ascending) l1 c1 (keep_fn l1)
  have g1 := PySem.W.mg_of X G a1
  have b1 := U1.binds (ps := ["parts"]) fun _ _ _ _ _ _ us hl => match us, hl with | [_], _ => rfl
  have U2 := fun_mk (st := s_integer_read) l2 c2 (keep_fn l2)
  have g2 := PySem.W.mg_of X G a2
  have b2 := U2.binds (ps := ["text"]) fun _ _ _ _ _ _ us hl => match us, hl with | [_], _ => rfl
  have U3 := fun_mk (st := s_is_item) l3 c3 (keep_fn l3)
  have g3 := PySem.W.mg_of X G a3
  have b3 := U3.binds (ps := ["letters", "thing"]) fun _ _ _ _ _ _ us hl => match us, hl with | [_, _], _ => rfl
  have U4 := fun_mk (st := s_is_weft) l4 c4 (keep_fn l4)
  have g4 := PySem.W.mg_of X G a4
  have b4 := U4.binds (ps := ["letters", "thing"]) fun _ _ _ _ _ _ us hl => match us, hl with | [_, _], _ => rfl
  have U5 := fun_mk (st := s_weft_text) l5 c5 (keep_fn l5)
  have g5 := PySem.W.mg_of X G a5
  have b5 := U5.binds (ps := ["weft"]) fun _ _ _ _ _ _ us hl => match us, hl with | [_], _ => rfl
  have U6 := fun_mk (st := s_log_text) l6 c6 (keep_fn l6)
  have g6 := PySem.W.mg_of X G a6
  have b6 := U6.binds (ps := ["log"]) fun _ _ _ _ _ _ us hl => match us, hl with | [_], _ => rfl
  have U7 := fun_mk (st := s_lot_line) l7 c7 (keep_fn l7)
  have g7 := PySem.W.mg_of X G a7
  have b7 := U7.binds (ps := ["lot"]) fun _ _ _ _ _ _ us hl => match us, hl with | [_], _ => rfl
  have U8 := fun_mk (st := s_log_read) l8 c8 (keep_fn l8)
  have g8 := PySem.W.mg_of X G a8
  have b8 := U8.binds (ps := ["letters", "text"]) fun _ _ _ _ _ _ us hl => match us, hl with | [_, _], _ => rfl
  have U9 := fun_mk (st := s_lot_read) l9 c9 (keep_fn l9)
  have g9 := PySem.W.mg_of X G a9
  have b9 := U9.binds (ps := ["letters", "line", "known"]) fun _ _ _ _ _ _ us hl => match us, hl with | [_, _, _], _ => rfl
  have U10 := fun_mk (st := s_earlier_read) l10 c10 (keep_fn l10)
  have g10 := PySem.W.mg_of X G a10
  have b10 := U10.binds (ps := ["word", "known"]) fun _ _ _ _ _ _ us hl => match us, hl with | [_, _], _ => rfl
  have U11 := fun_mk (st := s__law_deck) l11 c11 (keep_fn l11)
  have g11 := PySem.W.mg_of X G a11
  have b11 := U11.binds (ps := ["_law_script"]) fun _ _ _ _ _ _ us hl => match us, hl with | [_], _ => rfl
  have U12 := fun_mk (st := s__law_draw) l12 c12 (keep_fn l12)
  have g12 := PySem.W.mg_of X G a12
  have b12 := U12.binds (ps := ["_law_deck_here", "_law_below"]) fun _ _ _ _ _ _ us hl => match us, hl with | [_, _], _ => rfl
  have U13 := fun_mk (st := s__law_pick) l13 c13 (keep_fn l13)
  have g13 := PySem.W.mg_of X G a13
  have b13 := U13.binds (ps := ["_law_deck_here", "_law_some"]) fun _ _ _ _ _ _ us hl => match us, hl with | [_, _], _ => rfl
  have U14 := fun_mk (st := s__law_items) l14 c14 (keep_fn l14)
  have g14 := PySem.W.mg_of X G a14
  have b14 := U14.binds (ps := ["_law_letters"]) fun _ _ _ _ _ _ us hl => match us, hl with | [_], _ => rfl
  have U15 := fun_mk (st := s__law_log) l15 c15 (keep_fn l15)
  have g15 := PySem.W.mg_of X G a15
  have b15 := U15.binds (ps := ["_law_deck_here", "_law_letters"]) fun _ _ _ _ _ _ us hl => match us, hl with | [_, _], _ => rfl
  have U16 := fun_mk (st := s__law_page) l16 c16 (keep_fn l16)
  have g16 := PySem.W.mg_of X G a16
  have b16 := U16.binds (ps := ["_law_log_here"]) fun _ _ _ _ _ _ us hl => match us, hl with | [_], _ => rfl
  have U17 := fun_mk (st := s__law_number) l17 c17 (keep_fn l17)
  have g17 := PySem.W.mg_of X G a17
  have b17 := U17.binds (ps := ["_law_word"]) fun _ _ _ _ _ _ us hl => match us, hl with | [_], _ => rfl
  have U18 := fun_mk (st := s__law_lot) l18 c18 (keep_fn l18)
  have g18 := PySem.W.mg_of X G a18
  have b18 := U18.binds (ps := ["_law_letters", "_law_ahead", "_law_line"]) fun _ _ _ _ _ _ us hl => match us, hl with | [_, _, _], _ => rfl
  have U19 := fun_mk (st := s__law_parts) l19 c19 (keep_fn l19)
  have g19 := PySem.W.mg_of X G a19
  have b19 := U19.binds (ps := ["_law_letters", "_law_page_here"]) fun _ _ _ _ _ _ us hl => match us, hl with | [_, _], _ => rfl
  have U20 := fun_mk (st := s__law_heard) l20 c20 (keep_fn l20)
  have g20 := PySem.W.mg_of X G a20
  have b20 := U20.binds (ps := ["_law_letters", "_law_page_here", "_law_is_named"]) fun _ _ _ _ _ _ us hl => match us, hl with | [_, _, _], _ => rfl
  have U21 := fun_mk (st := s__law_read_right) l21 c21 (keep_fn l21)
  have g21 := PySem.W.mg_of X G a21
  have b21 := U21.binds (ps := ["_law_letters", "_law_page_here"]) fun _ _ _ _ _ _ us hl => match us, hl with | [_, _], _ => rfl
  have U22 := fun_mk (st := s__law_bent) l22 c22 (keep_fn l22)
  have g22 := PySem.W.mg_of X G a22
  have b22 := U22.binds (ps := ["_law_deck_here", "_law_page_here"]) fun _ _ _ _ _ _ us hl => match us, hl with | [_, _], _ => rfl
  have U23 := fun_mk (st := s_law) l23 c23 (keep_fn l23)
  have g23 := PySem.W.mg_of X G a23
  have b23 := U23.binds (ps := ["_law_script"]) fun _ _ _ _ _ _ us hl => match us, hl with | [_], _ => rfl
  have gCT := PySem.W.mg_of X G aT
  have YT : ClsF K CM CT := ⟨xT, gaT, ggT, caT⟩
  have TT : MqE_line.Txt K mg "BadText" "BadText.__init__" CT FT := ⟨gCT, YT.at_.keep, YT.at_.init, YT.at_.over, YT.at_.has, NoAttr.taker ntT, wsT, wiT, (by simp [PySem.W.typeIn, lET]), YT.base, YT.at_.ty, _, _, _, _, _, _, _, _, _, _, _, _, _, _, lET, cET⟩
  refine ⟨PySem.W.fnOf "law" "law" (defArgs s_law) (defBody s_law) (defScope s_law) .none kV23 dc23 pm23 an23 cd23 ct23, fun s u => .of_eq rfl, fun base _ _ => ?_⟩
  have ET : ErrL K mg CT CM FT := ⟨TT, YT.xf, ntT, YT.held sp tk, PySem.W.mg_of X G aM, YT.at_.mill mill.1 mill.2, exm_own YT⟩
  obtain ⟨tA, aA⟩ := t_DIGITS
  obtain ⟨tI, aI⟩ := i_MOST_FIGURES
  have kR : KBn K _ ["letters", "text"] 0 ["text", "letters"] rev0 rev0 := kbn_rev2 U8 fun _ _ _ _ _ _ _ _ => rfl
  have kX : KBn K _ ["log"] 0 ["log"] rev0 rev0 := kbn_one U6 fun _ _ _ _ _ _ _ => rfl
  have Gnum : FnOk P w K mg base CX0 1 f2 _ ["text"] spNum := ok_integer U2 B ⟨tA, PySem.W.mg_of X G aA⟩ ⟨tI, PySem.W.mg_of X G aI⟩
  have Gasc : FnOk P w K mg base CX0 1 f1 _ ["parts"] (spAscI K) := ok_ascI U1 B
  have Gite : FnOk P w K mg base CX0 2 f3 _ ["letters", "thing"] spItem := ok_item U3 B U0 g0 b0
  have Gwef : FnOk P w K mg base CX0 3 f4 _ ["letters", "thing"] (spWeft K) := ok_weft U4 B U3 g3 b3 Gite
  have Gwt : FnOk P w K mg base CX0 1 f5 _ ["weft"] (spWeftText K) := ok_weft_text U5
  have Gear : FnOk P w K mg base CX0 2 f10 _ ["word", "known"] (spEarl K) := ok_earlier U10 B U2 g2 b2 Gnum U1 g1 b1 Gasc
  have Glr : FnOk P w K mg base CX0 4 f9 _ ["letters", "line", "known"] (spLotRead K) := ok_lot_read U9 B U2 g2 b2 Gnum U10 g10 b10 Gear U4 g4 b4 Gwef
  have Glog : FnOk P w K mg base (L2.CX P w) 5 f8 _ ["letters", "text"] (spRead K CT) := ok_log_read U8 B U9 g9 b9 Glr TT
  have Gli : FnOk P w K mg base CX0 2 f7 _ ["lot"] (spLine K) := ok_lot_line U7 B U5 g5 b5 Gwt
  have Glt : FnOk P w K mg base CX0 3 f6 _ ["log"] (spLogText K) := ok_log_text U6 U7 g7 b7 Gli
  have Gdec : FnOk P w K mg base CX0 1 f11 _ ["_law_script"] (spDeck K) := ok_deck U11 B
  have Gdra : FnOk P w K mg base CX0 1 f12 _ ["_law_deck_here", "_law_below"] spDraw := ok_draw U12 B
  have Gpic : FnOk P w K mg base CX0 2 f13 _ ["_law_deck_here", "_law_some"] spPick := ok_pick U13 B U12 g12 b12
  have Gits : FnOk P w K mg base CX0 1 f14 _ ["_law_letters"] spItems := ok_items U14 B
  have Gnb : FnOk P w K mg base CX0 1 f17 _ ["_law_word"] spNumber := ok_number U17 B
  have Glot : FnOk P w K mg base CX0 2 f18 _ ["_law_letters", "_law_ahead", "_law_line"] (spLawLot K) := ok_lot U18 B n_sorted n_set U17 g17 b17 Gnb U14 g14 b14 Gits
  have Gpar : FnOk P w K mg base CX0 3 f19 _ ["_law_letters", "_law_page_here"] (spParts K) := ok_parts U19 B U18 g18 b18 Glot
  have Ghea : FnG P w K mg base CX0 7 f20 _ ["_law_letters", "_law_page_here", "_law_is_named"] (spHeard K) := ok_heard U20 B ET U8 g8 b8 kR Glog
  have Grr : FnG P w K mg base CX0 8 f21 _ ["_law_letters", "_law_page_here"] (spRR K) := ok_read_right U21 B U19 g19 b19 Gpar U20 g20 b20 Ghea
  have Gben : FnOk P w K mg base CX0 3 f22 _ ["_law_deck_here", "_law_page_here"] spBent := ok_bent U22 B U12 g12 b12 Gdra U13 g13 b13 Gpic
  have Glg : FnOk P w K mg base CX0 3 f15 _ ["_law_deck_here", "_law_letters"] (spLog K) := ok_log U15 B n_min U12 g12 b12 Gdra U13 g13 b13 Gpic U14 g14 b14 Gits
  have Gpag : FnOk P w K mg base CX0 1 f16 _ ["_law_log_here"] (spLogText K) := ok_page U16 B
  exact ok_law U23 B U11 g11 b11 Gdec U13 g13 b13 Gpic U15 g15 b15 Glg U16 g16 b16 Gpag U6 g6 b6 kX Glt U8 g8 b8 Glog U21 g21 b21 Grr U22 g22 b22 Gben
end Lw

namespace Lw
open PySem PySem.Spec PyProof.Rows L2 Mq
open SX (S)
def fnL : List He.FnD := [⟨("BadText", some "__init__"), "__init__", "BadText.__init__", MqE_line.iA ⟨6, 17, 6, 21⟩ ⟨6, 23, 6, 27⟩, MqE_line.iB ⟨7, 8, 7, 12⟩ ⟨7, 8, 7, 17⟩ ⟨7, 20, 7, 24⟩ ⟨7, 8, 7, 24⟩, MqE_line.iS⟩,
  ⟨("is_letter", none), "is_letter", "is_letter", defArgs s_is_letter, defBody s_is_letter, defScope s_is_letter⟩,
  ⟨("is_ascending", none), "is_ascending", "is_ascending", defArgs s_is_ascending, defBody s_is_ascending, defScope s_is_ascending⟩,
  ⟨("integer_read", none), "integer_read", "integer_read", defArgs s_integer_read, defBody s_integer_read, defScope s_integer_read⟩,
  ⟨("is_item", none), "is_item", "is_item", defArgs s_is_item, defBody s_is_item, defScope s_is_item⟩,
  ⟨("is_weft", none), "is_weft", "is_weft", defArgs s_is_weft, defBody s_is_weft, defScope s_is_weft⟩,
  ⟨("weft_text", none), "weft_text", "weft_text", defArgs s_weft_text, defBody s_weft_text, defScope s_weft_text⟩,
  ⟨("log_text", none), "log_text", "log_text", defArgs s_log_text, defBody s_log_text, defScope s_log_text⟩,
  ⟨("lot_line", none), "lot_line", "lot_line", defArgs s_lot_line, defBody s_lot_line, defScope s_lot_line⟩,
  ⟨("log_read", none), "log_read", "log_read", defArgs s_log_read, defBody s_log_read, defScope s_log_read⟩,
  ⟨("lot_read", none), "lot_read", "lot_read", defArgs s_lot_read, defBody s_lot_read, defScope s_lot_read⟩,
  ⟨("earlier_read", none), "earlier_read", "earlier_read", defArgs s_earlier_read, defBody s_earlier_read, defScope s_earlier_read⟩,
  ⟨("_law_deck", none), "_law_deck", "_law_deck", defArgs s__law_deck, defBody s__law_deck, defScope s__law_deck⟩,
  ⟨("_law_draw", none), "_law_draw", "_law_draw", defArgs s__law_draw, defBody s__law_draw, defScope s__law_draw⟩,
  ⟨("_law_pick", none), "_law_pick", "_law_pick", defArgs s__law_pick, defBody s__law_pick, defScope s__law_pick⟩,
  ⟨("_law_items", none), "_law_items", "_law_items", defArgs s__law_items, defBody s__law_items, defScope s__law_items⟩,
  ⟨("_law_log", none), "_law_log", "_law_log", defArgs s__law_log, defBody s__law_log, defScope s__law_log⟩,
  ⟨("_law_page", none), "_law_page", "_law_page", defArgs s__law_page, defBody s__law_page, defScope s__law_page⟩,
  ⟨("_law_number", none), "_law_number", "_law_number", defArgs s__law_number, defBody s__law_number, defScope s__law_number⟩,
  ⟨("_law_lot", none), "_law_lot", "_law_lot", defArgs s__law_lot, defBody s__law_lot, defScope s__law_lot⟩,
  ⟨("_law_parts", none), "_law_parts", "_law_parts", defArgs s__law_parts, defBody s__law_parts, defScope s__law_parts⟩,
  ⟨("_law_heard", none), "_law_heard", "_law_heard", defArgs s__law_heard, defBody s__law_heard, defScope s__law_heard⟩,
  ⟨("_law_read_right", none), "_law_read_right", "_law_read_right", defArgs s__law_read_right, defBody s__law_read_right, defScope s__law_read_right⟩,
  ⟨("_law_bent", none), "_law_bent", "_law_bent", defArgs s__law_bent, defBody s__law_bent, defScope s__law_bent⟩,
  ⟨("law", none), "law", "law", defArgs s_law, defBody s_law, defScope s_law⟩]
def fs0 : List (PySem.W.Frag → Bool) := [fGlo "MillError",
  fMill,
  fSp,
  fTk,
  fGlo "BadText",
  fCls "BadText",
  fFind "BadText" "__getattribute__" (some (.builtin "BaseException.__getattribute__")),
  fFind "BadText" "__getattr__" none,
  fFind "BadText" "__class__" (some (.builtin "object.__class__")),
  fFind "BadText" "__setattr__" (some (.builtin "object.__setattr__")),
  fFind "BadText" "line" none,
  fInit "BadText",
  fFn "BadText",
  fInt "MOST_FIGURES" 4300,
  fGlo "is_letter",
  fGlo "is_ascending",
  fGlo "integer_read",
  fGlo "is_item",
  fGlo "is_weft",
  fGlo "weft_text",
  fGlo "log_text",
  fGlo "lot_line",
  fGlo "log_read",
  fGlo "lot_read",
  fGlo "earlier_read",
  fGlo "_law_deck",
  fGlo "_law_draw",
  fGlo "_law_pick",
  fGlo "_law_items",
  fGlo "_law_log"]
def fs1 : List (PySem.W.Frag → Bool) := [fGlo "_law_page",
  fGlo "_law_number",
  fGlo "_law_lot",
  fGlo "_law_parts",
  fGlo "_law_heard",
  fGlo "_law_read_right",
  fGlo "_law_bent",
  fGlo "law",
  fFree "len",
  fFree "range",
  fFree "isinstance",
  fFree "all",
  fFree "any",
  fFree "int",
  fFree "str",
  fFree "bool",
  fFree "tuple",
  fFree "list",
  fFree "repr",
  fFree "enumerate",
  fFree "sorted",
  fFree "set",
  fFree "min",
  fTxt "DIGITS" "0123456789"]
def fsL : List (PySem.W.Frag → Bool) := fs0 ++ fs1
def prL : List He.FnD := []
theorem facts {P : Program} {w : World} {K : PySem.W.Frag} {h : Heap} {mg : Str → Option Value} {fa : Addr} (X : K.In h) (G : h.Ns mainGlobals mg) (hfa : mg ("law" : Str) = some (.ref fa)) (c : He.SaysE [] fnL K) (hx : exB fsL K = true) (hp : prL.map (fun d => cmObs K d.at_) = prL.map He.FnD.val) :
    ∃ fd : FuncData, (∀ (s : Shared) (u : Value), BindsTo s fd ⟨[u], []⟩ [("_law_script", u)]) ∧ ∀ base : Heap, K.In base → base.Ns mainGlobals mg → FnG P w K mg base CX0 9 fa fd ["_law_script"] (spLaw K) := by
  obtain ⟨_, _, _, _, _, _, _, _, _, lET, cET⟩ := c.def_ 0 rfl
  obtain ⟨rfl, rfl⟩ := fnB_ok (exAt hx 12 (f := fFn "BadText") rfl) lET
  obtain ⟨_, _, _, _, _, _, _, _, _, l0, c0⟩ := c.def_ 1 rfl
  obtain ⟨_, _, _, _, _, _, _, _, _, l1, c1⟩ := c.def_ 2 rfl
  obtain ⟨_, _, _, _, _, _, _, _, _, l2, c2⟩ := c.def_ 3 rfl
  obtain ⟨_, _, _, _, _, _, _, _, _, l3, c3⟩ := c.def_ 4 rfl
  obtain ⟨_, _, _, _, _, _, _, _, _, l4, c4⟩ := c.def_ 5 rfl
  obtain ⟨_, _, _, _, _, _, _, _, _, l5, c5⟩ := c.def_ 6 rfl
  obtain ⟨_, _, _, _, _, _, _, _, _, l6, c6⟩ := c.def_ 7 rfl
  obtain ⟨_, _, _, _, _, _, _, _, _, l7, c7⟩ := c.def_ 8 rfl
  obtain ⟨_, _, _, _, _, _, _, _, _, l8, c8⟩ := c.def_ 9 rfl
  obtain ⟨_, _, _, _, _, _, _, _, _, l9, c9⟩ := c.def_ 10 rfl
  obtain ⟨_, _, _, _, _, _, _, _, _, l10, c10⟩ := c.def_ 11 rfl
  obtain ⟨_, _, _, _, _, _, _, _, _, l11, c11⟩ := c.def_ 12 rfl
  obtain ⟨_, _, _, _, _, _, _, _, _, l12, c12⟩ := c.def_ 13 rfl
  obtain ⟨_, _, _, _, _, _, _, _, _, l13, c13⟩ := c.def_ 14 rfl
  obtain ⟨_, _, _, _, _, _, _, _, _, l14, c14⟩ := c.def_ 15 rfl
  obtain ⟨_, _, _, _, _, _, _, _, _, l15, c15⟩ := c.def_ 16 rfl
  obtain ⟨_, _, _, _, _, _, _, _, _, l16, c16⟩ := c.def_ 17 rfl
  obtain ⟨_, _, _, _, _, _, _, _, _, l17, c17⟩ := c.def_ 18 rfl
  obtain ⟨_, _, _, _, _, _, _, _, _, l18, c18⟩ := c.def_ 19 rfl
  obtain ⟨_, _, _, _, _, _, _, _, _, l19, c19⟩ := c.def_ 20 rfl
  obtain ⟨_, _, _, _, _, _, _, _, _, l20, c20⟩ := c.def_ 21 rfl
  obtain ⟨_, _, _, _, _, _, _, _, _, l21, c21⟩ := c.def_ 22 rfl
  obtain ⟨_, _, _, _, _, _, _, _, _, l22, c22⟩ := c.def_ 23 rfl
  obtain ⟨_, _, _, _, _, _, _, _, _, l23, c23⟩ := c.def_ 24 rfl
  exact all_mk X G hfa (glo_of (exAt hx 0 (f := fGlo "MillError") rfl)) (mill_of (exAt hx 1 (f := fMill) rfl)) (sp_of (exAt hx 2 (f := fSp) rfl)) (tk_of (exAt hx 3 (f := fTk) rfl)) (glo_of (exAt hx 4 (f := fGlo "BadText") rfl)) (cls_of (exAt hx 5 (f := fCls "BadText") rfl)) (find_of (exAt hx 6 (f := fFind "BadText" "__getattribute__" (some (.builtin "BaseException.__getattribute__"))) rfl)) (find_of (exAt hx 7 (f := fFind "BadText" "__getattr__" none) rfl)) (find_of (exAt hx 8 (f := fFind "BadText" "__class__" (some (.builtin "object.__class__"))) rfl)) (find_of (exAt hx 9 (f := fFind "BadText" "__setattr__" (some (.builtin "object.__setattr__"))) rfl)) (find_of (exAt hx 10 (f := fFind "BadText" "line" none) rfl)) (init_of (exAt hx 11 (f := fInit "BadText") rfl)) lET cET (int_of (exAt hx 13 (f := fInt "MOST_FIGURES" 4300) rfl)) (glo_of (exAt hx 14 (f := fGlo "is_letter") rfl)) l0 c0 (glo_of (exAt hx 15 (f := fGlo "is_ascending") rfl)) l1 c1 (glo_of (exAt hx 16 (f := fGlo "integer_read") rfl)) l2 c2 (glo_of (exAt hx 17 (f := fGlo "is_item") rfl)) l3 c3 (glo_of (exAt hx 18 (f := fGlo "is_weft") rfl)) l4 c4 (glo_of (exAt hx 19 (f := fGlo "weft_text") rfl)) l5 c5 (glo_of (exAt hx 20 (f := fGlo "log_text") rfl)) l6 c6 (glo_of (exAt hx 21 (f := fGlo "lot_line") rfl)) l7 c7 (glo_of (exAt hx 22 (f := fGlo "log_read") rfl)) l8 c8 (glo_of (exAt hx 23 (f := fGlo "lot_read") rfl)) l9 c9 (glo_of (exAt hx 24 (f := fGlo "earlier_read") rfl)) l10 c10 (glo_of (exAt hx 25 (f := fGlo "_law_deck") rfl)) l11 c11 (glo_of (exAt hx 26 (f := fGlo "_law_draw") rfl)) l12 c12 (glo_of (exAt hx 27 (f := fGlo "_law_pick") rfl)) l13 c13 (glo_of (exAt hx 28 (f := fGlo "_law_items") rfl)) l14 c14 (glo_of (exAt hx 29 (f := fGlo "_law_log") rfl)) l15 c15 (glo_of (exAt hx 30 (f := fGlo "_law_page") rfl)) l16 c16 (glo_of (exAt hx 31 (f := fGlo "_law_number") rfl)) l17 c17 (glo_of (exAt hx 32 (f := fGlo "_law_lot") rfl)) l18 c18 (glo_of (exAt hx 33 (f := fGlo "_law_parts") rfl)) l19 c19 (glo_of (exAt hx 34 (f := fGlo "_law_heard") rfl)) l20 c20 (glo_of (exAt hx 35 (f := fGlo "_law_read_right") rfl)) l21 c21 (glo_of (exAt hx 36 (f := fGlo "_law_bent") rfl)) l22 c22 (glo_of (exAt hx 37 (f := fGlo "law") rfl)) l23 c23 (free_of (exAt hx 38 (f := fFree "len") rfl)) (free_of (exAt hx 39 (f := fFree "range") rfl)) (free_of (exAt hx 40 (f := fFree "isinstance") rfl)) (free_of (exAt hx 41 (f := fFree "all") rfl)) (free_of (exAt hx 42 (f := fFree "any") rfl)) (free_of (exAt hx 43 (f := fFree "int") rfl)) (free_of (exAt hx 44 (f := fFree "str") rfl)) (free_of (exAt hx 45 (f := fFree "bool") rfl)) (free_of (exAt hx 46 (f := fFree "tuple") rfl)) (free_of (exAt hx 47 (f := fFree "list") rfl)) (free_of (exAt hx 48 (f := fFree "repr") rfl)) (free_of (exAt hx 49 (f := fFree "enumerate") rfl)) (free_of (exAt hx 50 (f := fFree "sorted") rfl)) (free_of (exAt hx 51 (f := fFree "set") rfl)) (free_of (exAt hx 52 (f := fFree "min") rfl)) (txt_of (exAt hx 53 (f := fTxt "DIGITS" "0123456789") rfl))
end Lw

namespace Lw
open PySem PySem.W PySem.Calls PyProof.Rows Mq
abbrev RR : OpenRow := OpenLaw.row PySem.Challenge.rw_millhands_k78_texts_of_logs
def nm0 : List PySem.Str := ["MillError", "BadText", "is_letter", "is_ascending", "integer_read", "is_item", "is_weft", "weft_text", "log_text", "lot_line", "log_read", "lot_read", "earlier_read", "_law_deck", "_law_draw", "_law_pick", "_law_items", "_law_log", "_law_page", "_law_number", "_law_lot", "_law_parts", "_law_heard", "_law_read_right", "_law_bent", "DIGITS", "MOST_FIGURES"]
abbrev nmL : List PySem.Str := nm0
abbrev hk : Hook := hookC 5 fnL prL fsL
def ob (s : SharedT) : AlP := obsC 5 fnL prL fsL (HandSHeadRun.getT s)
theorem ob_eq (s : SharedT) : ob s = hk.obs s.abs := obsC_eq (HandSHeadRun.getT_eq s)
theorem run (w : World) : HandSHeadRun.RunEq RR (view RR.prog [32]) hk ob 9600 nmL w := by
  intro os
  kernel_rfl
end Lw

open PySem PySem.W PySem.Calls PyProof.Rows
theorem PySem.Challenge.cw_millhands_k78_texts_of_logs_holds : PySem.Challenge.rw_millhands_k78_texts_of_logs.Holds := by
  w_on; o_law
  refine HandSHeadRun.head_any (r := OpenLaw.row PySem.Challenge.rw_millhands_k78_texts_of_logs) (q := view (OpenLaw.row PySem.Challenge.rw_millhands_k78_texts_of_logs).prog [32]) (H := Lw.hk) (ob := Lw.ob) (M := 9600) (loose := Lw.nmL) (d := HandSHeadRun.topDef (OpenLaw.row PySem.Challenge.rw_millhands_k78_texts_of_logs).prog 32) (kwd := []) Lw.ob_eq
    (by kernel_rfl) (fun s => by kernel_rfl) Lw.run (by kernel_rfl) (by kernel_rfl) (by kernel_rfl) (by rfl) (by first | assumption | decide +kernel) (by decide +kernel) ⟨rfl, rfl, rfl, rfl, rfl, by decide +kernel⟩ ?hw ?hc
  case hw => w_witness2
  case hc =>
    refine Mq.walk_ofGE (l := PySem.Challenge.rw_millhands_k78_texts_of_logs) (n := 63) (k := 9) (x := "_law_script") (CX := L2.CX0) rfl (by decide) (by kernel_rfl) ⟨rfl, by decide, by decide⟩ ?F (fun _ _ _ _ z => z)
    intro w mg fa h Y G hmg0
    obtain ⟨K, KX, c, hx, hpr⟩ := Y
    have hmg : mg ("law" : PySem.Str) = some (.ref fa) := by
      have e : (HandSHeadRun.topDef (OpenLaw.row PySem.Challenge.rw_millhands_k78_texts_of_logs).prog 32).name = ("law" : PySem.Str) := by kernel_rfl
      rw [← e]
      exact hmg0
    obtain ⟨fd, hb, hF⟩ := Lw.facts (P := (PySem.Challenge.rw_millhands_k78_texts_of_logs).prog) (w := w) KX G hmg c hx hpr
    exact ⟨K, fd, Lw.spLaw K, KX, hb, fun H a ns hl _ hS => ⟨a, ns, rfl, hS, hl, fun _ => rfl⟩, hF⟩

