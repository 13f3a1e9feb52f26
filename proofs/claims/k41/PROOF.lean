import PyProof.Rows.All
import Wide.All
import OpenK.AllK
import Wide.FinOn
import PyProof.EqAt
import PyProof.EqKinds
import PyProof.TupleCall
import PyProof.ReprReads
import KE.KExcInit
import HandS.ForMost
import HandS.ForExc
import HandS.ExcField
import HandS.Flow
import HandS.Style
import PyProof.ReprRoads
import HandS.ExcIs
import KE.KExcIs
import HandS.Defaults
import HandS.Walk
import HandS.IsInst
import HandS.Codes
import HandS.StrMore
import KE.GoesMore
import HandS.CallLocal
import HandS.More
import PyProof.StrOps2
import PySem.Challenge.RW_millhands_k41_programs_of_any_values
import HandS.Replace
import KE.KSortTupG
import KE.KDictSum
import HandS.Iter
import HandS.Dict
import HandS.Conv
import HandS.TupLe
import PyProof.StrLawsChain
import PyProof.Rows.StrItems
import HandS.MakeKwOnly
import HandS.ClsMeth
import HandS.Text
import HandS.Set
import HandS.SetFor
import HandS.SetTxt0
import HandS.Strs
import HandS.SetTxtIn
import HandS.TupAny
import PyProof.ListStr
import PyProof.ListMulRight
import PyProof.AutoIntG3
import PyProof.ReprLen
import HandS.FStr
import HandS.Star
import HandS.ExcValue
import HandS.Property
import KE.KCallOwn
import HandS.OwnEq
import PyProof.InstEq
import PyProof.NeKinds
import HandS.HeadEnd
import HandS.Head0
import HandS.Head1
import HandS.Head2
import HandS.HeadHook1
import HandS.HeadHook2
import HandS.RaiseMore
import PyProof.Rows.IntBool
import PyProof.Rows.EqBoolInt
import HandS.TupMul
set_option Elab.async false
set_option linter.all false
set_option maxRecDepth 100000
set_option maxHeartbeats 0
namespace Mq
open PySem PySem.Spec PyProof.Rows L2

/-! ### defs that are entered where no repr is under way -/
def Still (A : Around) : Prop := A.guards = some []

structure FnG (P : Program) (w : World) (K : PySem.W.Frag) (mg : Str → Option Value)
    (base : Heap) (CX : CXT) (k : Nat) (f : Addr) (fd : FuncData) (ps : List Str) (sp : Sp) : Prop where
  many : ∀ vs H Q E, sp vs H Q E → vs.length = ps.length
  go : ∀ (A : Around) (outer : List Env) (s : Shared) (H : Hp) (args : Args)
    (us : List Value) (vs : List V) (Q : VK) (E : XK), Still A → Room k A →
    Env0 P w K mg base A outer s H → BindsTo s fd args (ps.zip us) → Vals vs us → sp vs H Q E →
    codeAny (model P w) A (.call (.ref f) args) (CR CX outer P w H s Q E) s

theorem FnG.of {P : Program} {w : World} {K : PySem.W.Frag} {mg : Str → Option Value}
    {base : Heap} {CX : CXT} {k : Nat} {f : Addr} {fd : FuncData} {ps : List Str} {sp : Sp}
    (F : FnOk P w K mg base CX k f fd ps sp) : FnG P w K mg base CX k f fd ps sp :=
  ⟨F.len, fun A outer s H args us vs Q E _ => F.run A outer s H args us vs Q E⟩

section
variable {P : Program} {w : World} {K : PySem.W.Frag} {mg : Str → Option Value} {base : Heap}

theorem Fun.okG {CX : CXT} {x qual : Str} {st : Stmt} {f : Addr} {fd : FuncData} {N ps : List Str}
    {k : Nat} {sp : Sp} (F : L2.Fun K x qual st f fd) (S : FnScope N ps (defScope st))
    (many : ∀ vs H Q E, sp vs H Q E → vs.length = ps.length)
    (body : ∀ (cdv : Value) (A : Around) (outer : List Env) (s : Shared) (H : Hp) (vs : List V) (Q : VK) (E : XK),
      Still (A.deeper (envOfC qual (defScope st) s.heap.objs.size f cdv)) →
      Room k (A.deeper (envOfC qual (defScope st) s.heap.objs.size f cdv)) → sp vs H Q E →
      ∃ t, PSs (cxOf CX P w K mg base N qual (defScope st) f cdv A outer s H E) (defBody st) t ∧
        t { nx := fun _ H' => Q .non H', rt := Q } (start N vs) H) :
    FnG P w K mg base CX (k + 1) f fd ps sp := by
  obtain ⟨oc, od, kV, doc, pm, an, cdv, ct, osl, rfl, lk, hcd⟩ := F.ex
  refine ⟨many, fun A outer s H args us vs Q E gA hr e0 hb r h => ?_⟩
  have old : ∀ b o, base.get? b = some o → s.heap.get? b = some o := fun b o e => (e0.bs b o e).1
  have KX := e0.mod.kin.keeps old
  have lim := e0.mod.nolimit.keeps old
  have hlen := many _ _ _ _ h
  have kinds : ∀ y ∈ ps.zip us, (defScope st).names.lookup y.1 = some .local ∨
      ((defScope st).names.lookup y.1 = some .cell ∧
        ((cellsFrom (s.heap.objs.size + 1) (defScope st).names []).lookup y.1).isSome = true) := by
    rintro ⟨n, v⟩ hy
    rcases S.par n (List.of_mem_zip hy).1 with q | q
    · exact Or.inl q
    · exact Or.inr ⟨q, PySem.W.cellsFrom_some _ _ _ (Or.inl q)⟩
  refine codeAny_call_function hr.depth (KX _ _ lk) rfl S.co S.gen rfl
    (PySem.W.codeRec_of KX hcd) (hb _ _ _ _ ?_)
  refine wpAny_newFunctionEnv_cells S.kind kinds (fun env he s1 x => ?_)
  subst he
  refine ⟨lim.keeps x.toInCall.keep, codeAny_func ?_⟩
  obtain ⟨t, ht, hq⟩ := body cdv A outer s H vs Q E gA (hr.deeper _) h
  have I := inv_start (CX := CX) (E := E) S hr.hd e0 hlen r x
  refine wpAny_mono (ht.run [] s1 (start N vs) H _ I hq) (fun fl s' hs => ?_) (fun e s' hs => hs)
  cases fl with
  | ret u =>
    obtain ⟨v, σ', H', J, rv, q⟩ := hs
    exact ⟨v, H', J.os, J.bare, J.base, J.hok, rv, q⟩
  | next =>
    obtain ⟨σ', H', J, q⟩ := hs
    exact ⟨V.non, H', J.os, J.bare, J.base, J.hok, rfl, q⟩
  | brk =>
    obtain ⟨_, _, _, q⟩ := hs
    exact q.elim
  | cont =>
    obtain ⟨_, _, _, q⟩ := hs
    exact q.elim
end

section
variable {X : Cx} {CX : CXT} {k : Nat} {f : Addr} {fd : FuncData} {ps : List Str} {sp : Sp}
  {E : XK} {x : Str} {p pos : Pos} {e : Expr} {es : List Expr} {t : TA}

theorem run_G {pins : List (Addr × Obj)} {σ : L2.St} {H : Hp} {s : Shared} {Q : VK} {us : List Value} {vs : List V}
    (F : FnG X.prog X.w X.K X.mg X.base CX k f fd ps sp) (gA : Still X.A) (hr : Room k X.A)
    (hb : Binds X.K fd ps []) (hx : Passes CX X E) (I : Inv X pins σ H s) (r : Vals vs us) (h : sp vs H Q E) :
    wpAny (model X.prog X.w) X.A (call (.ref f) us) (EP X pins σ Q) X.xe s := by
  have hl : us.length = ps.length := by rw [← r.length]; exact F.many _ _ _ _ h
  have b := hb s us I.kIn (by rw [List.append_nil]; exact hl)
  rw [List.append_nil] at b
  refine wpAny_call (codeAny_mono (F.go X.A X.stack s H ⟨us, []⟩ us vs Q E gA hr I.env0 b r h) (fun r s' hq => ?_))
  match r, hq with
  | .error er, hq => exact hx pins σ H s er s' I hq
  | .ok (.ret u), hq => exact I.after hq
  | .ok .next, hq => exact hq.elim
  | .ok .brk, hq => exact hq.elim
  | .ok .cont, hq => exact hq.elim

/-- f(e, ..) where no repr is under way -/
theorem pe_callG (F : FnG X.prog X.w X.K X.mg X.base CX k f fd ps sp) (gA : Still X.A) (hr : Room k X.A)
    (hg : Gl X x) (hm : X.mg x = some (.ref f)) (hk : PySem.W.keepIn X.K (.ref f) = true)
    (hb : Binds X.K fd ps []) (hx : Passes CX X E) (ha : PA X (e :: es) t)
    (hdb : (x == ("__debug__" : Str)) = false := by decide)
    (he : starEach (e :: es) X.env = (false, eval e X.env) :: starEach es X.env := by rfl)
    (hpl : (backTo pos (starEach es X.env)).any (·.1) = false := by rfl) :
    PE X (.Call (.Name x p) (e :: es) [] pos) (tCall sp [] E t) := by
  refine ⟨fun pins s σ H Q I h => wpAny_Call_Name_kw (ld_glob I hg hm ?_ hdb)⟩
  refine PySem.W.callWith_K (h₀ := X.base) I.ok.mod.kin hk (thn (ha.run pos pins s σ H _ I h) ?_) he hpl
  rintro us s1 ⟨vs, H1, I1, r, q⟩
  rw [List.append_nil] at q
  exact ⟨I1.kIn, run_G F gA hr hb hx I1 r q⟩
end

/-! ### the law's own call -/
theorem law_callG {P : Program} {w : World} {K : PySem.W.Frag} {mg mb : Str → Option Value} {CX : CXT} {k : Nat}
    {fa a : Addr} {fd : FuncData} {x : Str} {sp : Sp} {s₁ : Shared} {vs : List Value} {ns : List Int}
    (KX : K.In s₁.heap) (hns : s₁.heap.Ns mainGlobals mg) (hb : s₁.heap.Ns builtinsNs mb)
    (hbb : ∀ x : Str, x ≠ "__name__" → mb x = bootBuiltins x) (hlim : s₁.heap.NoLimit) (hg : s₁.gens = #[])
    (ha : s₁.heap.get? a = some { cls := .type "list", data := .seq vs.toArray }) (hi : IntsAre vs ns)
    (hl : ns.length ≤ sizeLine) (hr : Room k callerA)
    (F : ∀ base : Heap, K.In base → base.Ns mainGlobals mg → FnG P w K mg base CX k fa fd [x] sp)
    (hbind : ∀ (s : Shared) (u : Value), BindsTo s fd ⟨[u], []⟩ [(x, u)])
    (hsp : ∀ H : Hp, Only H → SqL K H a (ns.map V.int) → sp [.ref a] H (fun v _ => v = .bl true) fun _ _ _ => False)
    (hCX : ∀ H e s', CX [] H s₁ (fun _ _ _ => False) e s' → False) :
    codeAny (model P w) callerA (.call (.ref fa) ⟨[.ref a], []⟩)
      (fun r s' => r = .ok (.ret (.bool true)) ∧ OldK s₁.heap s'.heap ∧ s'.os = s₁.os ∧ AllBare s'.gens) s₁ := by
  have rv := vals_ints hi
  have core : ∀ H : Hp, Only H → SqL K H a (ns.map V.int) → HOk P w H s₁.heap →
      (∀ b, H b ≠ none → b = a) → (H a ≠ none → K.lookup a = none) →
      codeAny (model P w) callerA (.call (.ref fa) ⟨[.ref a], []⟩)
        (fun r s' => r = .ok (.ret (.bool true)) ∧ OldK s₁.heap s'.heap ∧ s'.os = s₁.os ∧ AllBare s'.gens) s₁ := by
    intro H hO hS hok hA hK
    have only : ∀ {b : Addr} {u : HO}, H b = some u → b = a := fun {b u} q => hA b (by rw [q]; exact fun z => by cases z)
    have noD : ∀ {b : Addr} {o : Obj} {es : Array DictEntry} {ep : Nat}, s₁.heap.get? b = some o →
        o.data = .dict es ep → H b = none := by
      intro b o es ep e d
      cases q : H b with
      | none => rfl
      | some u =>
        have e' := only q
        subst e'
        rw [ha] at e
        cases e
        cases d
    have nsK : ∀ {b : Addr} {m : Str → Option Value}, s₁.heap.Ns b m → (hidT s₁.heap H).Ns b m := by
      rintro b m ⟨o, es, ep, e, d, r⟩
      exact ⟨o, es, ep, hidT_get e (noD e d), d, r⟩
    have hKb : K.In (hidT s₁.heap H) := by
      intro b o e
      refine hidT_get (KX b o e) ?_
      cases q : H b with
      | none => rfl
      | some u =>
        have e' := only q
        subst e'
        rw [hK (by rw [q]; exact fun z => by cases z)] at e
        cases e
    obtain ⟨mc, l1, l2⟩ := hlim
    have hM : Mod K mg (hidT s₁.heap H) := ⟨hKb, nsK hns, ⟨mb, nsK hb, hbb⟩, ⟨mc, nsK l1, l2⟩⟩
    have nil : ∀ {b : Addr}, b ∉ ([] : List Addr) := fun h => by cases h
    have e0 : Env0 P w K mg (hidT s₁.heap H) callerA [] s₁ H :=
      ⟨rfl, hM, fun b o e => of_hidT e, Nat.le_of_eq (hidT_size _ _), trivial, fun b hb => (nil hb).elim, hok, .of_eq hg⟩
    refine codeAny_mono ((F _ hKb (nsK hns)).go callerA [] s₁ H ⟨[.ref a], []⟩ [.ref a] [.ref a] _ _ rfl hr e0
      (hbind s₁ (.ref a)) (.cons rfl .nil) (hsp H hO hS)) (fun r s' h => ?_)
    match r, h with
    | .error e, h => exact (hCX H e s' h).elim
    | .ok .next, h => exact h.elim
    | .ok .brk, h => exact h.elim
    | .ok .cont, h => exact h.elim
    | .ok (.ret u), h =>
      obtain ⟨v, H', os, bare, un, hok', r', q⟩ := h
      have q' : v = .bl true := q
      subst q'
      cases (show u = Value.bool true from r')
      refine ⟨rfl, OldK.of_keep (fun b o e => ?_), os, bare⟩
      rcases hO b with z | ⟨ob, xs, z⟩
      · exact un.keep b o e z nil nil
      · obtain ⟨e1, _⟩ := hok b _ z
        obtain ⟨e2, _⟩ := hok' b _ (un.frzs b ob _ z)
        rw [e] at e1
        cases e1
        exact e2
  cases hk : K.lookup a with
  | some o =>
    have e := KX a o hk
    rw [ha] at e
    cases e
    refine core (fun _ => none) (fun _ => Or.inl rfl) (Or.inr ⟨_, vs.toArray, _, hk, rfl, rfl, rfl, ?_, by simpa using rv⟩)
      (fun b u z => by cases (show (none : Option HO) = some u from z)) (fun b z => (z rfl).elim) (fun z => (z rfl).elim)
    rw [List.size_toArray, hi.length]
    exact hl
  | none =>
    let o0 : Obj := { cls := .type "list", data := .seq vs.toArray }
    refine core (fun b => if b = a then some (.frz o0 (.lst (ns.map V.int))) else none) (fun b => ?_)
      (Or.inl (Or.inr ⟨o0, if_pos rfl⟩)) (fun b u z => ?_) (fun b z => ?_) (fun _ => hk)
    · by_cases hb : b = a
      · exact Or.inr ⟨_, _, if_pos hb⟩
      · exact Or.inl (if_neg hb)
    · by_cases hb : b = a
      · cases (if_pos hb).symm.trans z
        subst hb
        exact ⟨ha, by rw [List.length_map]; exact hl, vs, _, rv, ha⟩
      · cases (if_neg hb).symm.trans z
    · by_cases hb : b = a
      · exact hb
      · exact (z (if_neg hb)).elim

theorem walk_ofG {l : PySem.W.OpenLaw} {n k : Nat} {q : Program} {loose : List Str}
    {XP : (Str → Option Value) → Heap → Prop} {YP : World → Heap → Prop} {d : DefRec}
    {K : Params → PySem.W.Frag} {CX : World → CXT} {sp : World → Sp} {x : Str}
    (hn : l.most = some n) (hn2 : n ≤ sizeLine) (hdf : d.params.defaults = []) (hr : Room k callerA)
    (hY : ∀ (w : World) (h : Heap), YP w h → (K w.params).In h)
    (F : ∀ (w : World) (mg : Str → Option Value) (fa : Addr) (h : Heap), (K w.params).In h →
      h.Ns mainGlobals mg → mg d.name = some (.ref fa) →
      ∃ fd : FuncData, (∀ (s : Shared) (u : Value), BindsTo s fd ⟨[u], []⟩ [(x, u)]) ∧
        ∀ base : Heap, (K w.params).In base → base.Ns mainGlobals mg →
          FnG l.prog w (K w.params) mg base (CX w) k fa fd [x] (sp w))
    (hsp : ∀ (w : World) (H : Hp) (a : Addr) (ns : List Int), ns.length ≤ n → Only H →
      SqL (K w.params) H a (ns.map V.int) → sp w [.ref a] H (fun v _ => v = .bl true) fun _ _ _ => False)
    (hCX : ∀ (w : World) (H : Hp) (s : Shared) (e : Value) (s' : Shared), CX w [] H s (fun _ _ _ => False) e s' → False) :
    PySem.W.WalkO q loose XP YP l.row.toRowW d [] (fun f vs => PySem.call f vs) := by
  refine Att.attach_call hn hdf ?_
  intro w s₀ s₁ mg mb fa o pm cd doc a vs ns G Y ho hd hcd hmg hobj hints hlen hg
  obtain ⟨fd, hb, hF⟩ := F w mg fa _ (hY w _ Y) G.T.g hmg
  exact law_callG (hY w _ Y) G.T.g G.T.b G.T.builtins G.T.nolimit hg hobj hints (Nat.le_trans hlen hn2) hr hF hb
    (fun H hO hS => hsp w H a ns hlen hO hS) (fun H e s' => hCX w H s₁ e s')
end Mq

namespace Mq
open PySem PySem.Spec PyProof.Rows L2

/-! ### repr of data, dicts among them -/
def keyD : Key → PyData
  | .inl i => .int i
  | .inr x => .str x
mutual
inductive Dg (K : PySem.W.Frag) (H : Hp) : V → PyData → Prop
  | non : Dg K H .non .none
  | bl (b : Bool) : Dg K H (.bl b) (.bool b)
  | int (i : Int) : Dg K H (.int i) (.int i)
  | str (x : Str) : Dg K H (.str x) (.str x)
  | lst {a : Addr} {xs : List V} {ds : List PyData} : a ≠ sysModules → SqL K H a xs → DgAll K H xs ds → Dg K H (.ref a) (.list ds)
  | tup {a : Addr} {xs : List V} {ds : List PyData} : SqT K H a xs → DgAll K H xs ds → Dg K H (.ref a) (.tuple ds)
  | dct {a : Addr} {kvs : List (Key × V)} {ds : List (PyData × PyData)} : H a = some (.dK kvs) → DgKv K H kvs ds → Dg K H (.ref a) (.dict ds)
inductive DgAll (K : PySem.W.Frag) (H : Hp) : List V → List PyData → Prop
  | nil : DgAll K H [] []
  | cons {v : V} {vs : List V} {d : PyData} {ds : List PyData} : Dg K H v d → DgAll K H vs ds → DgAll K H (v :: vs) (d :: ds)
inductive DgKv (K : PySem.W.Frag) (H : Hp) : List (Key × V) → List (PyData × PyData) → Prop
  | nil : DgKv K H [] []
  | cons {k : Key} {v : V} {vs : List (Key × V)} {d : PyData} {ds : List (PyData × PyData)} : Dg K H v d → DgKv K H vs ds → DgKv K H ((k, v) :: vs) ((keyD k, d) :: ds)
end
section
variable {X : Cx} {pins : List (Addr × Obj)} {σ : L2.St} {H : Hp} {s : Shared}
theorem reads_key {h : Heap} {k : Key} {u : Value} (e : keyIs k u = true) : Reads h u (keyD k) [] := by
  rcases keyIs_shape e with ⟨i, t, rfl, rfl⟩ | ⟨x, t, rfl, rfl⟩
  · exact Reads.int i t
  · exact Reads.str x t
mutual
theorem Dg.rd (I : Inv X pins σ H s) : ∀ {d : PyData} {v : V} {u : Value}, Dg X.K H v d → RelV v u →
    ∃ as, Reads s.heap u d as ∧ sysModules ∉ as
  | _, _, _, .non, r => by cases r; exact ⟨[], .none, fun h => by cases h⟩
  | _, _, _, .bl b, r => by cases r; exact ⟨[], .bool b, fun h => by cases h⟩
  | _, _, _, .int i, r => by obtain ⟨t, rfl⟩ := r; exact ⟨[], .int i t, fun h => by cases h⟩
  | _, _, _, .str x, r => by obtain ⟨t, rfl⟩ := r; exact ⟨[], .str x t, fun h => by cases h⟩
  | _, _, _, .lst ne hs ha, r => by
    cases r
    obtain ⟨its, rv, ⟨o, n, ho, hc, _, hd⟩, _⟩ := I.list hs
    obtain ⟨as, hr, hn⟩ := DgAll.rd I ha rv
    refine ⟨_, Reads.list ho hc hd hr, fun hm => ?_⟩
    rcases List.mem_cons.mp hm with e | e
    · exact ne e.symm
    · exact hn e
  | _, _, _, .tup hs ha, r => by
    cases r
    obtain ⟨its, rv, ⟨o, ho, hc, n, hd⟩, _⟩ := I.tuple hs
    obtain ⟨as, hr, hn⟩ := DgAll.rd I ha rv
    exact ⟨_, Reads.tuple ho hc hd hr, hn⟩
  | _, _, _, .dct (a := a) hs ha, r => by
    cases r
    obtain ⟨_, ns, us, rk, o, es, ep, ho, hx, hd, _, hp, _⟩ := I.hok a _ hs
    obtain ⟨as, bs, r1, r2, n1, n2⟩ := DgKv.rd I ha rk hp
    refine ⟨_, Reads.dict ho hx.1 hd r1 r2, fun hm => ?_⟩
    rcases List.mem_append.mp hm with hm | hm
    · rcases List.mem_cons.mp hm with e | e
      · rw [← e] at ns
        simp at ns
      · exact n1 e
    · exact n2 hm
theorem DgAll.rd (I : Inv X pins σ H s) : ∀ {ds : List PyData} {vs : List V} {us : List Value}, DgAll X.K H vs ds → Vals vs us →
    ∃ as, ReadsAll s.heap us ds as ∧ sysModules ∉ as
  | _, _, _, .nil, r => by cases r; exact ⟨[], .nil, fun h => by cases h⟩
  | _, _, _, .cons h1 h2, r => by
    cases r with
    | cons r1 r2 =>
      obtain ⟨as, q1, n1⟩ := Dg.rd I h1 r1
      obtain ⟨bs, q2, n2⟩ := DgAll.rd I h2 r2
      exact ⟨_, ReadsAll.cons q1 q2, fun hm => (List.mem_append.mp hm).elim n1 n2⟩
theorem DgKv.rd (I : Inv X pins σ H s) : ∀ {ds : List (PyData × PyData)} {vs : List (Key × V)} {us : List (Key × Value)} {es : List DictEntry}, DgKv X.K H vs ds → KV vs us →
    Pairs (mixKind X.prog X.w) es us →
    ∃ as bs, ReadsAll s.heap (es.map (·.key)) (ds.map (·.1)) as ∧ ReadsAll s.heap (es.map (·.val)) (ds.map (·.2)) bs ∧ sysModules ∉ as ∧ sysModules ∉ bs
  | _, _, _, _, .nil, r, p => by
    cases r
    cases p
    exact ⟨[], [], ReadsAll.nil, ReadsAll.nil, (fun h => by cases h), (fun h => by cases h)⟩
  | _, _, _, _, .cons h1 h2, r, p => by
    cases r with
    | cons r1 r2 =>
      cases p with
      | cons p3 p4 p2 =>
        obtain ⟨e1, e2⟩ := r1
        obtain ⟨as, q1, n1⟩ := Dg.rd I h1 e2
        obtain ⟨bs, cs, q2, q3, n2, n3⟩ := DgKv.rd I h2 r2 p2
        rw [← p4] at q1
        have p3' := p3
        rw [← e1] at p3'
        exact ⟨_, _, ReadsAll.cons (reads_key p3') q2, ReadsAll.cons q1 q3, fun hm => (List.mem_append.mp hm).elim (fun z => by cases z) n2,
          fun hm => (List.mem_append.mp hm).elim n1 n3⟩
end
/-- repr(v), v data -/
def rRep (K : PySem.W.Frag) : List V → Hp → VK → Prop := fun xs H Q => ∃ v d, xs = [v] ∧ Dg K H v d ∧ d.showable = true ∧
  d.depth ≤ 40 ∧ d.shown.length ≤ sizeLine ∧ Q (.str d.shown) H
theorem call_rep {k : Nat} (hr : Room k X.A) (gA : Still X.A) : CallR X (.builtin "repr") (rRep X.K) := by
  intro pins s σ H xs us Q I r h
  obtain ⟨v, d, rfl, hd, hs, hz, hl, q⟩ := h
  cases r with
  | cons rx rr =>
    cases rr
    have hu := hr.units
    obtain ⟨as, rd, hn⟩ := Dg.rd I hd rx
    have leaf : ∀ {d : PyData} {t : Tok}, Q (.str d.shown) H → EP X pins σ Q (.str d.shown t) { s with toks := s.toks + 1 } :=
      fun {d t} q => ⟨.str d.shown, H, I.tok _, ⟨_, rfl⟩, q⟩
    cases hd with
    | non =>
      cases rx
      exact PySem.P.repr_of_none (leaf (d := .none) q)
    | bl b =>
      cases rx
      exact PySem.P.repr_of_bool (leaf (d := .bool b) q)
    | int i =>
      obtain ⟨t, rfl⟩ := rx
      exact PySem.P.repr_of_int (by simpa [PyData.showable] using hs) (leaf (d := .int i) q)
    | str x =>
      obtain ⟨t, rfl⟩ := rx
      refine PySem.P.repr_of_str (leaf (d := .str x) q) ?_
      simpa only [PyData.shown] using hl
    | lst ne h1 h2 =>
      cases rx
      exact repr_of_reads' rd hs (fun _ => hn) gA (by omega) (fun _ _ e => e) (fun h' u tk k => ⟨.str _, H, I.kept k, ⟨_, rfl⟩, q⟩) hl
    | tup h1 h2 =>
      cases rx
      exact repr_of_reads' rd hs (fun _ => hn) gA (by omega) (fun _ _ e => e) (fun h' u tk k => ⟨.str _, H, I.kept k, ⟨_, rfl⟩, q⟩) hl
    | dct h1 h2 =>
      cases rx
      exact repr_of_reads' rd hs (fun _ => hn) gA (by omega) (fun _ _ e => e) (fun h' u tk k => ⟨.str _, H, I.kept k, ⟨_, rfl⟩, q⟩) hl
/-- no new object stands where the modules stand -/
theorem Inv.low (I : Inv X pins σ H s) : sysModules < s.heap.objs.size := by
  have h1 := I.mod.glob.lt
  have h2 := I.ok.bsz
  have h3 := I.sz
  have h4 : sysModules < mainGlobals := by decide
  exact Nat.lt_of_lt_of_le (Nat.lt_trans h4 h1) (Nat.le_trans h2 h3)
/-- a list display, told to stand elsewhere than the modules -/
def tLs (t : TA) : TE := fun σ H Q => t σ H fun xs H1 => xs.length ≤ sizeLine ∧ ∀ p, H1 p = none → p ≠ sysModules → Q (.ref p) (upd H1 p (.lst xs))
theorem pe_ls {es : List Expr} {t : TA} {pos : Pos} (h : PA X es t) : PE X (.List es pos) (tLs t) := by
  refine ⟨fun pins s σ H Q I hq => wpAny_List_spliced (thn (h.run pos pins s σ H _ I hq) ?_)⟩
  rintro us s1 ⟨xs, H1, I1, r, z, q⟩
  have hz : us.length ≤ sizeLine := by rw [← r.length]; exact z
  have nw : H1 s1.heap.objs.size = none := I1.hok.fresh (Nat.le_refl _)
  refine ⟨hz, .ref s1.heap.objs.size, upd H1 s1.heap.objs.size (.lst xs), ?_, rfl, q _ nw (Nat.ne_of_gt (Inv.low I1))⟩
  exact I1.laid (t' := s1.toks) (fun b u e => Heap.get?_push_of_some _ e) (Nat.le_refl _) ⟨z, us, 0, r, Heap.get?_push_size _ rfl⟩
end
end Mq

namespace Mq
open PySem PySem.Spec PyProof.Rows L2
open PySem.W (Frag)
open PySem.Builtin.ObjectAttr
/-! ### own errors over Exception, with one field -/
abbrev exTail : List Value := [.type "Exception", .type "BaseException", .type "object"]
section
variable {prog : Program} {w : World} {A : Around} {E : Value → Shared → Prop} {R : Result → Shared → Prop}
  {hp : Heap} {g : Array GenState} {d : Drawn} {t : Nat} {os : OsState} {K : Frag}
theorem osa_first {name : Str} {tk : Tok} {v : Value} {x C t1 : Addr} (X : K.In hp)
    (hx : hp.get? x = some (PySem.W.excObj C t1 none .none)) (ho : PySem.W.excOver K C exTail = true)
    (hh : PySem.W.hasDictIn K C = true) (ht : PySem.W.takerIn K C name = some none)
    (hq : ∀ h' tk' dx, (∀ b o, b ≠ x → hp.get? b = some o → h'.get? b = some o) → hp.objs.size ≤ dx → dx ≠ x →
      h'.get? x = some (PySem.W.excObj C t1 (some dx) .none) → h'.Ns1 dx (fun y => if y = name then some v else none) →
      R (.ok (.ret .none)) ⟨h', g, d, tk', os⟩) :
    codeAny (model prog w) A (.call (.builtin "object.__setattr__") ⟨[.ref x, .str name tk, v], []⟩) R ⟨hp, g, d, t, os⟩ := by
  refine PySem.W.osa_openX (od := none) (s := ⟨hp, g, d, t, os⟩) F.store_Exception X ⟨hx, rfl, rfl, trivial⟩ ho ht (fun b => ?_)
  obtain ⟨cd, hc, hd'⟩ := PySem.W.any_some hh
  refine wpAny_bind (wpAny_pure (wpAny_bind (PySem.W.instanceDict_exc hx (PySem.W.looks_clsIn X hc) hd' ?_)))
  show wpAny _ _ (storeInDict hp.objs.size (.str name tk) name v) _ _ _
  have hxs : x ≠ hp.objs.size := Nat.ne_of_lt (Heap.lt_size hx)
  have hx1 : (hp.push (PySem.W.dictOf [] 0)).get? x = some (PySem.W.excObj C t1 none .none) := Heap.get?_push_of_some _ hx
  refine PySem.HandSPX.store_in_new ?_ ?_
  · exact ⟨_, #[], _, (Heap.get?_update_ne _ _ _ _ hxs.symm).trans (Heap.get?_push_at rfl rfl), rfl, (fun e he => absurd he (by simp)), fun _ => rfl⟩
  · intro h' tk' hn' hs
    refine hq h' tk' hp.objs.size (fun b o hb ho => ?_) (Nat.le_refl _) hxs.symm ?_ hn'
    · exact (hs.2 b (Nat.ne_of_lt (Heap.lt_size ho))).trans ((Heap.get?_update_ne _ _ _ _ hb).trans (Heap.get?_push_of_some _ ho))
    · exact (hs.2 x hxs).trans (Heap.get?_update_self _ hx1 rfl)
end
end Mq

namespace Mq
open PySem PySem.Spec PyProof.Rows L2
/-! ### the error that a suite holds: its class, its field -/
/-- what the class at D says, so that isinstance asks its errors rightly -/
structure HeldC (K : PySem.W.Frag) (D : Addr) : Prop where
  cl : (PySem.W.clsIn K D).isSome = true
  ga : PySem.W.findIn K (.ref D) "__getattribute__" = some (some (.builtin "BaseException.__getattribute__"))
  gg : PySem.W.findIn K (.ref D) "__getattr__" = some none
  sb : PySem.W.subIn K (.ref D) (.type "BaseException") = some true
  ca : PySem.W.findIn K (.ref D) "__class__" = some (some (.builtin "object.__class__"))
  sp : PySem.W.specialIn K (.builtin "object.__class__") "__get__" = some (some (.builtin "getset_descriptor.__get__"))
  tk : PySem.W.takesIn K (.builtin "object.__class__") = some true
  mo : PySem.W.mroIn K D (.type "object") = some true
/-- isinstance(e, c), e the error at a -/
def rHeld (K : PySem.W.Frag) (D a : Addr) (d : Option Addr) : List V → Hp → VK → Prop := fun xs H Q => ∃ (dd c : Addr) (fs : List (Str × V)) (b : Bool),
  xs = [.ref a, .ref c] ∧ d = some dd ∧ H dd = some (.xd fs) ∧ PySem.W.kitOne K (.ref D) (.ref c) = some b ∧ Q (.bl b) H
theorem call_held {X : Cx} {a D : Addr} {oe : Obj} {d : Option Addr} {pn : List (Addr × Obj)} (C : HeldC X.K D) (hz : Zc (.ref D) d oe)
    (hf : ∃ vs, oe.data = .fields vs) : CallR (X.suite a ((a, oe) :: pn)) (.builtin "isinstance") (rHeld X.K D a d) := by
  intro pins s σ H xs us Q I r h
  obtain ⟨dd, c, fs, b, rfl, rfl, hd, e, q⟩ := h
  cases r with
  | cons rx rr =>
    cases rr with
    | cons rt rr =>
      cases rr
      cases rx
      cases rt
      obtain ⟨hget, _⟩ := I.pin (a, oe) (List.mem_append.mpr (Or.inl List.mem_cons_self))
      obtain ⟨vs, hv⟩ := hf
      obtain ⟨mA, ⟨od, es, ep, ho, _⟩, _⟩ := (show ObjOk X.prog X.w H s.heap dd (.xd fs) from I.hok dd _ hd)
      have J : PySem.W.InstAt s.heap a oe D (some od) := by
        refine ⟨hget, hz.1, ?_, ?_⟩
        · unfold PySem.W.notCls
          rw [hv]
        · rw [hz.2]
          exact ho
      refine PySem.W.kia_one (PySem.W.kitx_exc C.cl C.ga C.gg C.sb C.ca C.sp C.tk C.mo) I.kIn J e (fun z => by cases z) (fun tk => ?_)
      exact ⟨.bl b, H, I.kept (t' := tk) (fun _ _ z => z), rfl, q⟩
/-! ### methods that raise, called within a try -/
section
variable {X : Cx} {CX : CXT} {k : Nat} {f C : Addr} {fd : FuncData} {ps : List Str} {sp : Sp}
  {E : L2.St → XK} {m : Str} {pos apos : Pos} {e o : Expr} {es : List Expr} {kws : List Keyword} {ta : TE} {t tk : TA}
def tMethT (C : Addr) (m : Str) (sp : Sp) (E : L2.St → XK) (ta : TE) (t : TA) : TE := fun σ H Q => ta σ H fun x H1 => ∃ a dx fs,
  x = .ref a ∧ H1 a = some (.ins C dx fs) ∧ fs.lookup m = none ∧ t σ H1 fun vs H2 => sp (x :: vs) H2 Q (E σ)
theorem pe_methT {pl : Sem Bool} (he : PE X o ta) (c : Cls X.K C) (hm : Meth X.K C m f)
    (F : FnOk X.prog X.w X.K X.mg X.base CX k f fd ps sp) (hr : Room k X.A) (hb : Binds X.K fd ps [])
    (hx : ∀ σ, PassesAt CX X σ (E σ)) (ha : PA X (e :: es) t)
    (hst : starEach (e :: es) X.env = (false, eval e X.env) :: starEach es X.env := by rfl)
    (hpl : (backTo pos (starEach es X.env)).any (·.1) = false := by rfl)
    (ht : eval (.Call (.Attribute o m apos) (e :: es) [] pos) X.env = (do
      let ov ← eval o X.env
      standAt apos.atName
      let (f, first) ← holding [ov] (getMethod ov m pl)
      callWith pos f first (backTo pos (starEach (e :: es) X.env)) (backToKw pos (keywordEach [] X.env))) := by rfl) :
    PE X (.Call (.Attribute o m apos) (e :: es) [] pos) (tMethT C m sp E ta t) := by
  refine ⟨fun pins s σ H Q I h => PySem.W.methodCall_KW (pl := pl) (thn (he.run pins s σ H _ I h) ?_) ht⟩
  rintro u s1 ⟨x, H1, I1, rx, a, dx, fs, rfl, ea, l, q⟩
  cases rx
  refine getmeth_ok I1 ea c hm l ?_
  refine PySem.W.callWith_K (first := [.ref a]) (h₀ := X.base) I.ok.mod.kin hm.kp (thn (ha.run pos pins s1 σ H1 _ I1 q) ?_) hst hpl
  rintro us s2 ⟨vs, H2, I2, r, q2⟩
  exact ⟨I2.kIn, run_fnS (us := .ref a :: us) (vs := .ref a :: vs) F hr hb (hx σ) I2 (.cons rfl r) q2⟩
end
end Mq
namespace Mq
open PySem PySem.Spec PyProof.Rows L2
section
variable {X : Cx} {CX : CXT} {k : Nat} {f C : Addr} {fd : FuncData} {ps ks : List Str} {sp : Sp}
  {E : L2.St → XK} {m : Str} {pos apos : Pos} {o : Expr} {kws : List Keyword} {ta : TE} {tk : TA}
  {g : List Value → List Value → List Value} {gV : List V → List V → List V}
def tMethK (C : Addr) (m : Str) (many : Nat) (sp : Sp) (gV : List V → List V → List V) (E : L2.St → XK) (ta : TE) (tk : TA) : TE := fun σ H Q => ta σ H fun x H1 => ∃ a dx fs,
  x = .ref a ∧ H1 a = some (.ins C dx fs) ∧ fs.lookup m = none ∧ tk σ H1 fun zs H2 => zs.length = many ∧ sp (gV [x] zs) H2 Q (E σ)
/-- o.m(k = v, ..), what is raised being wished for at the slots as they stand -/
theorem pe_methK {pl : Sem Bool} (he : PE X o ta) (c : Cls X.K C) (hm : Meth X.K C m f)
    (F : FnOk X.prog X.w X.K X.mg X.base CX k f fd ps sp) (hr : Room k X.A) (hb : KBn X.K fd ps 1 ks g gV)
    (hx : ∀ σ, PassesAt CX X σ (E σ)) (hkw : PK X kws tk)
    (hall : (backToKw pos (keywordEach kws X.env)).all (·.1.isSome) = true := by rfl)
    (hks : (backToKw pos (keywordEach kws X.env)).filterMap (·.1) = ks := by rfl)
    (hpl : ((backTo pos (starEach [] X.env)).any (·.1) || (backToKw pos (keywordEach kws X.env)).any (·.1.isNone)) = false := by rfl)
    (ht : eval (.Call (.Attribute o m apos) [] kws pos) X.env = (do
      let ov ← eval o X.env
      standAt apos.atName
      let (f, first) ← holding [ov] (getMethod ov m pl)
      callWith pos f first (backTo pos (starEach [] X.env)) (backToKw pos (keywordEach kws X.env))) := by rfl) :
    PE X (.Call (.Attribute o m apos) [] kws pos) (tMethK C m ks.length sp gV E ta tk) := by
  refine ⟨fun pins s σ H Q I h => PySem.W.methodCall_KW (pl := pl) (thn (he.run pins s σ H _ I h) ?_) ht⟩
  rintro u s1 ⟨x, H1, I1, rx, a, dx, fs, rfl, ea, l, q⟩
  cases rx
  refine getmeth_ok I1 ea c hm l ?_
  refine PySem.W.callWith_KW0 (first := [.ref a]) (h₀ := X.base) I.ok.mod.kin hm.kp hall (thn (hkw.run pos pins s1 σ H1 _ I1 q) ?_) hpl
  rintro ws s2 ⟨zs, H2, I2, rz, hl, q2⟩
  refine ⟨I2.kIn, ?_⟩
  rw [hks]
  have r1 : Vals [V.ref a] [Value.ref a] := .cons rfl .nil
  have r2 := hb.rel r1 rz
  have lw : ws.length = ks.length := rz.length.symm.trans hl
  show wpAny _ _ (call (.ref f) [.ref a] (ks.zip ws)) _ _ _
  refine wpAny_call (codeAny_mono (F.run X.A X.stack s2 H2 ⟨[.ref a], ks.zip ws⟩ (g [.ref a] ws) (gV [.ref a] zs) Q (E σ) hr I2.env0
    (hb.to s2 [.ref a] ws I2.kIn rfl lw) r2 q2) (fun r s' hq => ?_))
  match r, hq with
  | .error er, hq => exact hx σ pins H2 s2 er s' I2 hq
  | .ok (.ret u), hq => exact I2.after hq
  | .ok .next, hq => exact hq.elim
  | .ok .brk, hq => exact hq.elim
  | .ok .cont, hq => exact hq.elim
end
end Mq

namespace Mq
open PySem PySem.Spec PyProof.Rows L2
open SX (S)
/-! ### what the module leaves of the built-in names -/
structure Blt (mg : Str → Option Value) : Prop where
  len : mg "len" = none
  range : mg "range" = none
  isi : mg "isinstance" = none
  all : mg "all" = none
  any : mg "any" = none
  int : mg "int" = none
  str : mg "str" = none
  bool : mg "bool" = none
  tuple : mg "tuple" = none
  list : mg "list" = none
  repr : mg "repr" = none
  enumerate : mg "enumerate" = none
/-! ### heaps that keep what was told -/
theorem same_new {H : Hp} {p : Addr} {o : HO} (h : H p = none) : Same H (upd H p o) := fun b u e => by
  rw [upd_ne (ne_of_none e h)]
  exact e
theorem Same.tup {K : PySem.W.Frag} {H H' : Hp} {a : Addr} {xs : List V} (e : Same H H') (h : SqT K H a xs) : SqT K H' a xs := by
  rcases h with (h | ⟨o, h⟩) | h
  · exact Or.inl (Or.inl (e _ _ h))
  · exact Or.inl (Or.inr ⟨o, e _ _ h⟩)
  · exact Or.inr h
mutual
theorem Dg.same {K : PySem.W.Frag} {H H' : Hp} (e : Same H H') : ∀ {v : V} {d : PyData}, Dg K H v d → Dg K H' v d
  | _, _, .non => .non
  | _, _, .bl b => .bl b
  | _, _, .int i => .int i
  | _, _, .str x => .str x
  | _, _, .lst n h a => .lst n (e.seq h) (DgAll.same e a)
  | _, _, .tup h a => .tup (Same.tup e h) (DgAll.same e a)
  | _, _, .dct h a => .dct (e _ _ h) (DgKv.same e a)
theorem DgAll.same {K : PySem.W.Frag} {H H' : Hp} (e : Same H H') : ∀ {v : List V} {d : List PyData}, DgAll K H v d → DgAll K H' v d
  | _, _, .nil => .nil
  | _, _, .cons a b => .cons (Dg.same e a) (DgAll.same e b)
theorem DgKv.same {K : PySem.W.Frag} {H H' : Hp} (e : Same H H') : ∀ {v : List (Key × V)} {d : List (PyData × PyData)}, DgKv K H v d → DgKv K H' v d
  | _, _, .nil => .nil
  | _, _, .cons a b => .cons (Dg.same e a) (DgKv.same e b)
end
mutual
theorem Dp.same {K : PySem.W.Frag} {H H' : Hp} (e : Same H H') : ∀ {v : V} {d : PyData}, Dp K H v d → Dp K H' v d
  | _, _, .non => .non
  | _, _, .bl b => .bl b
  | _, _, .int i => .int i
  | _, _, .str x => .str x
  | _, _, .lst h a => .lst (e.seq h) (DpAll.same e a)
  | _, _, .tup h a => .tup (Same.tup e h) (DpAll.same e a)
theorem DpAll.same {K : PySem.W.Frag} {H H' : Hp} (e : Same H H') : ∀ {v : List V} {d : List PyData}, DpAll K H v d → DpAll K H' v d
  | _, _, .nil => .nil
  | _, _, .cons a b => .cons (Dp.same e a) (DpAll.same e b)
end
/-! ### the kind of a value -/
def kindOf : PyData → String
  | .none => "NoneType"
  | .bool _ => "bool"
  | .int _ => "int"
  | .str _ => "str"
  | .list _ => "list"
  | .tuple _ => "tuple"
  | .dict _ => "dict"
theorem ty_list {K : PySem.W.Frag} {H : Hp} {a : Addr} {xs : List V} (h : SqL K H a xs) : TyX K H (.ref a) (.type "list") := by
  rcases h with (h | ⟨o, h⟩) | ⟨o, its, n, h, hc, _⟩
  · exact .base (.lst h)
  · exact .base (.frz h)
  · exact .kList h hc
theorem ty_tup {K : PySem.W.Frag} {H : Hp} {a : Addr} {xs : List V} (h : SqT K H a xs) : TyX K H (.ref a) (.type "tuple") := by
  rcases h with (h | ⟨o, h⟩) | ⟨o, its, n, h, hc, _⟩
  · exact .base (.tup h)
  · exact .fTuple h
  · exact .kTuple h hc
theorem Dg.ty {K : PySem.W.Frag} {H : Hp} {v : V} {d : PyData} (h : Dg K H v d) : TyX K H v (.type (kindOf d)) := by
  cases h with
  | non => exact .base .non
  | bl b => exact .base (.bl b)
  | int i => exact .base (.int i)
  | str x => exact .base (.str x)
  | lst _ h _ => exact ty_list h
  | tup h _ => exact ty_tup h
  | dct h _ => exact .base (.dK h)
theorem Dp.ty {K : PySem.W.Frag} {H : Hp} {v : V} {d : PyData} (h : Dp K H v d) : TyX K H v (.type (kindOf d)) := by
  cases h with
  | non => exact .base .non
  | bl b => exact .base (.bl b)
  | int i => exact .base (.int i)
  | str x => exact .base (.str x)
  | lst h _ => exact ty_list h
  | tup h _ => exact ty_tup h
/-- isinstance(x, T), T a built-in class -/
theorem isi_ty {K : PySem.W.Frag} {x : V} {a b : String} {r : Bool} {H : Hp} {Q : VK} (h : TyX K H x (.type a)) (e : kitB a b = some r) (q : Q (.bl r) H) :
    rIsi K [x, .ty b] H Q := ⟨x, .ty b, _, _, r, rfl, .ty b, h, kit_ty e, q⟩
theorem kit_known (a b : String) (ha : a ∈ ["NoneType", "bool", "int", "str", "list", "tuple", "dict"]) (hb : b ∈ ["str", "tuple", "list", "bool", "dict"]) :
    kitB a b = some (decide (a = b)) := by
  have h : (["NoneType", "bool", "int", "str", "list", "tuple", "dict"].all fun a => ["str", "tuple", "list", "bool", "dict"].all fun b =>
      decide (kitB a b = some (decide (a = b)))) = true := by decide +kernel
  have h1 := List.all_eq_true.mp h a ha
  have h2 := List.all_eq_true.mp h1 b hb
  exact of_decide_eq_true h2
theorem kind_in (d : PyData) : kindOf d ∈ ["NoneType", "bool", "int", "str", "list", "tuple", "dict"] := by
  cases d <;> simp [kindOf]
/-! ### comprehensions whose turns change nothing -/
theorem walk_rng {n : Nat} : Walk (Itr 0 n) n (fun _ => True) (YFn fun i => .int (i : Nat)) :=
  walk_range.mono (fun _ h => h) (fun i H x H' _ _ y => ⟨y.1, by rw [y.2]; show V.int (0 + (i : Int)) = V.int (i : Int); rw [Int.zero_add]⟩)
theorem lc_map {wi : TI} {J : It} {n : Nat} {G : Hp → Prop} {Y : Nat → Hp → V → Hp → Prop} (w : Walk J n G Y) {g : TG} {te : TE} {vs : List Nat} {σ : L2.St} {H0 : Hp} {Q : VK}
    (f : Nat → V) (hn : n ≤ 1000000) (hw : ∀ R : It → Hp → Prop, (∀ H, Same H0 H → G H → R J H) → wi σ H0 R) (hG : ∀ H H', Same H0 H → G H → Same H H' → G H')
    (hs : ∀ i x H H' (R : V → Hp → Prop), i < n → Same H0 H → Y i H x H' → (∀ H4, Same H H4 → R (f i) H4) →
      g x (wipe σ vs) H' fun σ2 H2 => wipe σ2 vs = wipe σ vs ∧ te σ2 H2 R)
    (hd : ∀ D H', H0 D = none → Same H0 H' → H' D = some (.lst ((List.range n).map f)) → Q (.ref D) H') : tLc wi g tYes te vs σ H0 Q := by
  refine hw _ (fun H sm0 hg0 D hD => ?_)
  have hD0 := sm0.free hD
  let Nx : Nat → Hp → Prop := fun i H' => Same H H' ∧ H' D = some (.lst ((List.range i).map f))
  refine ⟨fun i m H' => m = n - i ∧ i ≤ n ∧ Nx i H', ⟨n, by simp, Nat.zero_le _, same_new hD, upd_same⟩, ?_⟩
  rintro i m H' ⟨rfl, hi, sm, hl⟩
  have hg := hG H H' sm0 hg0 sm
  have sm' := sm0.trans sm
  by_cases hlt : i < n
  · refine Or.inr ⟨w.goes i H' hlt hg, Nx (i + 1), fun H'' p => ⟨n - (i + 1), by omega, rfl, hlt, p⟩, fun x H'' y => ?_⟩
    refine hs i x H' H'' _ hlt sm' (w.yields i H' x H'' hlt hg y) (fun H4 s4 => ?_)
    refine ⟨_, s4 D _ hl, ?_, fun b o e => ?_, ?_⟩
    · rw [List.length_map, List.length_range]
      exact Nat.lt_of_lt_of_le (Nat.lt_of_lt_of_le hlt hn) (by decide)
    · rw [upd_ne (ne_of_none e hD)]
      exact s4 b o (sm b o e)
    · rw [upd_same, List.range_succ, List.map_append]
      rfl
  · have e : i = n := by omega
    subst e
    exact Or.inl ⟨w.stops H' hg, hd D H' hD0 sm' hl⟩
end Mq

namespace Mq
open PySem PySem.Spec PyProof.Rows L2
/-! ### enumerate(v), v a tuple -/
theorem meets_enumT (l : Addr) (items : Array Value) :
    Meets (Builtin.«enumerate.__new__» ⟨[.type "enumerate", .ref l], []⟩) (fun _ R s => s.heap.IsTuple l items ∧
      R (.ok (.ret (.ref (s.heap.push { cls := .type "tuple_iterator", data := .fields #[.ref l, .int 0 0] }).objs.size)))
        { s with heap := (s.heap.push { cls := .type "tuple_iterator", data := .fields #[.ref l, .int 0 0] }).push { cls := .type "enumerate", data := .fields #[.none, .bool false, .ref s.heap.objs.size, rawInt 0, .none, .none] } }) :=
  .of_wp fun prog w A R s h => by
    obtain ⟨hp, g, d, tk, os⟩ := s; obtain ⟨hl, h⟩ := h
    have hsub := sub_enumerate
    have hL : Heap.IsTuple (Shared.heap ⟨hp, g, d, tk, os⟩) l items := hl
    obtain ⟨o, ho, _⟩ := id hl
    wp_walk using AutoSeq1.wpAny_loadPart' ho
    refine wpAny_stack_any fun st => wpAny_pure ?_
    split
    · rename_i c _ _ _ _ _
      cases (c == Value.type "enumerate")
      · wp_walk using AutoSeq1.wpAny_loadPart' ho, wpAny_pyIter_tuple hL
        exact ⟨_, rfl, h⟩
      · wp_walk using AutoSeq1.wpAny_loadPart' ho, wpAny_pyIter_tuple hL
        exact ⟨_, rfl, h⟩
    · wp_walk using AutoSeq1.wpAny_loadPart' ho, wpAny_pyIter_tuple hL
      exact ⟨_, rfl, h⟩
theorem call_enumT {prog : Program} {w : World} {A : Around} {E : Value → Shared → Prop} {s : Shared} {l : Addr} {items : Array Value} {Q : Value → Shared → Prop} (hL : s.heap.IsTuple l items)
    (h : ∀ h', IsEnum h' (s.heap.objs.size + 1) s.heap.objs.size 0 .none → h'.IsTupleIter s.heap.objs.size l 0 → h'.objs.size = s.heap.objs.size + 2 →
      (∀ b o, s.heap.get? b = some o → h'.get? b = some o) → Q (.ref (s.heap.objs.size + 1)) { s with heap := h' }) :
    wpAny (model prog w) A (call (.type "enumerate") [.ref l]) Q E s := by
  refine callType_new F.called_enumerate (by decide) (F.typeCall_enumerate_1 _) (F.newCall_enumerate_1 _) (fun obj => F.args_object_init_2 obj _) F.entry_enumerate_new
    (meets_enumT l items) ⟨hL, ?_⟩
  have hz : (s.heap.push { cls := .type "tuple_iterator", data := .fields #[.ref l, .int 0 0] }).objs.size = s.heap.objs.size + 1 := Heap.size_push ..
  show _ ∧ _
  rw [hz]
  have he : IsEnum ((s.heap.push { cls := .type "tuple_iterator", data := .fields #[.ref l, .int 0 0] }).push
      { cls := .type "enumerate", data := .fields #[.none, .bool false, .ref s.heap.objs.size, rawInt 0, .none, .none] }) (s.heap.objs.size + 1) s.heap.objs.size 0 .none := by
    have := Heap.get?_push_size (s.heap.push { cls := .type "tuple_iterator", data := .fields #[.ref l, .int 0 0] })
      (o := { cls := .type "enumerate", data := .fields #[.none, .bool false, .ref s.heap.objs.size, rawInt 0, .none, .none] }) rfl
    rw [hz] at this; exact this
  refine ⟨⟨_, he, rfl⟩, h _ he ⟨_, Heap.get?_push_of_some _ (Heap.get?_push_size _ rfl), rfl, rfl⟩ (by rw [Heap.size_push, hz]) fun b o x => Heap.get?_push_of_some _ (Heap.get?_push_of_some _ x)⟩
/-- the tuple at a, each item in a new pair -/
def Iee (K : PySem.W.Frag) (a : Addr) : It :=
  ⟨fun i H => ∃ (xs : List V) (x : V), SqT K H a xs ∧ xs[i]? = some x, fun i H v H' => ∃ T x, v = .ref T ∧ H T = none ∧ H' = upd H T (.tup [.int (i : Nat), x]) ∧ ∀ xs, SqT K H a xs → xs[i]? = some x, fun i H => ∃ xs : List V, SqT K H a xs ∧ xs.length ≤ i⟩
theorem turn_enumT {P : Program} {w : World} {K : PySem.W.Frag} {elts : List Expr} {kk : Nat} {tpos : Pos} (a e it : Addr) (ha : a ≠ it) (hae : a ≠ e) :
    Turn P w K (.Tuple elts kk tpos) (Iee K a) [e, it] e (fun i h => (∃ old, IsEnum h e it ((i : Nat) : Int) old) ∧ h.IsTupleIter it a i ∧ e ≠ it) where
  mem := by simp
  obj := fun i h st b hb => by
    obtain ⟨⟨old, he⟩, ⟨o, ho, hc, hd⟩, _⟩ := st
    have e' : b = e ∨ b = it := by simpa using hb
    rcases e' with z | z
    · rw [z]; exact ⟨_, he, fun v q => nomatch q⟩
    · rw [z]; exact ⟨o, ho, fun v q => by rw [hd] at q; cases q⟩
  keep := fun i h h' st k => let ⟨⟨old, he⟩, hi, hne⟩ := st; ⟨⟨old, k e (by simp) _ he⟩, hi.at fun o q => k it (by simp) o q, hne⟩
  item := by
    intro X hP hw hK hc i pins s σ H E I hf st hg
    subst hP hw hK
    obtain ⟨⟨old, he⟩, hit, hne⟩ := st
    obtain ⟨xs, x, hq, hx⟩ := hg
    obtain ⟨its, rv, p, hz⟩ := I.tuple hq
    obtain ⟨u, hu, ru⟩ := rv.get hx
    have hel : e < s.heap.objs.size := Heap.lt_size he
    have hil : it < s.heap.objs.size := by obtain ⟨_, q, _⟩ := hit; exact Heap.lt_size q
    have hp : s.heap.IsTuple a its.toArray := p
    have hu' : its.toArray[i]? = some u := by simpa using hu
    have hlt : i < its.toArray.size := by
      rw [List.size_toArray]
      rcases Nat.lt_or_ge i its.length with h | h
      · exact h
      · rw [List.getElem?_eq_none h] at hu
        cases hu
    refine wpAny_pyNext_enum_itemD (n := its.toArray.size) (Draws.tuple (show X.A.in1.handled = none from I.ok.hd hc) it a ha its.toArray) he ⟨hit, hp⟩ hlt hne (by simp only [List.mem_cons, List.not_mem_nil, or_false, not_or]; exact ⟨hne, fun z => hae z.symm⟩) fun x' h' tk hP' ho hst' hT hsz hk => ?_
    have ex : x' = u := by
      have h1 : some x' = some u := by rw [← hP', hu']
      exact Option.some.inj h1
    subst ex
    refine ⟨_, rfl, wpAny_letOwnedTupleGo_enum (s := { s with heap := h', toks := tk + 1 }) ho fun h'' he' sb => ?_⟩
    have hT2 : h''.get? s.heap.objs.size = some { cls := .type "tuple", data := .seq #[.int i tk, x'] } := (sb.2 _ (Nat.ne_of_gt hel)).trans hT
    have new : ObjOk X.prog X.w (upd H s.heap.objs.size (.tup [.int (i : Nat), x])) h'' s.heap.objs.size (.tup [.int (i : Nat), x]) :=
      ⟨by show 2 ≤ sizeLine; decide, [.int i tk, x'], .cons ⟨_, rfl⟩ (.cons ru .nil), ⟨_, hT2, rfl, _, rfl⟩⟩
    have I1 : Inv X pins σ (upd H s.heap.objs.size (.tup [.int (i : Nat), x])) { s with heap := h'', toks := tk + 1 } :=
      I.turnedNew (ch := [e, it]) (fun b ob hb q => (sb.2 b (fun z => hb (by simp [z]))).trans (hk b ob (fun z => hb (by simp [z])) (fun z => hb (by simp [z])) q)) hf (Nat.le_refl _) new
    refine ⟨.ref s.heap.objs.size, _, I1, rfl, ⟨_, x, rfl, I.hok.fresh (Nat.le_refl _), rfl, fun ys hy => by rw [I.tuple_inj hy hq]; exact hx⟩, ⟨⟨x', ?_⟩, hst'.1.at fun o q => (sb.2 it (Ne.symm hne)).trans q, hne⟩, fun b hb => ?_⟩
    · have e1 : ((i + 1 : Nat) : Int) = (i : Int) + 1 := by omega
      rw [e1]; exact he'
    · have hb' : b < s.heap.objs.size := by
        have e' : b = e ∨ b = it := by simpa using hb
        rcases e' with z | z
        · rw [z]; exact hel
        · rw [z]; exact hil
      rw [upd_ne (Nat.ne_of_lt hb')]
      exact (hf b hb).1
  done := by
    intro X hP hw hK hc i pins s σ H E I hf st hg
    subst hP hw hK
    obtain ⟨⟨old, he⟩, hit, hne⟩ := st
    obtain ⟨xs, hq, hx⟩ := hg
    obtain ⟨its, rv, p, hz⟩ := I.tuple hq
    obtain ⟨f0, f1, f2, f3, f4, f5⟩ := hf it (by simp)
    have hl := rv.length
    have hp : s.heap.IsTuple a its.toArray := p
    have D : Draws X.prog X.w X.A.in1 it [it, a] i (fun _ _ => False) (fun j h => j = i ∧ h.IsTupleIter it a i ∧ h.IsTuple a its.toArray) :=
      { live := fun _ _ st => let ⟨o, ho, _⟩ := st.2.1; ⟨o, ho⟩
        frame := fun _ _ _ st hk => ⟨st.1, st.2.1.at fun o e => hk it (by simp) o e, st.2.2.at fun o e => hk a (by simp) o e⟩
        item := fun j s Q E hi st hQ => absurd hi (by rw [st.1]; exact Nat.lt_irrefl i)
        done := fun s Q E st hE => wpAny_nextOf_tuple_end (show X.A.in1.handled = none from I.ok.hd hc) st.2.1 st.2.2 (by simp; omega) hE }
    exact wpAny_pyNext_enum_endD D he ⟨rfl, hit, hp⟩ fun h' eb => ⟨rfl, I.turned (t' := s.toks) (fun b o hb q => eb b o hb q) f0 f1 f3 f4 f5⟩
  self := fun A i s Q E st h => let ⟨⟨_, he⟩, _⟩ := st; wpAny_pyIter_enum he h
def iEnumT (K : PySem.W.Frag) (ta : TA) : TI := fun σ H R => ta σ H fun vs H1 => ∃ a xs, vs = [.ref a] ∧ SqT K H1 a xs ∧ R (Iee K a) H1
theorem pi_enumT {X : Cx} {e : Expr} {ta : TA} {p pos tpos : Pos} {elts : List Expr} {kk : Nat} (hg : Gl X "enumerate") (hm : X.mg "enumerate" = none) (ha : PA X [e] ta) (hs : starEach [e] X.env = [(false, eval e X.env)] := by rfl) :
    PI X (.Tuple elts kk tpos) (.Call (.Name "enumerate" p) [e] [] pos) (iEnumT X.K ta) := by
  refine ⟨fun pins s σ H R I h => ?_⟩
  refine Call_ (ld_blt I hg hm boot_enumerate (PyProof.Rows.callWith_type1 (thn (ha.run pos pins s σ H _ I h) fun us s1 ⟨vs, H1, I1, r1, q1⟩ => ?_) hs rfl))
  obtain ⟨a, xs, ex, hq, q⟩ := q1
  subst ex
  cases r1 with
  | cons r rr =>
    cases rr
    cases r
    obtain ⟨its, rv, p', hz⟩ := I1.tuple hq
    have hp : s1.heap.IsTuple a its.toArray := p'
    have hal : a < s1.heap.objs.size := by obtain ⟨_, q, _⟩ := hp; exact Heap.lt_size q
    refine call_enumT hp fun h' he hit hsz hk => wpAny_pyIter_enum he ?_
    have I2 : Inv X pins σ H1 { s1 with heap := h' } := I1.kept (t' := s1.toks) hk
    refine ⟨s1.heap.objs.size + 1, [s1.heap.objs.size + 1, s1.heap.objs.size], _, _, H1, rfl, I2, turn_enumT a (s1.heap.objs.size + 1) s1.heap.objs.size (Nat.ne_of_lt hal) (Nat.ne_of_lt (Nat.lt_succ_of_lt hal)), ⟨⟨.none, he⟩, hit, Nat.succ_ne_self _⟩, fun b hb => ?_, q⟩
    have e' : b = s1.heap.objs.size + 1 ∨ b = s1.heap.objs.size := by simpa using hb
    have hle : s1.heap.objs.size ≤ b := by
      rcases e' with z | z
      · rw [z]; exact Nat.le_add_right _ _
      · rw [z]; exact Nat.le_refl _
    exact I1.fpOk hle (I1.hok.fresh hle)
/-- the same, where what is walked is laid on the way -/
theorem lc_mapJ {wi : TI} {n : Nat} {Y : Nat → Hp → V → Hp → Prop} {g : TG} {te : TE} {vs : List Nat} {σ : L2.St} {H0 : Hp} {Q : VK}
    (f : Nat → V) (hn : n ≤ 1000000) (hw : ∀ R : It → Hp → Prop, (∀ (J : It) (G : Hp → Prop) (H : Hp), Walk J n G Y → (∀ H', G H → Same H H' → G H') → Same H0 H → G H → R J H) → wi σ H0 R)
    (hs : ∀ i x H H' (R : V → Hp → Prop), i < n → Same H0 H → Y i H x H' → (∀ H4, Same H H4 → R (f i) H4) →
      g x (wipe σ vs) H' fun σ2 H2 => wipe σ2 vs = wipe σ vs ∧ te σ2 H2 R)
    (hd : ∀ D H', H0 D = none → Same H0 H' → H' D = some (.lst ((List.range n).map f)) → Q (.ref D) H') : tLc wi g tYes te vs σ H0 Q := by
  refine hw _ (fun J G H w hG sm0 hg0 D hD => ?_)
  have hD0 := sm0.free hD
  let Nx : Nat → Hp → Prop := fun i H' => Same H H' ∧ H' D = some (.lst ((List.range i).map f))
  refine ⟨fun i m H' => m = n - i ∧ i ≤ n ∧ Nx i H', ⟨n, by simp, Nat.zero_le _, same_new hD, upd_same⟩, ?_⟩
  rintro i m H' ⟨rfl, hi, sm, hl⟩
  have hg := hG H' hg0 sm
  have sm' := sm0.trans sm
  by_cases hlt : i < n
  · refine Or.inr ⟨w.goes i H' hlt hg, Nx (i + 1), fun H'' p => ⟨n - (i + 1), by omega, rfl, hlt, p⟩, fun x H'' y => ?_⟩
    refine hs i x H' H'' _ hlt sm' (w.yields i H' x H'' hlt hg y) (fun H4 s4 => ?_)
    refine ⟨_, s4 D _ hl, ?_, fun b o e => ?_, ?_⟩
    · rw [List.length_map, List.length_range]
      exact Nat.lt_of_lt_of_le (Nat.lt_of_lt_of_le hlt hn) (by decide)
    · rw [upd_ne (ne_of_none e hD)]
      exact s4 b o (sm b o e)
    · rw [upd_same, List.range_succ, List.map_append]
      rfl
  · have e : i = n := by omega
    subst e
    exact Or.inl ⟨w.stops H' hg, hd D H' hD0 sm' hl⟩
end Mq

namespace Mq
open PySem PySem.Spec PyProof.Rows L2
/-- a comprehension without a test over what w walks -/
theorem lc_yes {J : It} {n : Nat} {G : Hp → Prop} {Y : Nat → Hp → V → Hp → Prop} (w : Walk J n G Y) {g : TG} {te : TE} {vs : List Nat} {σ : L2.St} {H1 : Hp} {D : Addr} {Qd : Hp → Prop} (Pv : Nat → Hp → Prop)
    (h0 : Pv 0 (upd H1 D (.lst []))) (hG : ∀ i H, i ≤ n → Pv i H → G H)
    (hs : ∀ i x H H', i < n → Pv i H → Y i H x H' → g x (wipe σ vs) H' fun σ2 H2 => wipe σ2 vs = wipe σ vs ∧ te σ2 H2 fun y H4 => ∃ acc, H4 D = some (.lst acc) ∧ acc.length < sizeLine ∧ Pv (i + 1) (upd H4 D (.lst (acc ++ [y]))))
    (hd : ∀ H, Pv n H → Qd H) :
    ∃ W : Nat → Nat → Hp → Prop, (∃ m, W 0 m (upd H1 D (.lst []))) ∧ ∀ i m H, W i m H →
      (J.stop i H ∧ Qd H) ∨ (J.go i H ∧ ∃ Nx : Hp → Prop, (∀ H', Nx H' → ∃ m', m' < m ∧ W (i + 1) m' H') ∧ ∀ x H', J.yld i H x H' → g x (wipe σ vs) H' fun σ2 H2 => wipe σ2 vs = wipe σ vs ∧ tYes σ2 H2 fun b H3 =>
        if b = true then te σ2 H3 fun y H4 => ∃ acc, H4 D = some (.lst acc) ∧ acc.length < sizeLine ∧ Nx (upd H4 D (.lst (acc ++ [y]))) else Nx H3) :=
  lc_it (tt := tYes) w Pv h0 hG hs hd
end Mq

namespace Mq
open PySem PySem.Spec PyProof.Rows L2
/-- isinstance(e, c), the held error's class being told among the values -/
theorem call_heldX {X : Cx} {a D : Addr} {oe : Obj} {cls : Value} {d : Option Addr} {pn : List (Addr × Obj)} (C : HeldC X.K D) (hz : Zc cls d oe)
    (hf : ∃ vs, oe.data = .fields vs) : CallR (X.suite a ((a, oe) :: pn)) (.builtin "isinstance") (fun xs H Q => cls = .ref D ∧ rHeld X.K D a d xs H Q) := by
  intro pins s σ H xs us Q I r h
  obtain ⟨rfl, h⟩ := h
  exact call_held C hz hf pins s σ H xs us Q I r h
/-! ### lists whose items are equal, told by != and == -/
theorem op_neFl {X : Cx} (hu : X.A.units + 64 < cLine) : OpR X (compareOp .NotEq) (fun x y H Q => ∃ a b xs, x = .ref a ∧ y = .ref b ∧ SqL X.K H a xs ∧ SqL X.K H b xs ∧ (∀ v ∈ xs, flatB v = true) ∧ Q (.bl false) H) := by
  intro pins s σ H x y v u Q I rx ry h
  obtain ⟨a, b, xs, rfl, rfl, ha, hb, hf, q⟩ := h
  cases (show v = Value.ref a from rx)
  cases (show u = Value.ref b from ry)
  obtain ⟨us, r1, p1, _⟩ := I.list ha
  obtain ⟨ws, r2, p2, _⟩ := I.list hb
  have hsz : us.toArray.size = ws.toArray.size := by
    rw [List.size_toArray, List.size_toArray, ← r1.length, ← r2.length]
  have he : ∀ j (h1 : j < us.toArray.size) (h2 : j < ws.toArray.size), SeqAt.EqAt X.A.in1 s us.toArray[j] ws.toArray[j] true := by
    intro j h1 h2
    have h1' : j < us.length := by simpa using h1
    have h2' : j < ws.length := by simpa using h2
    have e1 : xs.length = us.length := r1.length
    obtain ⟨u1, g1, k1⟩ := r1.get (i := j) (x := xs[j]'(by omega)) (List.getElem?_eq_getElem (by omega))
    obtain ⟨u2, g2, k2⟩ := r2.get (i := j) (x := xs[j]'(by omega)) (List.getElem?_eq_getElem (by omega))
    rw [List.getElem?_eq_getElem h1'] at g1
    rw [List.getElem?_eq_getElem h2'] at g2
    have k := eqAt_same (A := X.A.in1) (s := s) k1 k2 (hf _ (List.getElem_mem _))
    cases g1
    cases g2
    simpa using k
  have k := SeqAt.RcNeAt.lists (A := X.A) (s := s) (e := fun _ => true) p1.isList p2.isList hsz (by omega) he
  have z : (!(List.range us.toArray.size).all fun _ => true) = false := by rw [show ((List.range us.toArray.size).all fun _ => true) = true from List.all_eq_true.mpr fun _ _ => rfl]; rfl
  rw [z] at k
  exact k X.prog X.w _ _ ⟨.bl false, H, I, rfl, q⟩
/-- list(v), v a tuple: the new list is told to stand elsewhere than the modules -/
theorem call_lsN {X : Cx} : CallR X (.type "list") (fun xs H Q => ∃ p ys, xs = [.ref p] ∧ SqT X.K H p ys ∧ ∀ l, H l = none → l ≠ sysModules → Q (.ref l) (upd H l (.lst ys))) := by
  intro pins s σ H xs us Q I r hw
  obtain ⟨t, ys, rfl, ht, k⟩ := hw
  cases r with
  | cons r0 rr =>
    cases rr
    cases r0
    obtain ⟨its, rv, pl, hz⟩ := I.tuple ht
    have hlen := rv.length
    obtain ⟨o, ho, hc, n, hd⟩ := pl
    refine call_list_seq t (.inr rfl) ho hc hd (fun h2 c2 kp e => ?_) (by rw [List.size_toArray]; omega)
    have new : ObjOk X.prog X.w (upd H s.heap.objs.size (.lst ys)) h2 s.heap.objs.size (.lst ys) := ⟨hz, its, c2, rv, e⟩
    refine ⟨.ref _, upd H s.heap.objs.size (.lst ys), ?_, rfl, ?_⟩
    · exact I.laid (t' := s.toks) kp (Nat.le_refl _) new
    · exact k _ (I.hok.fresh (Nat.le_refl _)) (Nat.ne_of_gt (Inv.low I))
/-! ### how long what is shown can be -/
theorem small_short : ∀ n : Nat, n ≤ 1000 → (PyData.int (n : Nat)).shown.length ≤ 13 ∧ (PyData.int (n : Nat)).showable = true ∧ (PyData.int (n : Nat)).weight ≤ 20 := by
  have h : ((List.range 1001).all fun n => decide ((PyData.int (n : Nat)).shown.length ≤ 13) && ((PyData.int (n : Nat)).showable && decide ((PyData.int (n : Nat)).weight ≤ 20))) = true := by decide +kernel
  intro n hn
  have h1 := List.all_eq_true.mp h n (List.mem_range.mpr (by omega))
  obtain ⟨a, b⟩ := Bool.and_eq_true_iff.mp h1
  obtain ⟨b, c⟩ := Bool.and_eq_true_iff.mp b
  exact ⟨of_decide_eq_true a, b, of_decide_eq_true c⟩
theorem shown_fits {d : PyData} (h1 : d.canLay0 = true) (h2 : d.depth ≤ 64) (h3 : d.weight ≤ 1000000) (h4 : d.intsShort 13 = true) : d.shown.length ≤ sizeLine := by
  have h5 : d.weight ≤ 2 ^ 20 := Nat.le_trans h3 (by decide)
  have hl : PyData.layable0 d = true := by
    unfold PyData.layable0
    rw [h1, decide_eq_true h2, decide_eq_true h5]
    rfl
  exact Nat.le_trans (PyProof.Rows.shown_le13 hl h4) (by decide)
end Mq

namespace Mq
open PySem PySem.Spec PyProof.Rows L2
/-! ### a text, so many times -/
def repS (x : Str) (n : Nat) : Str := ⟨(List.replicate n x.cps).foldl (· ++ ·) #[]⟩
theorem op_mulS {X : Cx} : OpR X (binaryOp .Mult) (fun x y H Q => ∃ (z : Str) (n : Nat), x = .str z ∧ y = .int (n : Nat) ∧ 2 ≤ n ∧ n ≤ 1000 ∧ 1 ≤ z.length ∧ z.length ≤ 1000 ∧ (repS z n).length ≤ sizeLine ∧ Q (.str (repS z n)) H) := by
  intro pins s σ H x y v u Q I rx ry h
  obtain ⟨z, n, rfl, rfl, h1, h2, h3, h4, h5, q⟩ := h
  obtain ⟨t, rfl⟩ := rx
  obtain ⟨t', rfl⟩ := ry
  have hm : z.length * n ≤ 1000 * 1000 := Nat.mul_le_mul h4 h2
  have e1 : decide (((n : Nat) : Int) < -(2 ^ 63 : Int)) = false := decide_eq_false (by omega)
  have e2 : decide (((n : Nat) : Int) ≥ 2 ^ 63) = false := decide_eq_false (by omega)
  have e3 : (((n : Nat) : Int) == 1) = false := by
    rw [beq_eq_false_iff_ne]
    omega
  have e4 : (z.length == 0) = false := by
    rw [beq_eq_false_iff_ne]
    omega
  refine P.mul_str (by rw [e1, e2]; rfl) (fun _ _ => ?_) (fun _ _ => ?_) ?_
  · have hd : (1000 : Int) ≤ (2 ^ 63 - 1) / ((n : Nat) : Int) := by
      refine (Int.le_ediv_iff_mul_le (by omega)).mpr ?_
      omega
    omega
  · rw [Int.toNat_natCast]
    unfold Builtin.Str.tooLong
    exact decide_eq_false (by have : (1000 * 1000 : Nat) ≤ sizeLine := by decide
                              omega)
  · rw [if_neg (show ¬ ((n : Nat) : Int) < 1 by omega), e3, e4]
    exact ⟨h5, .str (repS z n), H, I.tok _, ⟨_, rfl⟩, q⟩
end Mq


namespace MqE_thing
open PySem PySem.Spec PyProof.Rows L2 Mq PySem.W PySem.Calls
/-! ### errors whose one parameter is thing -/
def iA (p1 p2 : Pos) : Arguments := { posonlyargs := [], args := [{ arg := "self", annotation := none, pos := p1 }, { arg := "thing", annotation := none, pos := p2 }], vararg := none, kwonlyargs := [], kw_defaults := [], kwarg := none, defaults := [] }
def iB (q1 q2 q3 q4 : Pos) : List Stmt := [.Assign [.Attribute (.Name "self" q1) "thing" q2] (.Name "thing" q3) q4]
def iS : Scope := { kind := .function, names := [(PySem.Str.ofString "self", .local), (PySem.Str.ofString "thing", .local)], isGenerator := false, isCoroutine := false, more := [] }
/-- what the written part says of the class x at C, and of its __init__ at fI -/
structure Txt (K : Frag) (mg : Str → Option Value) (x qual : Str) (C fI : Addr) : Prop where
  gC : mg x = some (.ref C)
  kC : keepIn K (.ref C) = true
  ex : excInitIn K C exTail "Exception.__new__" = true
  ov : excOver K C exTail = true
  hdC : hasDictIn K C = true
  tk : takerIn K C "thing" = some none
  sa : findIn K (.ref C) "__setattr__" = some (some (.builtin "object.__setattr__"))
  iC : findIn K (.ref C) "__init__" = some (some (.ref fI))
  tC : typeIn K (.ref fI) = some (.type "function")
  exC : subIn K (.ref C) (.type "BaseException") = some true
  tyC : typeIn K (.ref C) = some (.type "type")
  fn : ∃ (oc : Value) (od : Option Addr) (doc pm : Value) (an : Option Addr) (cdv ct : Value) (osl : Array (Option Value)) (p1 p2 q1 q2 q3 q4 : Pos),
    K.lookup fI = some ⟨oc, od, .func (fnOf "__init__" qual (iA p1 p2) (iB q1 q2 q3 q4) iS .none .none doc pm an cdv ct), osl⟩ ∧ codeIn K cdv qual = true
theorem ld_loc {M : Model} {s : Shared} {name : Str} {scope : Scope} {L a : Addr} {cd : Value} {m : Str → Option Value} {y : Str} {pos : Pos} {v : Value}
    {Q : Value → Shared → Prop} {A : Around} {E : Value → Shared → Prop} (hn : s.heap.Ns L m) (hv : m y = some v) (h : Q v s)
    (hk : scope.kind = .function := by rfl) (hl : (envOfC name scope L a cd).kindOf y = some .local := by rfl) (hd : (y == ("__debug__" : Str)) = false := by decide) :
    wpAny M A (eval (.Name y pos) (envOfC name scope L a cd)) Q E s := wpAny_Name (wpAny_loadName_local hk hl hn hv h) hd
/-- what __init__ leaves of a new error at e -/
structure Filled (h h' : Heap) (e C dx t1 : Addr) (v : Value) : Prop where
  keep : ∀ b o, b ≠ e → h.get? b = some o → h'.get? b = some o
  obj : h'.get? e = some (excObj C t1 (some dx) .none)
  big : h.objs.size ≤ dx
  ne : dx ≠ e
  ns : h'.Ns1 dx (fun y => if y = "thing" then some v else none)
/-- a made error -/
structure Made (h h' : Heap) (e C d : Addr) (v : Value) : Prop where
  keep : ∀ b o, h.get? b = some o → h'.get? b = some o
  new : h.objs.size ≤ e
  obj : ∃ oe vs, h'.get? e = some oe ∧ oe.cls = .ref C ∧ oe.dict = some d ∧ oe.data = .fields vs ∧ vs[1]? = some .none
  big : h.objs.size ≤ d
  ne : d ≠ e
  ns : h'.Ns1 d (fun y => if y = "thing" then some v else none)
section
variable {prog : Program} {w : World} {A : Around} {E : Value → Shared → Prop} {R : Result → Shared → Prop} {s : Shared} {K : Frag} {mg : Str → Option Value} {x qual : Str} {C fI : Addr}
theorem init_run (T : Txt K mg x qual C fI) {e t0 : Addr} {v : Value} (X : K.In s.heap) (lim : s.heap.NoLimit) (he : s.heap.get? e = some (excObj C t0 none .none)) (room : A.depth < recursionLimit)
    (hq : ∀ h' tk dx, Filled s.heap h' e C dx t0 v → R (.ok (.ret .none)) { s with heap := h', toks := tk }) :
    codeAny (model prog w) A (.call (.ref fI) ⟨[.ref e, v], []⟩) R s := by
  obtain ⟨oc, od, doc, pm, an, cdv, ct, osl, p1, p2, q1, q2, q3, q4, ho, hcd⟩ := T.fn
  refine Att.call_fn (binds := [("self", .ref e), ("thing", v)]) X lim ho hcd room (BindsTo.of_eq (by first | rfl | with_unfolding_all rfl)) (by first | rfl | decide | with_unfolding_all rfl) (fun s₁ IC => ?_) rfl rfl rfl
  obtain ⟨h₁, tk₁, rfl⟩ := IC.toInCall.same
  have k : ∀ b o, s.heap.get? b = some o → h₁.get? b = some o := IC.toInCall.keep
  have hn := IC.toInCall.ns
  have X₁ : K.In h₁ := X.keeps k
  have he₁ := k _ _ he
  show wpAny _ _ (execs _ _) _ _ _
  refine wpAny_execs_cons (plainObj_wpAny_Assign_Attribute ?_)
  refine ld_loc (v := v) hn (by first | rfl | with_unfolding_all rfl | kernel_rfl) (ld_loc (v := .ref e) hn (by first | rfl | with_unfolding_all rfl | kernel_rfl) ?_)
  refine set_plain X₁ (ox := excObj C t0 none .none) (od := none) ⟨he₁, rfl, rfl, trivial⟩ T.sa ?_
  refine osa_first X₁ he₁ T.ov T.hdC T.tk (fun h₃ tk₃ dx k₃ dn dne he₃ hn₃ => ?_)
  show wpAny _ _ (execs _ _) _ _ _
  have z : s.heap.objs.size < h₁.objs.size := hn.lt
  exact wpAny_execs_nil (hq h₃ tk₃ dx ⟨fun b o hb e => k₃ b o hb (k b o e), he₃, Nat.le_of_lt (Nat.lt_of_lt_of_le z dn), dne, hn₃⟩)
theorem made_run (T : Txt K mg x qual C fI) {v : Value} (X : K.In s.heap) (lim : s.heap.NoLimit) (room : A.depth + 1 < recursionLimit)
    (hq : ∀ h' tk e d, Made s.heap h' e C d v → R (.ok (.ret (.ref e))) { s with heap := h', toks := tk }) :
    codeAny (model prog w) A (.call (.ref C) ⟨[v], []⟩) R s := by
  obtain ⟨nm, N, qn, bs, bm, hdct, sn, sub, ab, col, dd, k0, k1, k2, k3, k5, hC, hT⟩ := excInit_of X T.ex
  obtain ⟨hp, g, dr, tk, os⟩ := s
  have k : ∀ b o, hp.get? b = some o → ((hp.push (kdv_tup [v])).push (HandSPX.excO C hp.objs.size)).get? b = some o := fun b o e => Heap.get?_push_of_some _ (Heap.get?_push_of_some _ e)
  have hget : ((hp.push (kdv_tup [v])).push (HandSPX.excO C hp.objs.size)).get? (hp.objs.size + 1) = some (excObj C hp.objs.size none .none) := by heap_get
  refine HandSPX.call_own F.excBase_Exception hT hC (looks_findIn X T.iC) (fun self => bind_fn X self T.tC) (by rw [sizeLine_eq]; exact (by decide : 1 ≤ 16777216)) ?_
  refine init_run (s := ⟨(hp.push (kdv_tup [v])).push (HandSPX.excO C hp.objs.size), g, dr, tk, os⟩) T (X.keeps k) (lim.keeps k) hget ?_ (fun h' tk' dx M => ?_)
  · show A.depth + 1 < recursionLimit
    exact room
  · obtain ⟨k', hx, dn, dne, hns⟩ := M
    have old : ∀ b o, hp.get? b = some o → h'.get? b = some o := fun b o e => k' b o (Nat.ne_of_lt (Nat.lt_succ_of_lt (Heap.lt_size e))) (k b o e)
    have z : hp.objs.size + 1 + 1 ≤ dx := by
      have q := dn
      rw [Heap.size_push, Heap.size_push] at q
      exact q
    exact ⟨rfl, hq h' tk' (hp.objs.size + 1) dx ⟨old, Nat.le_succ _, ⟨_, _, hx, rfl, rfl, rfl, rfl⟩, Nat.le_trans (Nat.le_trans (Nat.le_succ _) (Nat.le_succ _)) z, dne, hns⟩⟩
end
theorem relO_f {v : V} {v' : Value} (r : RelV v v') (f : Str) : RelO (List.lookup f [(("thing" : Str), v)]) (if f = "thing" then some v' else none) := by
  by_cases hw : f = "thing"
  · subst hw
    rw [if_pos rfl]
    have q : List.lookup ("thing" : Str) [(("thing" : Str), v)] = some v := by simp [List.lookup]
    rw [q]
    exact r
  · rw [if_neg hw]
    have qw : (f == ("thing" : Str)) = false := by simpa using hw
    have q2 : List.lookup f [(("thing" : Str), v)] = none := by simp [List.lookup, qw]
    rw [q2]
    trivial
section
variable {X : Cx} {C fI : Addr} {x qual : Str}
/-- x(e) -/
def tMk (C : Addr) (ta : TA) : L2.St → Hp → XK → Prop := fun σ H Q => ta σ H fun vs H1 => ∃ v, vs = [v] ∧ ∀ d, H1 d = none → Q (.ref C) (some d) (upd H1 d (.xd [(("thing" : Str), v)]))
theorem pmk {a : Expr} {ta : TA} {p pos : Pos} {k : Nat} (T : Txt X.K X.mg x qual C fI) (hr : Room k X.A) (ha : PA X [a] ta) (hg : Gl X x := by rfl) (hdb : (x == ("__debug__" : Str)) = false := by decide)
    (he : starEach (a :: []) X.env = (false, eval a X.env) :: starEach [] X.env := by rfl) (hpl : (backTo pos (starEach [] X.env)).any (·.1) = false := by rfl) :
    PMk X (.Call (.Name x p) [a] [] pos) (tMk C ta) := by
  intro pins s σ H Q I h
  refine wpAny_Call_Name_kw (ld_glob I hg T.gC ?_ hdb)
  refine callWith_K (h₀ := X.base) I.ok.mod.kin T.kC (thn (ha.run pos pins s σ H _ I h) fun us s1 hh => ?_) he hpl
  obtain ⟨vs, H1, I1, r1, v, ev, q1⟩ := hh
  subst ev
  refine ⟨I1.kIn, ?_⟩
  cases r1 with
  | cons rv rn =>
    rename_i v' us'
    cases rn
    show wpAny _ _ (call (.ref C) [v']) _ _ _
    have hlim := I1.nolimit
    obtain ⟨hp, g, dr, tk, os⟩ := s1
    refine wpAny_call (made_run T I1.kIn hlim (by have := hr.dp; omega) (fun h' tk' e d M => ?_))
    show MkP X pins σ Q (.ref e) ⟨h', g, dr, tk', os⟩
    obtain ⟨oe, fv, hoe, hc, hd, hdat, h1⟩ := M.obj
    have hns := M.ns
    obtain ⟨G', g1, g2⟩ := restrict h' fun b => decide (b ≠ e)
    have gk : ∀ b, b ≠ e → G'.get? b = h'.get? b := fun b hb => g1 b (decide_eq_true hb)
    have ge : G'.get? e = none := g2 e (by simp)
    have old : ∀ b o, hp.get? b = some o → G'.get? b = some o := fun b o q => (gk b (Nat.ne_of_lt (Nat.lt_of_lt_of_le (Heap.lt_size q) M.new))).trans (M.keep b o q)
    have ob : ObjOk X.prog X.w (upd H1 d (.xd [(("thing" : Str), v)])) G' d (.xd [(("thing" : Str), v)]) :=
      ⟨_, hns.at (fun o q => (gk d M.ne).trans q), fun f => relO_f rv f⟩
    have J : L2.Inv X pins σ (upd H1 d (.xd [(("thing" : Str), v)])) ⟨G', g, dr, tk', os⟩ := I1.laid (t' := tk') old M.big ob
    refine ⟨e, oe, fv, ⟨G', g, dr, tk', os⟩, _, .ref C, some d, rfl, J, (fun b o q => ?_), ge, hoe, ⟨hc, hd⟩, hdat, h1, ?_, rfl, I1.bare, raises_own T.exC T.tyC, q1 d (I1.hok.fresh M.big)⟩
    · by_cases hb : b = e
      · have q' : G'.get? b = some o := q
        rw [hb, ge] at q'
        cases q'
      · exact (gk b hb).symm.trans q
    · rw [upd_ne (Ne.symm M.ne)]
      exact I1.hok.fresh M.new
/-- raise x(e) -/
def tRaise (C : Addr) (W : WX) (ta : TA) : TS := fun _ σ H => tMk C ta σ H fun cls d H' => W cls d σ H'
theorem ps_raise {a : Expr} {ta : TA} {W : WX} {p pos pos2 : Pos} {k : Nat} (hc : X.calm = true) (T : Txt X.K X.mg x qual C fI) (hr : Room k X.A) (tk : Takes X W) (ha : PA X [a] ta) (hg : Gl X x := by rfl) (hdb : (x == ("__debug__" : Str)) = false := by decide)
    (he : starEach (a :: []) X.env = (false, eval a X.env) :: starEach [] X.env := by rfl) (hpl : (backTo pos (starEach [] X.env)).any (·.1) = false := by rfl) :
    PS X (.Raise (some (.Call (.Name x p) [a] [] pos)) none pos2) (tRaise C W ta) := L2.ps_raise hc tk (pmk T hr ha hg hdb he hpl)
end
end MqE_thing

namespace Lw
open PySem PySem.Spec PyProof.Rows L2 Mq
/-! ### where the defs stand -/
def topS (i : Nat) : Stmt := PySem.Challenge.pw_millhands_k41_programs_of_any_values.main.body.getD i (.Pass ⟨0, 0, 0, 0⟩)
abbrev s_BadText___init__ : Stmt := inClass (topS 2) 0
theorem sc_BadText___init__ : FnScope ["self", "line"] ["self", "line"] (defScope s_BadText___init__) := ⟨rfl, rfl, rfl, by decide +kernel, rfl, by decide +kernel, by decide +kernel⟩
abbrev s_BadProgram___init__ : Stmt := inClass (topS 3) 0
theorem sc_BadProgram___init__ : FnScope ["self", "part"] ["self", "part"] (defScope s_BadProgram___init__) := ⟨rfl, rfl, rfl, by decide +kernel, rfl, by decide +kernel, by decide +kernel⟩
abbrev s_is_letters : Stmt := topS 8
theorem sc_is_letters : FnScope ["thing", "letter"] ["thing"] (defScope s_is_letters) := ⟨rfl, rfl, rfl, by decide +kernel, rfl, by decide +kernel, by decide +kernel⟩
abbrev s_is_letter : Stmt := topS 9
theorem sc_is_letter : FnScope ["letters", "thing"] ["letters", "thing"] (defScope s_is_letter) := ⟨rfl, rfl, rfl, by decide +kernel, rfl, by decide +kernel, by decide +kernel⟩
abbrev s_is_number : Stmt := topS 10
theorem sc_is_number : FnScope ["thing"] ["thing"] (defScope s_is_number) := ⟨rfl, rfl, rfl, by decide +kernel, rfl, by decide +kernel, by decide +kernel⟩
abbrev s_is_below : Stmt := topS 11
theorem sc_is_below : FnScope ["thing", "many"] ["thing", "many"] (defScope s_is_below) := ⟨rfl, rfl, rfl, by decide +kernel, rfl, by decide +kernel, by decide +kernel⟩
abbrev s_is_ascending : Stmt := topS 12
theorem sc_is_ascending : FnScope ["parts", "k"] ["parts"] (defScope s_is_ascending) := ⟨rfl, rfl, rfl, by decide +kernel, rfl, by decide +kernel, by decide +kernel⟩
abbrev s_integer_read : Stmt := topS 13
theorem sc_integer_read : FnScope ["text", "figure"] ["text"] (defScope s_integer_read) := ⟨rfl, rfl, rfl, by decide +kernel, rfl, by decide +kernel, by decide +kernel⟩
abbrev s_number_read : Stmt := topS 14
theorem sc_number_read : FnScope ["text", "many", "number"] ["text", "many"] (defScope s_number_read) := ⟨rfl, rfl, rfl, by decide +kernel, rfl, by decide +kernel, by decide +kernel⟩
abbrev s_numbers_read : Stmt := topS 15
theorem sc_numbers_read : FnScope ["words", "many", "numbers", "word"] ["words", "many"] (defScope s_numbers_read) := ⟨rfl, rfl, rfl, by decide +kernel, rfl, by decide +kernel, by decide +kernel⟩
abbrev s_text_parts : Stmt := topS 16
theorem sc_text_parts : FnScope ["word", "text", "lines", "words"] ["word", "text"] (defScope s_text_parts) := ⟨rfl, rfl, rfl, by decide +kernel, rfl, by decide +kernel, by decide +kernel⟩
abbrev s_nodes_read : Stmt := topS 17
theorem sc_nodes_read : FnScope ["word", "text", "node_of", "most", "letters", "lines", "nodes", "line"] ["word", "text", "node_of", "most"] (defScope s_nodes_read) := ⟨rfl, rfl, rfl, by decide +kernel, rfl, by decide +kernel, by decide +kernel⟩
abbrev s_has_head : Stmt := topS 18
theorem sc_has_head : FnScope ["thing"] ["thing"] (defScope s_has_head) := ⟨rfl, rfl, rfl, by decide +kernel, rfl, by decide +kernel, by decide +kernel⟩
abbrev s_wrong_part : Stmt := topS 19
theorem sc_wrong_part : FnScope ["letters", "nodes", "is_node", "word", "most", "number", "node"] ["letters", "nodes", "is_node", "word", "most"] (defScope s_wrong_part) := ⟨rfl, rfl, rfl, by decide +kernel, rfl, by decide +kernel, by decide +kernel⟩
abbrev s_Program___init__ : Stmt := inClass (topS 22) 0
theorem sc_Program___init__ : FnScope ["self", "letters", "deeds", "part"] ["self", "letters", "deeds"] (defScope s_Program___init__) := ⟨rfl, rfl, rfl, by decide +kernel, rfl, by decide +kernel, by decide +kernel⟩
abbrev s_Program___len__ : Stmt := inClass (topS 22) 1
theorem sc_Program___len__ : FnScope ["self"] ["self"] (defScope s_Program___len__) := ⟨rfl, rfl, rfl, by decide +kernel, rfl, by decide +kernel, by decide +kernel⟩
abbrev s_Program___eq__ : Stmt := inClass (topS 22) 2
theorem sc_Program___eq__ : FnScope ["self", "other"] ["self", "other"] (defScope s_Program___eq__) := ⟨rfl, rfl, rfl, by decide +kernel, rfl, by decide +kernel, by decide +kernel⟩
abbrev s_Program___str__ : Stmt := inClass (topS 22) 3
theorem sc_Program___str__ : FnScope ["self", "lines", "deed"] ["self"] (defScope s_Program___str__) := ⟨rfl, rfl, rfl, by decide +kernel, rfl, by decide +kernel, by decide +kernel⟩
abbrev s_Program_read : Stmt := inClass (topS 22) 4
theorem sc_Program_read : FnScope ["cls", "text", "letters", "deeds"] ["cls", "text"] (defScope s_Program_read) := ⟨rfl, rfl, rfl, by decide +kernel, rfl, by decide +kernel, by decide +kernel⟩
abbrev s_is_deed : Stmt := topS 23
theorem sc_is_deed : FnScope ["letters", "deed", "many"] ["letters", "deed", "many"] (defScope s_is_deed) := ⟨rfl, rfl, rfl, by decide +kernel, rfl, by decide +kernel, by decide +kernel⟩
abbrev s_are_places : Stmt := topS 24
theorem sc_are_places : FnScope ["thing", "length", "many", "place"] ["thing", "length", "many"] (defScope s_are_places) := ⟨rfl, rfl, rfl, by decide +kernel, rfl, by decide +kernel, by decide +kernel⟩
abbrev s_deed_line : Stmt := topS 25
theorem sc_deed_line : FnScope ["deed", "words", "place"] ["deed"] (defScope s_deed_line) := ⟨rfl, rfl, rfl, by decide +kernel, rfl, by decide +kernel, by decide +kernel⟩
abbrev s_deed_read : Stmt := topS 26
theorem sc_deed_read : FnScope ["letters", "line", "many", "words", "place", "deed"] ["letters", "line", "many"] (defScope s_deed_read) := ⟨rfl, rfl, rfl, by decide +kernel, rfl, by decide +kernel, by decide +kernel⟩
abbrev s__law_deck : Stmt := topS 28
theorem sc__law_deck : FnScope ["_law_script", "_law_cells", "_law_stirred", "_law_cell"] ["_law_script"] (defScope s__law_deck) := ⟨rfl, rfl, rfl, by decide +kernel, rfl, by decide +kernel, by decide +kernel⟩
abbrev s__law_draw : Stmt := topS 29
theorem sc__law_draw : FnScope ["_law_deck_here", "_law_below", "_law_turn", "_law_figure", "_law_cell"] ["_law_deck_here", "_law_below"] (defScope s__law_draw) := ⟨rfl, rfl, rfl, by decide +kernel, rfl, by decide +kernel, by decide +kernel⟩
abbrev s__law_pick : Stmt := topS 30
theorem sc__law_pick : FnScope ["_law_deck_here", "_law_some"] ["_law_deck_here", "_law_some"] (defScope s__law_pick) := ⟨rfl, rfl, rfl, by decide +kernel, rfl, by decide +kernel, by decide +kernel⟩
abbrev s__law_are_letters : Stmt := topS 31
theorem sc__law_are_letters : FnScope ["_law_thing", "_law_sign"] ["_law_thing"] (defScope s__law_are_letters) := ⟨rfl, rfl, rfl, by decide +kernel, rfl, by decide +kernel, by decide +kernel⟩
abbrev s__law_is_below : Stmt := topS 32
theorem sc__law_is_below : FnScope ["_law_thing", "_law_many"] ["_law_thing", "_law_many"] (defScope s__law_is_below) := ⟨rfl, rfl, rfl, by decide +kernel, rfl, by decide +kernel, by decide +kernel⟩
abbrev s__law_program : Stmt := topS 33
theorem sc__law_program : FnScope ["_law_deck_here", "_law_letters_a", "_law_most", "_law_size", "_law_deeds_a", "_law_place_here", "_law_way", "_law_k"] ["_law_deck_here", "_law_letters_a", "_law_most"] (defScope s__law_program) := ⟨rfl, rfl, rfl, by decide +kernel, rfl, by decide +kernel, by decide +kernel⟩
abbrev s__law_is_deed : Stmt := topS 34
theorem sc__law_is_deed : FnScope ["_law_letters_a", "_law_size", "_law_thing", "_law_place_here"] ["_law_letters_a", "_law_size", "_law_thing"] (defScope s__law_is_deed) := ⟨rfl, rfl, rfl, by decide +kernel, rfl, by decide +kernel, by decide +kernel⟩
abbrev s__law_fault : Stmt := topS 35
theorem sc__law_fault : FnScope ["_law_letters_a", "_law_deeds_a", "_law_odd_here", "_law_k", "_law_deed"] ["_law_letters_a", "_law_deeds_a"] (defScope s__law_fault) := ⟨rfl, rfl, rfl, by decide +kernel, rfl, by decide +kernel, by decide +kernel⟩
abbrev s__law_text : Stmt := topS 36
theorem sc__law_text : FnScope ["_law_letters_a", "_law_deeds_a", "_law_lines", "_law_deed", "_law_part", "_law_place_here"] ["_law_letters_a", "_law_deeds_a"] (defScope s__law_text) := ⟨rfl, rfl, rfl, by decide +kernel, rfl, by decide +kernel, by decide +kernel⟩
abbrev s__law_place : Stmt := topS 37
theorem sc__law_place : FnScope ["_law_word", "_law_size", "_law_sign"] ["_law_word", "_law_size"] (defScope s__law_place) := ⟨rfl, rfl, rfl, by decide +kernel, rfl, by decide +kernel, by decide +kernel⟩
abbrev s__law_is_line : Stmt := topS 38
theorem sc__law_is_line : FnScope ["_law_letters_a", "_law_size", "_law_line", "_law_words", "_law_fine", "_law_word"] ["_law_letters_a", "_law_size", "_law_line"] (defScope s__law_is_line) := ⟨rfl, rfl, rfl, by decide +kernel, rfl, by decide +kernel, by decide +kernel⟩
abbrev s__law_bad_line : Stmt := topS 39
theorem sc__law_bad_line : FnScope ["_law_page", "_law_lines", "_law_words", "_law_odd_here", "_law_k", "_law_line"] ["_law_page"] (defScope s__law_bad_line) := ⟨rfl, rfl, rfl, by decide +kernel, rfl, by decide +kernel, by decide +kernel⟩
abbrev s__law_odd : Stmt := topS 40
theorem sc__law_odd : FnScope ["_law_deck_here", "_law_it", "_law_some"] ["_law_deck_here", "_law_it"] (defScope s__law_odd) := ⟨rfl, rfl, rfl, by decide +kernel, rfl, by decide +kernel, by decide +kernel⟩
abbrev s__law_bent : Stmt := topS 41
theorem sc__law_bent : FnScope ["_law_deck_here", "_law_it", "_law_at"] ["_law_deck_here", "_law_it"] (defScope s__law_bent) := ⟨rfl, rfl, rfl, by decide +kernel, rfl, by decide +kernel, by decide +kernel⟩
abbrev s__law_bent_text : Stmt := topS 42
theorem sc__law_bent_text : FnScope ["_law_deck_here", "_law_page", "_law_lines", "_law_way", "_law_at", "_law_some", "_law_words", "_law_spot", "_law_sign"] ["_law_deck_here", "_law_page"] (defScope s__law_bent_text) := ⟨rfl, rfl, rfl, by decide +kernel, rfl, by decide +kernel, by decide +kernel⟩
abbrev s__law_made : Stmt := topS 43
theorem sc__law_made : FnScope ["_law_letters_a", "_law_deeds_a", "_law_is_named", "_law_found", "e"] ["_law_letters_a", "_law_deeds_a", "_law_is_named"] (defScope s__law_made) := ⟨rfl, rfl, rfl, by decide +kernel, rfl, by decide +kernel, by decide +kernel⟩
abbrev s__law_heard : Stmt := topS 44
theorem sc__law_heard : FnScope ["_law_page", "_law_is_named", "_law_found", "e"] ["_law_page", "_law_is_named"] (defScope s__law_heard) := ⟨rfl, rfl, rfl, by decide +kernel, rfl, by decide +kernel, by decide +kernel⟩
abbrev s__law_is_like : Stmt := topS 45
theorem sc__law_is_like : FnScope ["_law_it", "_law_letters_a", "_law_deeds_a"] ["_law_it", "_law_letters_a", "_law_deeds_a"] (defScope s__law_is_like) := ⟨rfl, rfl, rfl, by decide +kernel, rfl, by decide +kernel, by decide +kernel⟩
abbrev s__law_read_right : Stmt := topS 46
theorem sc__law_read_right : FnScope ["_law_deck_here", "_law_page", "_law_thing", "_law_due", "_law_told", "_law_odd_here"] ["_law_deck_here", "_law_page"] (defScope s__law_read_right) := ⟨rfl, rfl, rfl, by decide +kernel, rfl, by decide +kernel, by decide +kernel⟩
abbrev s__law_bent_right : Stmt := topS 47
theorem sc__law_bent_right : FnScope ["_law_deck_here", "_law_it", "_law_letters_a", "_law_deeds_a", "_law_bent_here", "_law_was", "_law_due", "_law_told"] ["_law_deck_here", "_law_it", "_law_letters_a", "_law_deeds_a"] (defScope s__law_bent_right) := ⟨rfl, rfl, rfl, by decide +kernel, rfl, by decide +kernel, by decide +kernel⟩
abbrev s_law : Stmt := topS 48
theorem sc_law : FnScope ["_law_script", "_law_deck_here", "_law_go", "_law_letters_a", "_law_deeds_a", "_law_it", "_law_every", "_law_wide", "_law_page", "_law_thing", "_law_k"] ["_law_script"] (defScope s_law) := ⟨rfl, rfl, rfl, by decide +kernel, rfl, by decide +kernel, by decide +kernel⟩
end Lw

namespace Lw
open PySem PySem.Spec PyProof.Rows L2 Mq
open SX (S)
/-! ### letters -/
def ascB (l : List Nat) : Bool := ((List.range (l.length - 1)).map fun k => decide (l.getD k 0 < l.getD (k + 1) 0)).all id
theorem lt_sign (c d : Nat) : decide ((S [c]).cps.toList < (S [d]).cps.toList) = decide (c < d) := by
  have h : ((S [c]).cps.toList < (S [d]).cps.toList) ↔ c < d := by
    show ([c] : List Nat) < [d] ↔ c < d
    rw [List.cons_lt_cons_iff]
    simp
  exact decide_eq_decide.mpr h
theorem sz_le {n : Nat} (h : n ≤ 1000000) : n ≤ sizeLine := Nat.le_trans h (by decide)
theorem sz_lt {n : Nat} (h : n ≤ 1000000) : n < sizeLine := Nat.lt_of_le_of_lt h (by decide)
theorem at_get {l : List Nat} {k : Nat} (h : k < l.length) : atI (S l).cps.toList (k : Int) = some (l.getD k 0) := by
  refine atI_nat ?_
  show l[k]? = _
  rw [List.getElem?_eq_getElem h, List.getD_eq_getElem?_getD, List.getElem?_eq_getElem h]
  rfl
theorem ix_sign {l : List Nat} {k : Nat} {H : Hp} {Q : VK} (hl : l.length ≤ 100000) (h : k < l.length) (q : Q (.str (S [l.getD k 0])) H) : rIxS (.str (S l)) (.int (k : Int)) H Q :=
  ⟨S l, (k : Int), l.getD k 0, rfl, rfl, sz_le (by rw [SX.S_len]; omega), at_get h, q⟩
theorem len_S {K : PySem.W.Frag} {H : Hp} {l : List Nat} (hl : l.length ≤ 100000) : LenV K (.str (S l)) H (l.length : Nat) := by
  have hz := SX.S_len l
  refine ⟨?_, ?_⟩
  · rw [hz]
    exact sz_le (by omega)
  · rw [hz]
def spAsc : Sp := fun vs H Q _ => ∃ l : List Nat, vs = [.str (S l)] ∧ l.length ≤ 100000 ∧ ∀ H', Same H H' → Q (.bl (ascB l)) H'
section
variable {P : Program} {w : World} {K : PySem.W.Frag} {mg : Str → Option Value} {base : Heap}
theorem ok_is_ascending {f : Addr} {fd : FuncData} (F : Fun K "is_ascending" "is_ascending" s_is_ascending f fd) (B : Blt mg) :
    FnOk P w K mg base CX0 1 f fd ["parts"] spAsc := by
  refine F.ok sc_is_ascending (fun vs H Q E h => ?_) (fun cdv A outer s H vs Q E hr h => ?_)
  · obtain ⟨l, rfl, _⟩ := h
    rfl
  · obtain ⟨l, rfl, hl, q⟩ := h
    have hz : (S l).length = l.length := SX.S_len l
    refine ⟨_, pss_one (ps_ret (pe_callB (cr_all rfl) (by rfl) B.all (by decide +kernel) (pa_cons (pe_lc (own := [("k", 1)]) (g := gName 1) (tt := tYes) rfl sc_is_ascending.nd
      (pi_range1 (by rfl) B.range (pa_cons (pe_op op_sub (pe_callB call_len (by rfl) B.len (by decide +kernel) (pa_cons (pv 0) pa_nil)) pe_int) pa_nil))
      (blkOk_by (own := [("k", 1)]) (N := ["parts", "k"]) (sc := defScope s_is_ascending) (by decide +kernel)) (fun _ _ _ _ _ => pg_name (i := 1) sc_is_ascending.nd rfl (Or.inl rfl)) (fun _ _ _ _ _ => pts_nil)
      (fun _ _ _ _ _ => pe_cmpR op_lt_str (pe_ix ix_str (pv 0) (pv 1) (fun _ _ => rfl)) (pe_ix ix_str (pv 0) (pe_op op_add (pv 1) pe_int) (fun _ _ => rfl)) (nomark _))) pa_nil))), ?_⟩
    have e1 : ((l.length : Int) - 1).toNat = l.length - 1 := by omega
    unfold tRet tCB tCons
    refine lc_map (n := l.length - 1) walk_rng (fun k => .bl (decide (l.getD k 0 < l.getD (k + 1) 0))) (by omega) (fun R k => ?_) (fun _ _ _ _ _ => trivial) ?_ ?_
    · refine ⟨.str (S l), rfl, .str (S l), l.length, rfl, len_S hl, _, _, rfl, rfl, (l.length : Int) - 1, rfl, by omega, by omega, ?_⟩
      rw [e1]
      exact k _ (Same.refl _) trivial
    · rintro i x H' H'' R hi sm ⟨rfl, rfl⟩ k
      refine ⟨rfl, .str (S l), rfl, .int (i : Nat), rfl, ?_⟩
      refine ix_sign hl (by omega) ⟨.str (S l), rfl, .int (i : Nat), rfl, _, _, rfl, rfl, ?_⟩
      refine ix_sign (k := i + 1) hl (by omega) ?_
      refine ⟨S [l.getD i 0], S [l.getD (i + 1) 0], rfl, rfl, ?_⟩
      rw [lt_sign]
      exact k _ (Same.refl _)
    · intro D H' hD sm hl'
      refine ⟨D, (List.range (l.length - 1)).map fun k => decide (l.getD k 0 < l.getD (k + 1) 0), rfl, SqL.of ?_, q H' sm⟩
      rw [List.map_map]
      exact hl'
end
end Lw

namespace Lw
open PySem PySem.Spec PyProof.Rows L2 Mq
open SX (S)
def alpha : List Nat := List.range' 97 26
theorem alpha_is : ("abcdefghijklmnopqrstuvwxyz" : Str) = S alpha := by decide +kernel
def inB (c : Nat) (l : List Nat) : Bool := decide (c ∈ l)
def allB (l s : List Nat) : Bool := ((List.range l.length).map fun k => inB (l.getD k 0) s).all id
def lettersB (l : List Nat) : Bool := !decide (l = []) && (ascB l && allB l alpha)
/-- a value of a known kind that is no text -/
def NoStr (K : PySem.W.Frag) (H : Hp) (v : V) : Prop := ∃ a, TyX K H v (.type a) ∧ a ∈ ["NoneType", "bool", "int", "str", "list", "tuple", "dict"] ∧ a ≠ "str"
theorem kit_no {K : PySem.W.Frag} {a : String} (m : a ∈ ["NoneType", "bool", "int", "str", "list", "tuple", "dict"]) (n : a ≠ "str") : PySem.W.kitOne K (.type a) (.type "str") = some false :=
  kit_ty (by rw [kit_known a "str" m (by simp), decide_eq_false n])
theorem kit_self {K : PySem.W.Frag} : PySem.W.kitOne K (.type "str") (.type "str") = some true := kit_ty (by decide +kernel)
theorem str_is_nil (l : List Nat) : decide (V.str (S l) = V.str "") = decide (l = []) := by
  refine decide_eq_decide.mpr ⟨fun h => ?_, fun h => by rw [h]; rfl⟩
  have h1 : S l = S [] := V.str.inj h
  exact SX.S_inj h1
theorem walk_S (l : List Nat) : Walk (Its (S l)) l.length (fun _ => True) (YFn fun i => .str (S [l.getD i 0])) := by
  refine walk_str.mono (fun _ h => h) (fun i H x H' hi _ y => ⟨y.1, ?_⟩)
  obtain ⟨_, c, hc, rfl⟩ := y
  have hc' : l[i]? = some c := by simpa using hc
  show V.str (S [c]) = V.str (S [l.getD i 0])
  rw [List.getD_eq_getElem?_getD, hc']
  rfl
/-- what a name is looked up in: letters, signs -/
def spLetters (K : PySem.W.Frag) : Sp := fun vs H Q _ => ∃ v, vs = [v] ∧
  ((∃ l : List Nat, v = .str (S l) ∧ l.length ≤ 100000 ∧ ∀ H', Same H H' → Q (.bl (lettersB l)) H') ∨ (NoStr K H v ∧ ∀ H', Same H H' → Q (.bl false) H'))
def spWord (K : PySem.W.Frag) : Sp := fun vs H Q _ => ∃ (s : List Nat) (v : V), vs = [.str (S s), v] ∧
  ((∃ l : List Nat, v = .str (S l) ∧ l.length ≤ 100000 ∧ ∀ H', Same H H' → Q (.bl (allB l s)) H') ∨ (NoStr K H v ∧ ∀ H', Same H H' → Q (.bl false) H'))
section
variable {P : Program} {w : World} {K : PySem.W.Frag} {mg : Str → Option Value} {base : Heap}
theorem ok_is_letters {f fA : Addr} {fd fdA : FuncData} (F : Fun K "is_letters" "is_letters" s_is_letters f fd) (B : Blt mg)
    (FA : Fun K "is_ascending" "is_ascending" s_is_ascending fA fdA) (gA : mg "is_ascending" = some (.ref fA)) (bA : Binds K fdA ["parts"] [])
    (al : ∃ t, mg "ALPHABET" = some (.str "abcdefghijklmnopqrstuvwxyz" t)) :
    FnOk P w K mg base CX0 2 f fd ["thing"] (spLetters K) := by
  have GA : FnOk P w K mg base CX0 1 fA fdA ["parts"] spAsc := ok_is_ascending FA B
  obtain ⟨ta, al⟩ := al
  refine F.ok sc_is_letters (fun vs H Q E h => ?_) (fun cdv A outer s H vs Q E hr h => ?_)
  · obtain ⟨v, rfl, _⟩ := h
    rfl
  · obtain ⟨v, rfl, h⟩ := h
    refine ⟨_, pss_cons (ps_if (PW.pt (pw_or (pt_not (pt_val (pe_callB call_isi (by rfl) B.isi (by decide +kernel) (pa_cons (pv 0) (pa_cons (pe_bltn (v := .ty "str") (by rfl) B.str (by decide +kernel) rfl) pa_nil)))))
        (pw_or1 (pt_cmpR op_eq (pv 0) pe_str (nomark _))))) (pss_one (ps_ret pe_bl)) pss_nil)
      (pss_one (ps_ret (pe_and (pe_call GA (hr.mono (by decide)) (by rfl) gA FA.kp bA .nil pass0 (pa_cons (pv 0) pa_nil))
        (pe_one (pe_callB (cr_all rfl) (by rfl) B.all (by decide +kernel) (pa_cons (pe_lc (own := [("letter", 1)]) (g := gName 1) (tt := tYes) rfl sc_is_letters.nd (pi_str (pv 0))
          (blkOk_by (own := [("letter", 1)]) (N := ["thing", "letter"]) (sc := defScope s_is_letters) (by decide +kernel)) (fun _ _ _ _ _ => pg_name (i := 1) sc_is_letters.nd rfl (Or.inl rfl)) (fun _ _ _ _ _ => pts_nil)
          (fun _ _ _ _ _ => pe_cmpR op_in_sign (pv 1) (pe_glob (v := .str "abcdefghijklmnopqrstuvwxyz") rfl al ⟨_, rfl⟩) rfl)) pa_nil)))))), ?_⟩
    rcases h with ⟨l, rfl, hl, q⟩ | ⟨hn, q⟩
    · refine ⟨.str (S l), rfl, .str (S l), .ty "str", _, _, true, rfl, .ty _, .base (.str _), kit_self, true, rfl, iteF ⟨.str (S l), rfl, rfl, _, rfl, ?_⟩⟩
      rw [str_is_nil]
      cases e : decide (l = []) with
      | true =>
        refine iteT ?_
        have q' := q H (Same.refl H)
        unfold lettersB at q'
        rw [e] at q'
        exact q'
      | false =>
        refine iteF ⟨.str (S l), rfl, l, rfl, hl, fun H1 s1 => ⟨_, rfl, ?_⟩⟩
        have q' : ∀ H', Same H H' → Q (.bl (ascB l && allB l alpha)) H' := fun H' sm => by
          have z := q H' sm
          unfold lettersB at z
          rw [e] at z
          exact z
        cases ea : ascB l with
        | false =>
          refine iteF ?_
          have z := q' H1 s1
          rw [ea] at z
          exact z
        | true =>
          refine iteT ?_
          rw [ea] at q'
          unfold tCB tCons
          refine lc_map (n := l.length) (walk_S l) (fun k => .bl (inB (l.getD k 0) alpha)) (by omega) (fun R k => ⟨_, rfl, S l, rfl, k _ (Same.refl _) trivial⟩) (fun _ _ _ _ _ => trivial) ?_ ?_
          · rintro i x H' H'' R hi sm ⟨rfl, rfl⟩ k
            refine ⟨rfl, .str (S [l.getD i 0]), rfl, ?_⟩
            rw [alpha_is]
            exact ⟨l.getD i 0, S alpha, rfl, rfl, k _ (Same.refl _)⟩
          · intro D H' hD sm hl'
            refine ⟨D, (List.range l.length).map fun k => inB (l.getD k 0) alpha, rfl, SqL.of ?_, q' H' (s1.trans sm)⟩
            rw [List.map_map]
            exact hl'
    · obtain ⟨a, t, m, n⟩ := hn
      exact ⟨v, rfl, v, .ty "str", .type a, _, false, rfl, .ty _, t, kit_no m n, false, rfl, iteT (iteT (q H (Same.refl H)))⟩
end
end Lw

namespace Lw
open PySem PySem.Spec PyProof.Rows L2 Mq
open SX (S)
theorem ifF {c : Bool} {p q : Prop} (h : c = false) (hq : q) : (if c = true then p else q) := by rw [h]; exact hq
theorem ifT {c : Bool} {p q : Prop} (h : c = true) (hp : p) : (if c = true then p else q) := by rw [h]; exact hp
theorem len_tup {K : PySem.W.Frag} {H : Hp} {a : Addr} {xs : List V} (h : SqT K H a xs) : LenV K (.ref a) H xs.length := Or.inr ⟨xs, h, rfl⟩
theorem ps_dead {X : Cx} {st : Stmt} : PS X st (fun _ _ _ => False) := ⟨fun _ _ _ _ _ _ h => h.elim⟩
theorem pos_of {α : Type} {l : List α} (h : l ≠ []) : 0 < l.length := by
  cases l with
  | nil => exact (h rfl).elim
  | cons a l => exact Nat.zero_lt_succ _
theorem allB_of {sg w : List Nat} (h : ∀ c ∈ w, c ∈ sg) : allB w sg = true := by
  unfold allB
  rw [List.all_map, List.all_eq_true]
  intro k hk
  have hk' := List.mem_range.mp hk
  refine decide_eq_true (h _ ?_)
  rw [List.getD_eq_getElem?_getD, List.getElem?_eq_getElem hk']
  exact List.getElem_mem hk'
def wordOk (sg w : List Nat) : Prop := (∀ c ∈ w, c ∈ sg) ∧ w.length ≤ 1000
end Lw

namespace Lw
open PySem PySem.Spec PyProof.Rows L2 Mq
open SX (S)
/-! ### the deck -/
def deckKv (c : Addr) (m : Int) (t : Nat) : List (Key × V) := [(.inr "cells", .ref c), (.inr "stirred", .int m), (.inr "draws", .int (t : Nat))]
structure DeckAt (D C : Addr) (T : Nat) (H : Hp) : Prop where
  ex : ∃ (m : Int) (t : Nat) (js : List Int), H D = some (.dK (deckKv C m t)) ∧ H C = some (.lst (js.map V.int)) ∧ js.length ≤ 100 ∧ t ≤ T
def Off (D C : Addr) (H H' : Hp) : Prop := ∀ b o, b ≠ D → b ≠ C → H b = some o → H' b = some o
theorem Off.refl (D C : Addr) (H : Hp) : Off D C H H := fun _ _ _ _ e => e
theorem Off.trans {D C : Addr} {H H' H'' : Hp} (a : Off D C H H') (b : Off D C H' H'') : Off D C H H'' := fun x o h1 h2 e => b x o h1 h2 (a x o h1 h2 e)
theorem Off.same {D C : Addr} {H H' : Hp} (e : Same H H') : Off D C H H' := fun b o _ _ h => e b o h
theorem DeckAt.same {D C : Addr} {T : Nat} {H H' : Hp} (h : DeckAt D C T H) (e : Same H H') : DeckAt D C T H' := let ⟨m, t, js, a, b, c, d⟩ := h.ex; ⟨m, t, js, e _ _ a, e _ _ b, c, d⟩
theorem DeckAt.mono {D C : Addr} {T T' : Nat} {H : Hp} (h : DeckAt D C T H) (e : T ≤ T') : DeckAt D C T' H := let ⟨m, t, js, a, b, c, d⟩ := h.ex; ⟨m, t, js, a, b, c, Nat.le_trans d e⟩
theorem DeckAt.ne {D C : Addr} {T : Nat} {H : Hp} (h : DeckAt D C T H) : C ≠ D := by
  obtain ⟨m, t, js, a, b, c, d⟩ := h.ex
  rintro rfl
  rw [a] at b
  cases b
/-- what is no list and no dict is none of the deck's -/
theorem Off.at {D C : Addr} {T : Nat} {H H' : Hp} {a : Addr} {o : HO} (f : Off D C H H') (k : DeckAt D C T H) (h : H a = some o) (n : (∀ xs, o ≠ .lst xs) ∧ ∀ kvs, o ≠ .dK kvs) : H' a = some o := by
  obtain ⟨m, t, js, x, y, _, _⟩ := k.ex
  refine f a o ?_ ?_ h
  · rintro rfl
    rw [x] at h
    cases h
    exact n.2 _ rfl
  · rintro rfl
    rw [y] at h
    cases h
    exact n.1 _ rfl
theorem Off.tup {K : PySem.W.Frag} {D C : Addr} {T : Nat} {H H' : Hp} {a : Addr} {xs : List V} (f : Off D C H H') (k : DeckAt D C T H) (h : SqT K H a xs) : SqT K H' a xs := by
  rcases h with (h | ⟨o, h⟩) | h
  · exact Or.inl (Or.inl (f.at k h ⟨(fun _ z => nomatch z), (fun _ z => nomatch z)⟩))
  · exact Or.inl (Or.inr ⟨o, f.at k h ⟨(fun _ z => nomatch z), (fun _ z => nomatch z)⟩⟩)
  · exact Or.inr h
theorem dp_ints' {K : PySem.W.Frag} {H : Hp} : ∀ js : List Int, DpAll K H (js.map V.int) (js.map PyData.int)
  | [] => .nil
  | t :: ts => .cons (.int _) (dp_ints' ts)
theorem lay_ints' (js : List Int) : PyData.canLayAll0 (js.map PyData.int) = true ∧ PyData.depthAll (js.map PyData.int) = 0 := by
  induction js with
  | nil => exact ⟨rfl, rfl⟩
  | cons t ts ih =>
    refine ⟨ih.1, ?_⟩
    show max 0 _ = 0
    rw [ih.2]
    rfl
theorem shaped_ints (js : List Int) : SeqAt.shaped (.list (js.map PyData.int)) = true := by
  unfold SeqAt.shaped
  obtain ⟨a, b⟩ := lay_ints' js
  rw [show (PyData.list (js.map PyData.int)).canLay0 = true from a]
  have : (PyData.list (js.map PyData.int)).depth ≤ 64 := by
    show PyData.depthAll _ + 1 ≤ 64
    omega
  rw [decide_eq_true this]
  rfl
def spDraw : Sp := fun vs H Q _ => ∃ (D C : Addr) (T b : Nat), vs = [.ref D, .int (b : Nat)] ∧ DeckAt D C T H ∧ T ≤ 1000000 ∧ 0 < b ∧ b ≤ 1000000 ∧
  ∀ H' (r : Nat), r < b → DeckAt D C (T + 1) H' → Off D C H H' → Q (.int (r : Nat)) H'
theorem fmod_nat (i : Int) {b : Nat} (h : 0 < b) : ∃ r : Nat, i.fmod (b : Int) = (r : Nat) ∧ r < b := by
  have h1 : 0 ≤ i.fmod (b : Int) := Int.fmod_nonneg_of_pos i (by omega)
  have h2 : i.fmod (b : Int) < b := Int.fmod_lt_of_pos i (by omega)
  exact ⟨(i.fmod b).toNat, by omega, by omega⟩
theorem bound_mod (i : Int) : -(2 ^ 64) < i.fmod 2147483647 ∧ i.fmod 2147483647 < 2 ^ 64 := by
  obtain ⟨r, e, l⟩ := fmod_nat i (b := 2147483647) (by decide)
  have e' : i.fmod 2147483647 = (r : Nat) := e
  rw [e']
  omega
theorem mod_fin {b : Nat} (h : 0 < b) (i : Int) {H : Hp} {Q : VK} (k : ∀ r : Nat, r < b → Q (.int (r : Nat)) H) : Q (.int (i.fmod (b : Nat))) H := by
  obtain ⟨r, e, l⟩ := fmod_nat i h
  rw [e]
  exact k r l
section
variable {P : Program} {w : World} {K : PySem.W.Frag} {mg : Str → Option Value} {base : Heap}
theorem ok_draw {f : Addr} {fd : FuncData} (F : Fun K "_law_draw" "_law_draw" s__law_draw f fd) (B : Blt mg) :
    FnOk P w K mg base CX0 1 f fd ["_law_deck_here", "_law_below"] spDraw := by
  refine F.ok sc__law_draw (fun vs H Q E h => ?_) (fun cdv A outer s H vs Q E hr h => ?_)
  · obtain ⟨_, _, _, _, rfl, _⟩ := h
    rfl
  · obtain ⟨D, C, T, b, rfl, hdk, hT, hb0, hb1, q⟩ := h
    have hu : (A.deeper (envOfC "_law_draw" (defScope s__law_draw) s.heap.objs.size f cdv)).units + 64 < cLine := by
      have := hr.units
      omega
    have hu1 : (A.deeper (envOfC "_law_draw" (defScope s__law_draw) s.heap.objs.size f cdv)).units + 1 < cLine := by omega
    refine ⟨_, (pss_cons (ps_dput hu1 (pv 0) pe_str (pe_op op_add (pe_dget hu1 (pv 0) pe_str (fun _ _ => rfl)) pe_int) rfl)
      (pss_cons (ps_par (i := 2) (j := 3) rfl sc__law_draw.nd rfl rfl (by decide) rfl rfl (pa_cons (pe_dget hu1 (pv 0) pe_str (fun _ _ => rfl)) (pa_cons (pe_dget hu1 (pv 0) pe_str (fun _ _ => rfl)) pa_nil)) (by rfl))
      (pss_cons (ps_if (pt_cmpR (op_neD hu) (pe_dget hu1 (pv 0) pe_str (fun _ _ => rfl)) (pe_ls pa_nil) (nomark _)) (pss_cons (ps_set (i := 4) sc__law_draw.nd rfl (Or.inl rfl) (pe_bm0 PySem.F.plainAttrs_list PySem.F.slot_list_pop PySem.F.type_list_pop mt_pop (pe_dget hu1 (pv 0) pe_str (fun _ _ => rfl))))
        (pss_cons (ps_if (pt_cmpR op_ge (pv 4) (pe_op op_pow pe_int pe_int) (nomark _)) (pss_cons (ps_expr (pe_bm PySem.F.plainAttrs_list PySem.F.slot_list_append PySem.F.type_list_append mt_append (pe_dget hu1 (pv 0) pe_str (fun _ _ => rfl)) (pa_cons (pe_op op_fdivN (pv 4) (pv 1)) pa_nil)))
          (pss_one (ps_ret (pe_op op_modN (pe_callTy call_int1 (by rfl) B.int (by decide +kernel) (pa_cons (pv 4) pa_nil)) (pv 1))))) pss_nil)
        (pss_one (ps_set (i := 3) sc__law_draw.nd rfl (Or.inl rfl) (pe_op op_add (pv 3) (pe_op op_modN (pe_callTy call_int1 (by rfl) B.int (by decide +kernel) (pa_cons (pv 4) pa_nil)) pe_int)))))) pss_nil)
      (pss_cons (ps_set (i := 3) sc__law_draw.nd rfl (Or.inl rfl) (pe_op op_modN (pe_op op_mul (pe_callTy call_int1 (by rfl) B.int (by decide +kernel) (pa_cons (pe_op op_add (pe_op op_add (pe_op op_modN (pe_callTy call_int1 (by rfl) B.int (by decide +kernel) (pa_cons (pv 3) pa_nil)) pe_int) (pe_op op_mul (pe_op op_mul pe_int (pv 2)) (pv 2))) pe_int) pa_nil)) pe_int) pe_int))
      (pss_cons (ps_set (i := 3) sc__law_draw.nd rfl (Or.inl rfl) (pe_op op_modN (pe_callTy call_int1 (by rfl) B.int (by decide +kernel) (pa_cons (pe_op op_add (pe_op op_add (pe_op op_mul (pv 3) (pv 3)) (pe_op op_mul pe_int (pv 2))) pe_int) pa_nil)) pe_int))
      (pss_one (ps_ret (pe_op op_modN (pe_op op_fdivN (pe_op op_modN (pe_callTy call_int1 (by rfl) B.int (by decide +kernel) (pa_cons (pe_op op_mul (pv 3) pe_int) pa_nil)) pe_int) pe_int) (pv 1))))))))), ?_⟩
    obtain ⟨m, t, js, hD, hC, hjs, ht⟩ := hdk.ex
    have ne := hdk.ne
    have e : ((t : Nat) : Int) + 1 = ((t + 1 : Nat) : Int) := by omega
    have eH : upd H D (.dK (deckKv C m (t + 1))) = upd H D (.dK (putK (deckKv C m t) (.inr "draws") (.int (((t : Nat) : Int) + 1)))) := by
      rw [e]
      rfl
    have o1 : Off D C H (upd H D (.dK (deckKv C m (t + 1)))) := fun x o h1 h2 h => (upd_ne h1).trans h
    have hD1 : upd H D (.dK (deckKv C m (t + 1))) D = some (.dK (deckKv C m (t + 1))) := upd_same
    have hC1 : upd H D (.dK (deckKv C m (t + 1))) C = some (.lst (js.map V.int)) := (upd_ne ne).trans hC
    refine ⟨_, rfl, D, .int (t : Nat), rfl, (DGet.k (k := .inr "draws") hD : DGet H D (.str "draws") (some (.int (t : Nat)))), _, _, rfl, rfl, _, rfl, D, upd H D (.dK (deckKv C m (t + 1))), rfl, Or.inl ⟨deckKv C m t, .inr "draws", hD, rfl, sz_lt (by show 3 ≤ _; decide), eH⟩, ?_⟩
    generalize upd H D (.dK (deckKv C m (t + 1))) = H1 at o1 hD1 hC1 ⊢
    have gT : ∀ {H2 : Hp}, H2 D = some (.dK (deckKv C m (t + 1))) → DGet H2 D (.str "draws") (some (.int (t + 1 : Nat))) := fun h => DGet.k (k := .inr "draws") h
    have gM : ∀ {H2 : Hp}, H2 D = some (.dK (deckKv C m (t + 1))) → DGet H2 D (.str "stirred") (some (.int m)) := fun h => DGet.k (k := .inr "stirred") h
    have gC : ∀ {H2 : Hp}, H2 D = some (.dK (deckKv C m (t + 1))) → DGet H2 D (.str "cells") (some (.ref C)) := fun h => DGet.k (k := .inr "cells") h
    have cT : -(2 ^ 64) < (((t + 1 : Nat)) : Int) ∧ (((t + 1 : Nat)) : Int) < 2 ^ 64 := by omega
    refine ⟨_, rfl, D, _, rfl, gT hD1, _, rfl, D, _, rfl, gM hD1, _, _, rfl, ?_⟩
    refine ⟨_, rfl, D, _, rfl, gC hD1, sz_le (n := 0) (by decide), fun p hp _ => ?_⟩
    have sp1 : Same H1 (upd H1 p (.lst [])) := same_new hp
    refine ⟨.list (js.map PyData.int), .list [], .lst (SqL.of (sp1 _ _ hC1)) (dp_ints' js), .lst (SqL.of upd_same) .nil, shaped_ints js, by decide +kernel, _, rfl, ?_⟩
    have hD2 := sp1 _ _ hD1
    have hC2 := sp1 _ _ hC1
    have o2 : Off D C H (upd H1 p (.lst [])) := o1.trans (Off.same sp1)
    generalize upd H1 p (.lst []) = H2 at hD2 hC2 o2 ⊢
    have fin : ∀ (H3 : Hp) (js' : List Int), H3 D = some (.dK (deckKv C m (t + 1))) → H3 C = some (.lst (js'.map V.int)) → js'.length ≤ 100 → Off D C H H3 → ∀ r : Nat, r < b → Q (.int (r : Nat)) H3 :=
      fun H3 js' h1 h2 h3 h4 r hr => q H3 r hr ⟨m, t + 1, js', h1, h2, h3, by omega⟩ h4
    rcases List.eq_nil_or_concat js with rfl | ⟨js', j, rfl⟩
    · refine ifF rfl ?_
      have hDx := hD2
      have kq := fin H2 [] hD2 hC2 (by decide) o2
      refine ⟨_, rfl, Or.inl ⟨_, rfl, _, _, rfl, rfl, (show (2147483629 : Int) ≠ 0 by decide), _, rfl, _, _, rfl, rfl, Or.inl (by decide), _, rfl, _, _, rfl, rfl, Or.inr cT, _, _, rfl, rfl, _, _, rfl, rfl, Or.inl ⟨_, rfl, _, _, rfl, rfl, Or.inr (by decide), _, _, rfl, rfl, (show (2147483647 : Int) ≠ 0 by decide), ?_⟩⟩⟩
      refine ⟨_, rfl, _, rfl, _, _, rfl, rfl, Or.inl ?_, _, rfl, _, _, rfl, rfl, Or.inl (by decide), _, _, rfl, rfl, _, _, rfl, rfl, Or.inl ⟨_, rfl, _, _, rfl, rfl, (show (2147483579 : Int) ≠ 0 by decide), ?_⟩⟩
      · exact bound_mod _
      · refine ⟨_, rfl, _, _, rfl, rfl, Or.inr (by decide), Or.inl ⟨_, rfl, _, _, rfl, rfl, (show (2147483549 : Int) ≠ 0 by decide), _, _, rfl, rfl, ⟨by decide, by decide⟩, _, rfl, _, _, rfl, rfl, (show ((b : Nat) : Int) ≠ 0 by omega), ?_⟩⟩
        exact mod_fin hb0 _ kq
    · rw [List.concat_eq_append] at *
      refine ifT (by cases js' <;> rfl) ?_
      have hlast : ((js' ++ [j]).map V.int)[((js' ++ [j]).map V.int).length - 1]? = some (.int j) := by simp
      have hdrop : ((js' ++ [j]).map V.int).dropLast = js'.map V.int := by simp
      refine ⟨_, rfl, D, _, rfl, gC hD2, Or.inl ⟨rfl, _, Or.inl (Or.inl hC2)⟩, C, _, _, rfl, rfl, hC2, hlast, ?_⟩
      rw [hdrop]
      have hD3 : upd H2 C (.lst (js'.map V.int)) D = some (.dK (deckKv C m (t + 1))) := (upd_ne (Ne.symm ne)).trans hD2
      have hC3 : upd H2 C (.lst (js'.map V.int)) C = some (.lst (js'.map V.int)) := upd_same
      have o3 : Off D C H (upd H2 C (.lst (js'.map V.int))) := o2.trans (fun x o h1 h2 h => (upd_ne h2).trans h)
      generalize upd H2 C (.lst (js'.map V.int)) = H3 at hD3 hC3 o3 ⊢
      have hl' : js'.length + 1 ≤ 100 := by simpa using hjs
      refine ⟨_, rfl, _, _, rfl, rfl, ⟨by decide, by decide, by decide⟩, _, _, rfl, rfl, _, rfl, ite2 (fun hc => ?_) (fun hc => ?_)⟩
      · have hj : (10 : Int) ^ 18 ≤ j := of_decide_eq_true hc
        refine ⟨_, rfl, D, _, rfl, gC hD3, Or.inl ⟨rfl, _, Or.inl (Or.inl hC3)⟩, _, rfl, _, rfl, _, _, rfl, rfl, ⟨by omega, by omega⟩, C, _, _, rfl, rfl, hC3, sz_lt (by rw [List.length_map]; omega), ?_⟩
        have hD4 : upd H3 C (.lst (js'.map V.int ++ [.int (j.fdiv (b : Nat))])) D = some (.dK (deckKv C m (t + 1))) := (upd_ne (Ne.symm ne)).trans hD3
        have hC4 : upd H3 C (.lst (js'.map V.int ++ [.int (j.fdiv (b : Nat))])) C = some (.lst ((js' ++ [j.fdiv (b : Nat)]).map V.int)) := upd_same.trans (by rw [List.map_append]; rfl)
        have o4 : Off D C H (upd H3 C (.lst (js'.map V.int ++ [.int (j.fdiv (b : Nat))]))) := o3.trans (fun x o h1 h2 h => (upd_ne h2).trans h)
        have kq := fin _ _ hD4 hC4 (by rw [List.length_append]; exact hl') o4
        refine ⟨_, rfl, Or.inl ⟨_, rfl, _, rfl, _, _, rfl, rfl, (show ((b : Nat) : Int) ≠ 0 by omega), ?_⟩⟩
        exact mod_fin hb0 _ kq
      · refine ⟨_, rfl, _, rfl, Or.inl ⟨_, rfl, _, _, rfl, rfl, (show (2147483563 : Int) ≠ 0 by decide), _, _, rfl, rfl, ?_⟩⟩
        have hDx := hD3
        have kq := fin H3 js' hD3 hC3 (by omega) o3
        refine ⟨_, rfl, Or.inl ⟨_, rfl, _, _, rfl, rfl, (show (2147483629 : Int) ≠ 0 by decide), _, rfl, _, _, rfl, rfl, Or.inl (by decide), _, rfl, _, _, rfl, rfl, Or.inr cT, _, _, rfl, rfl, _, _, rfl, rfl, Or.inl ⟨_, rfl, _, _, rfl, rfl, Or.inr (by decide), _, _, rfl, rfl, (show (2147483647 : Int) ≠ 0 by decide), ?_⟩⟩⟩
        refine ⟨_, rfl, _, rfl, _, _, rfl, rfl, Or.inl ?_, _, rfl, _, _, rfl, rfl, Or.inl (by decide), _, _, rfl, rfl, _, _, rfl, rfl, Or.inl ⟨_, rfl, _, _, rfl, rfl, (show (2147483579 : Int) ≠ 0 by decide), ?_⟩⟩
        · exact bound_mod _
        · refine ⟨_, rfl, _, _, rfl, rfl, Or.inr (by decide), Or.inl ⟨_, rfl, _, _, rfl, rfl, (show (2147483549 : Int) ≠ 0 by decide), _, _, rfl, rfl, ⟨by decide, by decide⟩, _, rfl, _, _, rfl, rfl, (show ((b : Nat) : Int) ≠ 0 by omega), ?_⟩⟩
          exact mod_fin hb0 _ kq
end
end Lw

namespace Lw
open PySem PySem.Spec PyProof.Rows L2 Mq
open SX (S)
def spDeck (K : PySem.W.Frag) : Sp := fun vs H Q _ => ∃ (a : Addr) (ns : List Int), vs = [.ref a] ∧ SqL K H a (ns.map V.int) ∧ ns.length ≤ 63 ∧
  ∀ H' D C, Same H H' → DeckAt D C 0 H' → Q (.ref D) H'
def spPick : Sp := fun vs H Q _ => ∃ (D C : Addr) (T : Nat) (x : V), vs = [.ref D, x] ∧ DeckAt D C T H ∧ T ≤ 1000000 ∧
  ((∃ l : List Nat, x = .str (S l) ∧ 0 < l.length ∧ l.length ≤ 1000 ∧ ∀ H' c, c ∈ l → DeckAt D C (T + 1) H' → Off D C H H' → Q (.str (S [c])) H') ∨
   ∃ (p : Addr) (xs : List V), x = .ref p ∧ H p = some (.lst xs) ∧ p ≠ C ∧ 0 < xs.length ∧ xs.length ≤ 1000 ∧ ∀ H' v, v ∈ xs → DeckAt D C (T + 1) H' → Off D C H H' → Q v H')
section
variable {P : Program} {w : World} {K : PySem.W.Frag} {mg : Str → Option Value} {base : Heap}
theorem ok_deck {f : Addr} {fd : FuncData} (F : Fun K "_law_deck" "_law_deck" s__law_deck f fd) (B : Blt mg) :
    FnOk P w K mg base CX0 1 f fd ["_law_script"] (spDeck K) := by
  refine F.ok sc__law_deck (fun vs H Q E h => ?_) (fun cdv A outer s H vs Q E hr h => ?_)
  · obtain ⟨_, _, rfl, _⟩ := h
    rfl
  · obtain ⟨a, ns, rfl, ha, hn, q⟩ := h
    refine ⟨_, (pss_cons (ps_par (i := 1) (j := 2) rfl sc__law_deck.nd rfl rfl (by decide) rfl rfl (pa_cons (pe_callTy call_list_of (by rfl) B.list (by decide +kernel) (pa_cons (pe_slice sl_list (pv 0) po_none (po_some pe_int)) pa_nil)) (pa_cons pe_int pa_nil)) (by rfl))
      (pss_cons (ps_for PassesOwn.never rfl (pi_list (pv 1)) (pg_name (i := 3) sc__law_deck.nd rfl (Or.inl rfl))
        (pss_one (ps_set (i := 2) sc__law_deck.nd rfl (Or.inl rfl) (pe_op op_modN (pe_callTy call_int1 (by rfl) B.int (by decide +kernel) (pa_cons (pe_op op_add (pe_op op_add (pe_op op_mul (pv 2) pe_int) (pe_op op_modN (pe_callTy call_int1 (by rfl) B.int (by decide +kernel) (pa_cons (pv 3) pa_nil)) pe_int)) pe_int) pa_nil)) pe_int))))
      (pss_one (ps_ret (pe_disp (pps_cons pe_str (pe_revL (pv 1)) (pps_cons pe_str (pv 2) (pps_cons pe_str pe_int pps_nil))) (by rfl) (by rfl) (fun z => by cases z) (by decide)))))), ?_⟩
    obtain ⟨ms, hms, hml⟩ : ∃ ms : List Int, cutV (ns.map V.int) none (some 63) = ms.map V.int ∧ ms.length ≤ 63 := by
      refine ⟨(ns.drop (HT.sIx (ns.map V.int).length 0 none)).take (HT.sIx (ns.map V.int).length (ns.map V.int).length (some 63) - HT.sIx (ns.map V.int).length 0 none), ?_, ?_⟩
      · unfold cutV
        rw [← List.map_drop, ← List.map_take]
      · rw [List.length_take, List.length_drop]
        omega
    refine ⟨_, rfl, 63, rfl, a, _, rfl, ha, fun p1 hp1 => ⟨p1, _, rfl, Or.inl (SqL.of upd_same), fun c hc => ?_⟩⟩
    rw [hms] at hc ⊢
    have s1 : Same H (upd H p1 (.lst (ms.map V.int))) := same_new hp1
    generalize upd H p1 (.lst (ms.map V.int)) = H1 at s1 hc ⊢
    have s2 : Same H (upd H1 c (.lst (ms.map V.int))) := s1.trans (same_new hc)
    have hC : upd H1 c (.lst (ms.map V.int)) c = some (.lst (ms.map V.int)) := upd_same
    generalize upd H1 c (.lst (ms.map V.int)) = H2 at s2 hC ⊢
    refine ⟨_, _, rfl, ?_⟩
    refine ⟨_, rfl, c, rfl, ⟨_, SqL.of hC⟩, ?_⟩
    refine for_list (xs := ms.map V.int) (fun i σ H' => H' = H2 ∧ ∃ (m : Int) (o : Option V), σ = [some (.ref a), some (.ref c), some (.int m), o]) ⟨rfl, _, _, rfl⟩ (fun i σ H' _ p => by rw [p.1]; exact SqL.of hC) ?_ ?_
    · rintro i x σ H' hx ⟨rfl, m, o, rfl⟩
      obtain ⟨j, rfl⟩ : ∃ j, x = .int j := by
        rw [List.getElem?_map] at hx
        cases h : ms[i]? with
        | none => rw [h] at hx; cases hx
        | some j => rw [h] at hx; cases hx; exact ⟨j, rfl⟩
      refine ⟨_, rfl, _, _, rfl, rfl, Or.inr (by decide), _, rfl, Or.inl ⟨_, rfl, _, _, rfl, rfl, (show (2147483629 : Int) ≠ 0 by decide), _, _, rfl, rfl, _, _, rfl, rfl, Or.inl ⟨_, rfl, _, _, rfl, rfl, (show (2147483587 : Int) ≠ 0 by decide), rfl, _, _, rfl⟩⟩⟩
    · rintro σ H' ⟨rfl, m, o, rfl⟩
      refine fun p hp => ?_
      have s3 : Same H' (upd H' p (.dK [])) := same_new hp
      refine ⟨_, rfl, c, _, rfl, SqL.of (s3 _ _ hC), fun p2 hp2 => ⟨_, rfl, ?_⟩⟩
      have s4 : Same H' (upd (upd H' p (.dK [])) p2 (.lst (ms.map V.int).reverse)) := s3.trans (same_new hp2)
      have hp4 : upd (upd H' p (.dK [])) p2 (.lst (ms.map V.int).reverse) p = some (.dK []) := (same_new hp2) _ _ upd_same
      refine ⟨hp4, deckKv p2 m 0, rfl, by show 3 ≤ 15; decide, ?_⟩
      have ne : p2 ≠ p := by
        rintro rfl
        rw [upd_same] at hp2
        cases hp2
      refine q _ p p2 ?_ ⟨m, 0, ms.reverse, upd_same.trans ?_, ?_, by rw [List.length_reverse]; omega, Nat.le_refl _⟩
      · intro b o e
        have e2 := s2 b o e
        rw [upd_ne (ne_of_none e2 hp)]
        exact s4 b o e2
      · rfl
      · rw [upd_ne ne, upd_same, List.map_reverse]
end
end Lw

namespace Lw
open PySem PySem.Spec PyProof.Rows L2 Mq
open SX (S)
section
variable {P : Program} {w : World} {K : PySem.W.Frag} {mg : Str → Option Value} {base : Heap}
theorem ok_pick {f fD : Addr} {fd fdD : FuncData} (F : Fun K "_law_pick" "_law_pick" s__law_pick f fd) (B : Blt mg)
    (FD : Fun K "_law_draw" "_law_draw" s__law_draw fD fdD) (gD : mg "_law_draw" = some (.ref fD)) (bD : Binds K fdD ["_law_deck_here", "_law_below"] []) :
    FnOk P w K mg base CX0 2 f fd ["_law_deck_here", "_law_some"] spPick := by
  have GD : FnOk P w K mg base CX0 1 fD fdD ["_law_deck_here", "_law_below"] spDraw := ok_draw FD B
  refine F.ok sc__law_pick (fun vs H Q E h => ?_) (fun cdv A outer s H vs Q E hr h => ?_)
  · obtain ⟨_, _, _, _, rfl, _⟩ := h
    rfl
  · obtain ⟨D, C, T, x, rfl, hdk, hT, h⟩ := h
    refine ⟨_, (pss_one (ps_ret (pe_ix ix_seq (pv 1) (pe_call GD (hr.mono (by decide)) (by rfl) gD FD.kp bD .nil pass0 (pa_cons (pv 0) (pa_cons (pe_callB call_len (by rfl) B.len (by decide +kernel) (pa_cons (pv 1) pa_nil)) pa_nil))) (fun _ _ => rfl)))), ?_⟩
    rcases h with ⟨l, rfl, h0, h1, q⟩ | ⟨p, xs, rfl, hp, hpC, h0, h1, q⟩
    · refine ⟨_, rfl, _, rfl, _, rfl, _, _, rfl, len_S (by omega), D, C, T, l.length, rfl, hdk, hT, h0, Nat.le_trans h1 (by decide), fun H' r hr dk off => ?_⟩
      refine Or.inr (Or.inr ⟨S l, _, l.getD r 0, rfl, rfl, sz_le (by rw [SX.S_len]; omega), at_get hr, ?_⟩)
      refine q H' _ ?_ dk off
      rw [List.getD_eq_getElem?_getD, List.getElem?_eq_getElem hr]
      exact List.getElem_mem hr
    · refine ⟨_, rfl, _, rfl, _, rfl, _, _, rfl, Or.inl ⟨xs, SqL.of hp, rfl⟩, D, C, T, xs.length, rfl, hdk, hT, h0, Nat.le_trans h1 (by decide), fun H' r hr dk off => ?_⟩
      have hpD : p ≠ D := by
        rintro rfl
        obtain ⟨_, _, _, e, _⟩ := hdk.ex
        rw [hp] at e
        cases e
      have hp' := off p _ hpD hpC hp
      refine Or.inl ⟨p, xs, _, xs[r], rfl, rfl, SqL.of hp', atI_nat (List.getElem?_eq_getElem hr), q H' _ (List.getElem_mem hr) dk off⟩
end
end Lw

namespace Mq
open PySem PySem.Spec PyProof.Rows L2
/-! ### the keys of a dict, drawn one by one, whatever they are -/
section
variable {prog : Program} {w : World} {d : Addr} {o : Obj} {es : Array DictEntry} {ep : Nat}
theorem walks_keys {A : Around} (hh : A.handled = none) (I : Addr) (hne : d ≠ I) (hdat : o.data = .dict es ep) :
    Walks prog w A I [I, d] [I] es.size (fun i v => ∃ en, es[i]? = some en ∧ v = en.key) (fun i h => h.IsKeyIter I d i es.size ep ∧ h.get? d = some o) where
  sub := fun b hb => by rw [List.mem_singleton.mp hb]; exact List.mem_cons_self
  frame := fun i h h' st k => ⟨st.1.at fun x e => k I (by simp) x e, k d (by simp) o st.2⟩
  item := fun i s Q E hi st hQ => by
    refine next_key_item st.1 st.2 hdat rfl (en := es[i]) (by simp [hi]) fun h' st' sb => ?_
    refine hQ _ h' s.toks ⟨es[i], by simp [hi], rfl⟩ ⟨st', (sb.2 d hne).trans st.2⟩ fun b x hb e => ?_
    exact (sb.2 b fun z => hb (by rw [z]; exact List.mem_singleton.mpr rfl)).trans e
  done := fun s Q E st hQ => by
    refine next_key_end hh st.1 st.2 hdat rfl (Nat.le_refl _) fun h' eb => hQ h' s.toks fun b x hb e => ?_
    exact eb b x (fun z => hb (by rw [z]; exact List.mem_singleton.mpr rfl)) e
  self := fun i s Q E st h => by
    have t := st.1.typeIs
    refine wpAny_pyIter_slot t F.slot_dict_keyiterator_iter (wpAny_call_entry F.slot_dict_keyiterator_iter t F.entry_dict_keyiterator_iter ?_ (F.args_dict_keyiterator_iter_1 _))
    refine wpAny_pure ⟨.ref I, rfl, "dict_keyiterator", _, t, F.slot_dict_keyiterator_next.lookup, h⟩
theorem src_keys (hd : (d == sysModules) = false) (hx : o.ExactDict) (hdat : o.data = .dict es ep) :
    PySem.W.KdlSrc prog w "dict" d d es.size (fun i v => ∃ en, es[i]? = some en ∧ v = en.key) (fun h => h.get? d = some o) where
  type := fun _ ho => ⟨o, ho, hx.1⟩
  there := fun _ ho => ⟨Heap.lt_size ho, Heap.lt_size ho⟩
  keep := fun _ _ ho k => k d (.inl rfl) o ho
  notList := by decide
  notTuple := by decide
  hint := fun _ _ _ _ ho hq => PySem.W.kdl_hint_dict ⟨o, ho, hx.1⟩ hq
  iter := fun A s hh ho => ⟨_, _, (fun _ _ hq => iter_keys hd ho hx hdat hq), walks_keys hh s.heap.objs.size (Nat.ne_of_lt (Heap.lt_size ho)) hdat,
    ⟨⟨_, Heap.get?_push_size _ rfl, rfl, rfl⟩, Heap.get?_push_of_some _ ho⟩⟩
end
/-! ### sorted(d), d's keys being pairs of texts -/
def txt2 (x : Str × Str) : List (Int ⊕ List Nat) := [.inr x.1.cps.toList, .inr x.2.cps.toList]
/-- ahead as pairs -/
def ltSS (x y : Str × Str) : Bool := (PyProof.Rows.listOrd PyProof.Rows.itemOrd).blt (txt2 x) (txt2 y)
def prOf (H : Hp) (b : Addr) : Str × Str := match H b with
  | some (.tup [.str x, .str y]) => (x, y)
  | _ => ("", "")
def rSortedT : List V → Hp → VK → Prop := fun xs H Q => ∃ (a : Addr) (kvs : List (List Key × V)) (ks : List (Str × Str)), xs = [.ref a] ∧ Rd H a (.dT kvs) ∧ kvs.map (·.1) = ks.map (fun x => [Sum.inr x.1, Sum.inr x.2]) ∧
  ∀ (as qs : List Addr) (p : Addr), as.map (prOf H) = ks → (∀ b ∈ as, H b = some (.tup [.str (prOf H b).1, .str (prOf H b).2])) → qs.Perm as →
    (∀ i j, i ≤ j → j < qs.length → ltSS (prOf H (qs.getD j 0)) (prOf H (qs.getD i 0)) = false) → H p = none → Q (.ref p) (upd H p (.lst (qs.map V.ref)))
theorem key_pair {H : Hp} {b : Addr} {x : Str × Str} (h : H b = some (.tup (([Sum.inr x.1, Sum.inr x.2] : List Key).map kV))) : prOf H b = x ∧ H b = some (.tup [.str (prOf H b).1, .str (prOf H b).2]) := by
  have h' : H b = some (.tup [.str x.1, .str x.2]) := h
  have e : prOf H b = x := by
    unfold prOf
    rw [h']
  rw [e]
  exact ⟨rfl, h'⟩
/-- the keys' own tuples -/
theorem keys_rel {H : Hp} : ∀ {kvs : List (List Key × V)} {xs : List (List Key × Addr × Value)} {ks : List (Str × Str)}, KT H kvs xs → kvs.map (·.1) = ks.map (fun x => [Sum.inr x.1, Sum.inr x.2]) →
    (xs.map fun q => q.2.1).map (prOf H) = ks ∧ ∀ b ∈ xs.map (fun q => q.2.1), H b = some (.tup [.str (prOf H b).1, .str (prOf H b).2])
  | [], [], [], .nil, _ => ⟨rfl, fun b h => by cases h⟩
  | p :: kvs, q :: xs, k :: ks, .cons h t, e => by
    obtain ⟨h1, h2, _⟩ := h
    injection e with e1 e2
    obtain ⟨a, b⟩ := keys_rel t e2
    have e1' : p.1 = [Sum.inr k.1, Sum.inr k.2] := e1
    rw [e1'] at h2
    obtain ⟨c, d⟩ := key_pair h2
    refine ⟨?_, fun x hx => ?_⟩
    · show prOf H q.2.1 :: _ = _
      rw [c, a]
    · rcases List.mem_cons.mp hx with e | hx
      · rw [e]
        exact d
      · exact b x hx
  | [], [], _ :: _, .nil, e => by cases e
  | _ :: _, _ :: _, [], .cons _ _, e => by cases e
def unR : Value → Addr
  | .ref b => b
  | _ => 0
theorem perm_back {l : List Value} {as : List Addr} (h : l.Perm (as.map Value.ref)) : ∃ qs : List Addr, l = qs.map Value.ref ∧ qs.Perm as := by
  refine ⟨l.map unR, ?_, ?_⟩
  · rw [List.map_map]
    have e : ∀ v ∈ l, (Value.ref ∘ unR) v = v := fun v hv => by
      obtain ⟨b, _, rfl⟩ := List.mem_map.mp (h.mem_iff.mp hv)
      rfl
    have e2 : l.map (Value.ref ∘ unR) = l.map id := List.map_congr_left fun v hv => e v hv
    rw [e2, List.map_id]
  · have h2 := h.map unR
    rw [List.map_map] at h2
    have e : as.map (unR ∘ Value.ref) = as := by
      have e3 : as.map (unR ∘ Value.ref) = as.map id := List.map_congr_left fun v _ => rfl
      rw [e3, List.map_id]
    rw [e] at h2
    exact h2
section
variable {X : Cx}
theorem call_sortedT (hcalm : X.calm = true) : CallR X (.builtin "sorted") rSortedT := by
  intro pins s σ H xs us Q I r q
  obtain ⟨a, kvs, ks, rfl, hd, hks, q⟩ := q
  obtain ⟨u, rfl, rx⟩ := vals1 r
  cases rx
  obtain ⟨z, lo, vs, rel, o, es, ep, ho, hx, hdat, hes, nd⟩ := (show ObjOk X.prog X.w H s.heap a (.dT kvs) from rd_of I.hok hd)
  obtain ⟨k1, k2⟩ := keys_rel rel hks
  have hlen : es.size = vs.length := by
    rw [← Array.length_toList, hes, List.length_map]
  have hz : kvs.length = vs.length := Paired.length rel
  refine Calls.call_function_entry PyProof.Rows.kind_sorted PyProof.Rows.plain_sorted PyProof.Rows.entry_sorted (PyProof.Rows.args_sorted1 _) ?_
  unfold Builtin.«sorted»
  refine wpAny_bind (m := checkCount "sorted" 1 1 _) (wpAny_pure ?_)
  refine wpAny_bind (PySem.W.kdu_collect (A := X.A.in1) (src_keys lo hx hdat) (I.ok.hd hcalm) ho (by omega) fun h' tk acc hk hacc => ?_)
  have hacc' : acc.toList = (vs.map fun q => q.2.1).map Value.ref := by
    refine List.ext_getElem? fun j => ?_
    rw [List.map_map, List.getElem?_map]
    have e1 : acc.toList[j]? = acc[j]? := Array.getElem?_toList
    rw [e1]
    cases h1 : acc[j]? with
    | none =>
      have h2 : acc.size ≤ j := Array.getElem?_eq_none_iff.mp h1
      rw [hacc.1, hlen] at h2
      rw [List.getElem?_eq_none h2]
      rfl
    | some v =>
      obtain ⟨en, h2, rfl⟩ := hacc.2 j v h1
      have h3 : es.toList[j]? = some en := by rw [Array.getElem?_toList]; exact h2
      rw [hes, List.getElem?_map] at h3
      cases h4 : vs[j]? with
      | none => rw [h4] at h3; cases h3
      | some y =>
        rw [h4] at h3
        cases h3
        rfl
  have I1 : Inv X pins σ H { s with heap := h', toks := tk } := I.kept hk
  generalize vs.map (fun q => q.2.1) = as at k1 k2 hacc'
  have hal : acc.toList.length ≤ sizeLine := by
    rw [Array.length_toList, hacc.1]
    omega
  refine wpAny_bind (wpAny_newList ?_ hal)
  rw [hacc']
  rw [hacc'] at hal
  have hoL : (h'.push (seqObj "list" (as.map Value.ref).toArray 0)).get? h'.objs.size = some (seqObj "list" (as.map Value.ref).toArray 0) := Heap.get?_push_size _ rfl
  show wpAny _ _ _ _ _ { s with heap := h'.push (seqObj "list" (as.map Value.ref).toArray 0), toks := tk }
  have obj : ∀ b ∈ as, ∃ (ob : Obj) (n : Nat) (t1 t2 : Tok), (h'.push (seqObj "list" (as.map Value.ref).toArray 0)).get? b = some ob ∧ ob.cls = .type "tuple" ∧ ob.data = .seq #[.str (prOf H b).1 t1, .str (prOf H b).2 t2] n := by
    intro b hb
    obtain ⟨_, its, r2, ob, h1, h2, n, h3⟩ := (show ObjOk X.prog X.w H h' b (.tup [.str (prOf H b).1, .str (prOf H b).2]) from I1.hok b _ (k2 b hb))
    obtain ⟨u1, u2, rfl, ⟨t1, rfl⟩, ⟨t2, rfl⟩⟩ := vals2 r2
    exact ⟨ob, n, t1, t2, Heap.get?_push_of_some _ h1, h2, h3⟩
  have tups : ∀ l : List Addr, (∀ b ∈ l, b ∈ as) → ∃ fs, PyProof.Rows.TupsOf (h'.push (seqObj "list" (as.map Value.ref).toArray 0)) (fun _ => true) (l.map Value.ref) fs := by
    intro l
    induction l with
    | nil => intro _; exact ⟨[], .nil⟩
    | cons b l ih =>
      intro hl
      obtain ⟨fs, hf⟩ := ih fun x hx => hl x (List.mem_cons_of_mem _ hx)
      obtain ⟨ob, n, t1, t2, h1, h2, h3⟩ := obj b (hl b List.mem_cons_self)
      exact ⟨_, .cons ⟨b, ob, _, n, rfl, h1, h2, h3, rfl, fun z => (by cases z), fun _ => ⟨_, _, rfl⟩⟩ hf⟩
  obtain ⟨fs, hfs⟩ := tups as fun _ h => h
  have keyC : ∀ b ∈ as, PyProof.Rows.G.tupKeyC (h'.push (seqObj "list" (as.map Value.ref).toArray 0)) (fun _ => true) (.ref b) = some (txt2 (prOf H b)) := by
    intro b hb
    obtain ⟨ob, n, t1, t2, h1, h2, h3⟩ := obj b hb
    have hT : PyProof.Rows.G.isTupObj (h'.push (seqObj "list" (as.map Value.ref).toArray 0)) (.ref b) = true := by
      simp [PyProof.Rows.G.isTupObj, h1, h2]
    unfold PyProof.Rows.G.tupKeyC
    rw [if_pos hT]
    simp only [PyProof.Rows.tupKey, h1, h3]
    rfl
  refine wpAny_bind (wpAny_holding (wpAny_call_entry PyProof.Rows.slot_list_sort ⟨_, hoL, rfl⟩ PyProof.Rows.entry_list_sort
    (PyProof.Rows.G.list_sort_tups (s := { s with heap := h'.push (seqObj "list" (as.map Value.ref).toArray 0), toks := tk }) hoL hfs
      (fun v hv => ?_) hal fun st' hp hs _ => ⟨_, rfl, ?_⟩) (PyProof.Rows.args_list_sort _)))
  · obtain ⟨b, hb, rfl⟩ := List.mem_map.mp hv
    exact ⟨_, keyC b hb⟩
  obtain ⟨e', he'⟩ := PyProof.Rows.sortedHeap_at (vs := as.map Value.ref) (out := (arrOf st').map (·.2)) hoL
  have mem : ∀ p ∈ (arrOf st').toList, p.1 = p.2 ∧ p.1 ∈ as.map Value.ref := fun p hp' => by
    have h1 := (hp.toList.mem_iff (a := p)).mp hp'
    rw [PyProof.Rows.pairsOf_toList] at h1
    exact PyProof.Rows.mem_zip_self h1
  obtain ⟨qs, hq1, hq2⟩ : ∃ qs : List Addr, (arrOf st').toList.map (·.2) = qs.map Value.ref ∧ qs.Perm as := by
    have h1 : ((arrOf st').toList.map (·.2)).Perm (as.map Value.ref) := by
      have h2 := hp.toList.map (fun p : Keyed => p.2)
      rw [PyProof.Rows.pairsOf_toList] at h2
      rw [List.map_snd_zip (Nat.le_refl _)] at h2
      exact h2
    exact perm_back h1
  have hql : qs.length = as.length := hq2.length_eq
  have harr : (arrOf st').toList.length = qs.length := by
    have h1 := congrArg List.length hq1
    rw [List.length_map, List.length_map] at h1
    exact h1
  have hkk : ∀ i, i < qs.length → PyProof.Rows.KK (PyProof.Rows.G.tupKindC (h'.push (seqObj "list" (as.map Value.ref).toArray 0)) fun _ => true) (arrOf st') i = txt2 (prOf H (qs.getD i 0)) := by
    intro i hi
    have hi' : i < (arrOf st').toList.length := by omega
    have e1 : (arrOf st')[i]? = some (arrOf st').toList[i] := by
      rw [← Array.getElem?_toList, List.getElem?_eq_getElem hi']
    obtain ⟨m1, m2⟩ := mem _ (List.getElem_mem hi')
    have e2 : (arrOf st').toList[i].2 = .ref (qs.getD i 0) := by
      have h1 := congrArg (fun l => l[i]?) hq1
      simp only [List.getElem?_map, List.getElem?_eq_getElem hi', List.getElem?_eq_getElem hi, Option.map_some, Option.some.injEq] at h1
      rw [h1, List.getD_eq_getElem?_getD, List.getElem?_eq_getElem hi]
      rfl
    have hin : qs.getD i 0 ∈ as := hq2.mem_iff.mp (by rw [List.getD_eq_getElem?_getD, List.getElem?_eq_getElem hi]; exact List.getElem_mem hi)
    unfold PyProof.Rows.KK
    rw [e1]
    show (PyProof.Rows.G.tupKeyC _ _ (arrOf st').toList[i].1).getD _ = _
    rw [m1, e2, keyC _ hin]
    rfl
  have srt : ∀ i j, i ≤ j → j < qs.length → ltSS (prOf H (qs.getD j 0)) (prOf H (qs.getD i 0)) = false := by
    intro i j hij hj
    have h1 := hs i j hij (by rw [PyProof.Rows.pairsOf_size, List.length_map]; omega)
    rw [hkk i (by omega), hkk j hj] at h1
    exact h1
  have vals : ∀ l : List Addr, Vals (l.map V.ref) (l.map Value.ref) := fun l => by
    induction l with
    | nil => exact .nil
    | cons b l ih => exact .cons rfl ih
  have hout : ((arrOf st').map (·.2)).toList = qs.map Value.ref := by
    rw [Array.toList_map]
    exact hq1
  have hz2 : (qs.map V.ref).length ≤ sizeLine := by
    rw [List.length_map, hql]
    rw [List.length_map] at hal
    exact hal
  have fresh := I1.hok.fresh (Nat.le_refl h'.objs.size)
  refine wpAny_pure ⟨.ref h'.objs.size, rfl, .ref h'.objs.size, upd H h'.objs.size (.lst (qs.map V.ref)), ?_, rfl, q as qs _ k1 k2 hq2 srt fresh⟩
  refine I1.laid (t' := tk) (fun b u e => ?_) (Nat.le_refl _) ⟨hz2, qs.map Value.ref, e', vals qs, ?_⟩
  · have hb : b < h'.objs.size := Heap.lt_size e
    rw [PyProof.Rows.sortedHeap_old (Nat.ne_of_lt hb) (by rw [size_push']; exact Nat.lt_succ_of_lt hb)]
    exact Heap.get?_push_of_some _ e
  · rw [← hout, Array.toArray_toList]
    exact he'
end
end Mq

namespace Mq
open PySem PySem.Spec PyProof.Rows L2
/-! ### pairs of texts by <= -/
def leSS (x y : Str × Str) : Bool := if x.1 = y.1 then (if x.2 = y.2 then true else !decide (y.2.cps.toList < x.2.cps.toList)) else !decide (y.1.cps.toList < x.1.cps.toList)
theorem op_leSS {X : Cx} (hu : X.A.units < cLine) : OpR X (compareOp .LtE) (fun x y H Q => ∃ (a b : Addr) (p q : Str × Str), x = .ref a ∧ y = .ref b ∧ SqT X.K H a [.str p.1, .str p.2] ∧ SqT X.K H b [.str q.1, .str q.2] ∧ Q (.bl (leSS p q)) H) := by
  intro pins s σ H x y v u Q I rx ry h
  obtain ⟨a, b, p, q, rfl, rfl, ha, hb, k⟩ := h
  cases rx
  cases ry
  obtain ⟨its, r1, p1, _⟩ := I.tuple ha
  obtain ⟨its2, r2, p2, _⟩ := I.tuple hb
  obtain ⟨u1, u2, rfl, ⟨t1, rfl⟩, ⟨t2, rfl⟩⟩ := vals2 r1
  obtain ⟨v1, v2, rfl, ⟨t3, rfl⟩, ⟨t4, rfl⟩⟩ := vals2 r2
  let e : Nat → Bool := fun j => if j = 0 then p.1 == q.1 else p.2 == q.2
  let r : Nat → Bool := fun j => if j = 0 then !decide (q.1.cps.toList < p.1.cps.toList) else !decide (q.2.cps.toList < p.2.cps.toList)
  have R := Ob.RcOp.tuples_le (A := X.A) (s := s) (e := e) (r := r) p1 p2 hu (fun j h1 h2 => by
    match j, h1, h2 with
    | 0, _, _ => exact SeqAt.EqAt.str_str _ _ _ _
    | 1, _, _ => exact SeqAt.EqAt.str_str _ _ _ _) (fun j h1 h2 _ => by
    match j, h1, h2 with
    | 0, _, _ => exact fun prog w E Q h => PySem.P.le_str h
    | 1, _, _ => exact fun prog w E Q h => PySem.P.le_str h)
  have z : Ob.lexAt e r (decide ((#[Value.str p.1 t1, Value.str p.2 t2] : Array Value).size ≤ (#[Value.str q.1 t3, Value.str q.2 t4] : Array Value).size)) 0 2 = leSS p q := by
    show (if (p.1 == q.1) = true then (if (p.2 == q.2) = true then true else !decide (q.2.cps.toList < p.2.cps.toList)) else !decide (q.1.cps.toList < p.1.cps.toList)) = _
    unfold leSS
    simp only [beq_iff_eq]
  have R2 : Ob.RcOp .LtE X.A s (.ref a) (.ref b) (leSS p q) := by
    rw [← z]
    exact R
  exact R2 X.prog X.w X.xe (EP X pins σ Q) ⟨.bl _, H, I, rfl, k⟩
/-- ahead, so not behind or equal -/
theorem le_of_lt {x y : Str × Str} (h : ltSS y x = true) : leSS x y = false := by
  have h1 : (decide (y.1.cps.toList < x.1.cps.toList) || (!decide (x.1.cps.toList < y.1.cps.toList) && (decide (y.2.cps.toList < x.2.cps.toList) || (!decide (x.2.cps.toList < y.2.cps.toList) && false)))) = true := h
  unfold leSS
  by_cases c1 : y.1.cps.toList < x.1.cps.toList
  · rw [if_neg (fun z => by rw [z] at c1; exact List.lt_irrefl _ c1), decide_eq_true c1]
    rfl
  · rw [decide_eq_false c1] at h1
    simp only [Bool.false_or, Bool.and_false, Bool.or_false, Bool.and_eq_true, Bool.not_eq_true', decide_eq_false_iff_not, decide_eq_true_eq] at h1
    obtain ⟨c2, c3⟩ := h1
    have e : x.1.cps.toList = y.1.cps.toList := List.le_antisymm (List.not_lt.mp c1) (List.not_lt.mp c2)
    have e' : x.1 = y.1 := congrArg Str.mk (Array.ext' e)
    rw [if_pos e', if_neg (fun z => by rw [z] at c3; exact List.lt_irrefl _ c3), decide_eq_true c3]
    rfl
theorem lt_of {x y : Str × Str} (h : ltSS x y = false) (n : x ≠ y) : ltSS y x = true := by
  cases e : ltSS y x with
  | true => rfl
  | false =>
    have h2 : txt2 x = txt2 y := (PyProof.Rows.listOrd PyProof.Rows.itemOrd).total _ _ h e
    injection h2 with h3 h4
    injection h4 with h5 _
    have e1 : x.1.cps.toList = y.1.cps.toList := by injection h3
    have e2 : x.2.cps.toList = y.2.cps.toList := by injection h5
    exact (n (Prod.ext (congrArg Str.mk (Array.ext' e1)) (congrArg Str.mk (Array.ext' e2)))).elim
end Mq

namespace Mq
open PySem PySem.Spec PyProof.Rows L2
open SX (S)
/-! ### a text cut at a sign -/
def spl (c : Nat) (a : List Nat) : List (List Nat) := (Txt.split (S a) (S [c])).map fun x => x.cps.toList
theorem spl_S (c : Nat) (a : List Nat) : Txt.split (S a) (S [c]) = (spl c a).map S := by
  unfold spl
  rw [List.map_map]
  exact (List.map_id _).symm
theorem spl_join (c : Nat) (a : List Nat) : TL.joinL [c] (spl c a) = a := by
  have h := StrLaws.join_split (S a) (S [c])
  rw [spl_S] at h
  have h2 : Txt.join (S [c]) ((spl c a).map S) = S a := (TL.join_eq _ _).trans h
  rw [SX.join_S] at h2
  exact SX.S_inj h2
theorem spl_of {c : Nat} (hc : c < 256) {ps : List (List Nat)} (hn : ps ≠ []) (h : ∀ p ∈ ps, c ∉ p) : spl c (TL.joinL [c] ps) = ps := by
  have h1 := TL.split_join (y := S [c]) (s := c) (S := []) rfl (by simp [S, hc]) (parts := ps.map S) (by simpa using hn) (fun p hp => by
    obtain ⟨q, hq, rfl⟩ := List.mem_map.mp hp
    exact h q hq)
  rw [SX.join_S, spl_S] at h1
  have h2 := congrArg (List.map fun x : Str => x.cps.toList) h1
  rw [List.map_map, List.map_map] at h2
  have e : ∀ xs : List (List Nat), xs.map ((fun x : Str => x.cps.toList) ∘ S) = xs := fun xs => List.map_id _
  rw [e, e] at h2
  exact h2
theorem spl_ne (c : Nat) (a : List Nat) : spl c a ≠ [] := by
  intro h
  have := PyProof.Rows.split_pos (S a) (S [c])
  rw [spl_S, h] at this
  cases this
theorem join_len (c : Nat) : ∀ ps : List (List Nat), ps ≠ [] → (TL.joinL [c] ps).length + 1 = (ps.map fun p => p.length + 1).sum
  | [], h => (h rfl).elim
  | [p], _ => by simp [TL.joinL]
  | p :: q :: r, _ => by
    have ih := join_len c (q :: r) (by simp)
    show (p ++ ([c] ++ TL.joinL [c] (q :: r))).length + 1 = (p.length + 1) + ((q :: r).map fun p => p.length + 1).sum
    rw [← ih]
    simp only [List.length_append, List.length_singleton]
    omega
theorem join_mem (c : Nat) : ∀ {ps : List (List Nat)} {p : List Nat}, p ∈ ps → ∀ d ∈ p, d ∈ TL.joinL [c] ps
  | [q], p, h, d, hd => by
    rw [List.mem_singleton.mp h] at hd
    exact hd
  | q :: q2 :: r, p, h, d, hd => by
    show d ∈ q ++ ([c] ++ TL.joinL [c] (q2 :: r))
    rcases List.mem_cons.mp h with rfl | h
    · exact List.mem_append_left _ hd
    · exact List.mem_append_right _ (List.mem_append_right _ (join_mem c h d hd))
theorem join_in (c : Nat) : ∀ {ps : List (List Nat)} {d : Nat}, d ∈ TL.joinL [c] ps → d = c ∨ ∃ p ∈ ps, d ∈ p
  | [], d, h => by cases h
  | [q], d, h => Or.inr ⟨q, List.mem_cons_self, h⟩
  | q :: q2 :: r, d, h => by
    have h : d ∈ q ++ ([c] ++ TL.joinL [c] (q2 :: r)) := h
    rcases List.mem_append.mp h with h | h
    · exact Or.inr ⟨q, List.mem_cons_self, h⟩
    rcases List.mem_append.mp h with h | h
    · exact Or.inl (List.mem_singleton.mp h)
    · rcases join_in c h with e | ⟨p, hp, e⟩
      · exact Or.inl e
      · exact Or.inr ⟨p, List.mem_cons_of_mem _ hp, e⟩
theorem sum_ge : ∀ {ps : List (List Nat)} {p : List Nat}, p ∈ ps → p.length + 1 ≤ (ps.map fun p => p.length + 1).sum
  | q :: r, p, h => by
    rw [List.map_cons, List.sum_cons]
    rcases List.mem_cons.mp h with rfl | h
    · omega
    · have := sum_ge h
      omega
theorem sum_many : ∀ ps : List (List Nat), ps.length ≤ (ps.map fun p => p.length + 1).sum
  | [] => Nat.zero_le _
  | q :: r => by
    rw [List.map_cons, List.sum_cons, List.length_cons]
    have := sum_many r
    omega
theorem spl_sum (c : Nat) (a : List Nat) : ((spl c a).map fun p => p.length + 1).sum = a.length + 1 := by
  have h := join_len c (spl c a) (spl_ne c a)
  rw [spl_join] at h
  exact h.symm
theorem spl_len {c : Nat} {a p : List Nat} (h : p ∈ spl c a) : p.length ≤ a.length := by
  have h1 := sum_ge h
  rw [spl_sum] at h1
  omega
theorem spl_many (c : Nat) (a : List Nat) : (spl c a).length ≤ a.length + 1 := by
  rw [← spl_sum c a]
  exact sum_many _
theorem spl_mem {c : Nat} {a p : List Nat} (h : p ∈ spl c a) {d : Nat} (hd : d ∈ p) : d ∈ a := by
  have := join_mem c h d hd
  rw [spl_join] at this
  exact this
end Mq


namespace MqE_line
open PySem PySem.Spec PyProof.Rows L2 Mq PySem.W PySem.Calls
/-! ### errors whose one parameter is line -/
def iA (p1 p2 : Pos) : Arguments := { posonlyargs := [], args := [{ arg := "self", annotation := none, pos := p1 }, { arg := "line", annotation := none, pos := p2 }], vararg := none, kwonlyargs := [], kw_defaults := [], kwarg := none, defaults := [] }
def iB (q1 q2 q3 q4 : Pos) : List Stmt := [.Assign [.Attribute (.Name "self" q1) "line" q2] (.Name "line" q3) q4]
def iS : Scope := { kind := .function, names := [(PySem.Str.ofString "self", .local), (PySem.Str.ofString "line", .local)], isGenerator := false, isCoroutine := false, more := [] }
/-- what the written part says of the class x at C, and of its __init__ at fI -/
structure Txt (K : Frag) (mg : Str → Option Value) (x qual : Str) (C fI : Addr) : Prop where
  gC : mg x = some (.ref C)
  kC : keepIn K (.ref C) = true
  ex : excInitIn K C exTail "Exception.__new__" = true
  ov : excOver K C exTail = true
  hdC : hasDictIn K C = true
  tk : takerIn K C "line" = some none
  sa : findIn K (.ref C) "__setattr__" = some (some (.builtin "object.__setattr__"))
  iC : findIn K (.ref C) "__init__" = some (some (.ref fI))
  tC : typeIn K (.ref fI) = some (.type "function")
  exC : subIn K (.ref C) (.type "BaseException") = some true
  tyC : typeIn K (.ref C) = some (.type "type")
  fn : ∃ (oc : Value) (od : Option Addr) (doc pm : Value) (an : Option Addr) (cdv ct : Value) (osl : Array (Option Value)) (p1 p2 q1 q2 q3 q4 : Pos),
    K.lookup fI = some ⟨oc, od, .func (fnOf "__init__" qual (iA p1 p2) (iB q1 q2 q3 q4) iS .none .none doc pm an cdv ct), osl⟩ ∧ codeIn K cdv qual = true
theorem ld_loc {M : Model} {s : Shared} {name : Str} {scope : Scope} {L a : Addr} {cd : Value} {m : Str → Option Value} {y : Str} {pos : Pos} {v : Value}
    {Q : Value → Shared → Prop} {A : Around} {E : Value → Shared → Prop} (hn : s.heap.Ns L m) (hv : m y = some v) (h : Q v s)
    (hk : scope.kind = .function := by rfl) (hl : (envOfC name scope L a cd).kindOf y = some .local := by rfl) (hd : (y == ("__debug__" : Str)) = false := by decide) :
    wpAny M A (eval (.Name y pos) (envOfC name scope L a cd)) Q E s := wpAny_Name (wpAny_loadName_local hk hl hn hv h) hd
/-- what __init__ leaves of a new error at e -/
structure Filled (h h' : Heap) (e C dx t1 : Addr) (v : Value) : Prop where
  keep : ∀ b o, b ≠ e → h.get? b = some o → h'.get? b = some o
  obj : h'.get? e = some (excObj C t1 (some dx) .none)
  big : h.objs.size ≤ dx
  ne : dx ≠ e
  ns : h'.Ns1 dx (fun y => if y = "line" then some v else none)
/-- a made error -/
structure Made (h h' : Heap) (e C d : Addr) (v : Value) : Prop where
  keep : ∀ b o, h.get? b = some o → h'.get? b = some o
  new : h.objs.size ≤ e
  obj : ∃ oe vs, h'.get? e = some oe ∧ oe.cls = .ref C ∧ oe.dict = some d ∧ oe.data = .fields vs ∧ vs[1]? = some .none
  big : h.objs.size ≤ d
  ne : d ≠ e
  ns : h'.Ns1 d (fun y => if y = "line" then some v else none)
section
variable {prog : Program} {w : World} {A : Around} {E : Value → Shared → Prop} {R : Result → Shared → Prop} {s : Shared} {K : Frag} {mg : Str → Option Value} {x qual : Str} {C fI : Addr}
theorem init_run (T : Txt K mg x qual C fI) {e t0 : Addr} {v : Value} (X : K.In s.heap) (lim : s.heap.NoLimit) (he : s.heap.get? e = some (excObj C t0 none .none)) (room : A.depth < recursionLimit)
    (hq : ∀ h' tk dx, Filled s.heap h' e C dx t0 v → R (.ok (.ret .none)) { s with heap := h', toks := tk }) :
    codeAny (model prog w) A (.call (.ref fI) ⟨[.ref e, v], []⟩) R s := by
  obtain ⟨oc, od, doc, pm, an, cdv, ct, osl, p1, p2, q1, q2, q3, q4, ho, hcd⟩ := T.fn
  refine Att.call_fn (binds := [("self", .ref e), ("line", v)]) X lim ho hcd room (BindsTo.of_eq (by first | rfl | with_unfolding_all rfl)) (by first | rfl | decide | with_unfolding_all rfl) (fun s₁ IC => ?_) rfl rfl rfl
  obtain ⟨h₁, tk₁, rfl⟩ := IC.toInCall.same
  have k : ∀ b o, s.heap.get? b = some o → h₁.get? b = some o := IC.toInCall.keep
  have hn := IC.toInCall.ns
  have X₁ : K.In h₁ := X.keeps k
  have he₁ := k _ _ he
  show wpAny _ _ (execs _ _) _ _ _
  refine wpAny_execs_cons (plainObj_wpAny_Assign_Attribute ?_)
  refine ld_loc (v := v) hn (by first | rfl | with_unfolding_all rfl | kernel_rfl) (ld_loc (v := .ref e) hn (by first | rfl | with_unfolding_all rfl | kernel_rfl) ?_)
  refine set_plain X₁ (ox := excObj C t0 none .none) (od := none) ⟨he₁, rfl, rfl, trivial⟩ T.sa ?_
  refine osa_first X₁ he₁ T.ov T.hdC T.tk (fun h₃ tk₃ dx k₃ dn dne he₃ hn₃ => ?_)
  show wpAny _ _ (execs _ _) _ _ _
  have z : s.heap.objs.size < h₁.objs.size := hn.lt
  exact wpAny_execs_nil (hq h₃ tk₃ dx ⟨fun b o hb e => k₃ b o hb (k b o e), he₃, Nat.le_of_lt (Nat.lt_of_lt_of_le z dn), dne, hn₃⟩)
theorem made_run (T : Txt K mg x qual C fI) {v : Value} (X : K.In s.heap) (lim : s.heap.NoLimit) (room : A.depth + 1 < recursionLimit)
    (hq : ∀ h' tk e d, Made s.heap h' e C d v → R (.ok (.ret (.ref e))) { s with heap := h', toks := tk }) :
    codeAny (model prog w) A (.call (.ref C) ⟨[v], []⟩) R s := by
  obtain ⟨nm, N, qn, bs, bm, hdct, sn, sub, ab, col, dd, k0, k1, k2, k3, k5, hC, hT⟩ := excInit_of X T.ex
  obtain ⟨hp, g, dr, tk, os⟩ := s
  have k : ∀ b o, hp.get? b = some o → ((hp.push (kdv_tup [v])).push (HandSPX.excO C hp.objs.size)).get? b = some o := fun b o e => Heap.get?_push_of_some _ (Heap.get?_push_of_some _ e)
  have hget : ((hp.push (kdv_tup [v])).push (HandSPX.excO C hp.objs.size)).get? (hp.objs.size + 1) = some (excObj C hp.objs.size none .none) := by heap_get
  refine HandSPX.call_own F.excBase_Exception hT hC (looks_findIn X T.iC) (fun self => bind_fn X self T.tC) (by rw [sizeLine_eq]; exact (by decide : 1 ≤ 16777216)) ?_
  refine init_run (s := ⟨(hp.push (kdv_tup [v])).push (HandSPX.excO C hp.objs.size), g, dr, tk, os⟩) T (X.keeps k) (lim.keeps k) hget ?_ (fun h' tk' dx M => ?_)
  · show A.depth + 1 < recursionLimit
    exact room
  · obtain ⟨k', hx, dn, dne, hns⟩ := M
    have old : ∀ b o, hp.get? b = some o → h'.get? b = some o := fun b o e => k' b o (Nat.ne_of_lt (Nat.lt_succ_of_lt (Heap.lt_size e))) (k b o e)
    have z : hp.objs.size + 1 + 1 ≤ dx := by
      have q := dn
      rw [Heap.size_push, Heap.size_push] at q
      exact q
    exact ⟨rfl, hq h' tk' (hp.objs.size + 1) dx ⟨old, Nat.le_succ _, ⟨_, _, hx, rfl, rfl, rfl, rfl⟩, Nat.le_trans (Nat.le_trans (Nat.le_succ _) (Nat.le_succ _)) z, dne, hns⟩⟩
end
theorem relO_f {v : V} {v' : Value} (r : RelV v v') (f : Str) : RelO (List.lookup f [(("line" : Str), v)]) (if f = "line" then some v' else none) := by
  by_cases hw : f = "line"
  · subst hw
    rw [if_pos rfl]
    have q : List.lookup ("line" : Str) [(("line" : Str), v)] = some v := by simp [List.lookup]
    rw [q]
    exact r
  · rw [if_neg hw]
    have qw : (f == ("line" : Str)) = false := by simpa using hw
    have q2 : List.lookup f [(("line" : Str), v)] = none := by simp [List.lookup, qw]
    rw [q2]
    trivial
section
variable {X : Cx} {C fI : Addr} {x qual : Str}
/-- x(e) -/
def tMk (C : Addr) (ta : TA) : L2.St → Hp → XK → Prop := fun σ H Q => ta σ H fun vs H1 => ∃ v, vs = [v] ∧ ∀ d, H1 d = none → Q (.ref C) (some d) (upd H1 d (.xd [(("line" : Str), v)]))
theorem pmk {a : Expr} {ta : TA} {p pos : Pos} {k : Nat} (T : Txt X.K X.mg x qual C fI) (hr : Room k X.A) (ha : PA X [a] ta) (hg : Gl X x := by rfl) (hdb : (x == ("__debug__" : Str)) = false := by decide)
    (he : starEach (a :: []) X.env = (false, eval a X.env) :: starEach [] X.env := by rfl) (hpl : (backTo pos (starEach [] X.env)).any (·.1) = false := by rfl) :
    PMk X (.Call (.Name x p) [a] [] pos) (tMk C ta) := by
  intro pins s σ H Q I h
  refine wpAny_Call_Name_kw (ld_glob I hg T.gC ?_ hdb)
  refine callWith_K (h₀ := X.base) I.ok.mod.kin T.kC (thn (ha.run pos pins s σ H _ I h) fun us s1 hh => ?_) he hpl
  obtain ⟨vs, H1, I1, r1, v, ev, q1⟩ := hh
  subst ev
  refine ⟨I1.kIn, ?_⟩
  cases r1 with
  | cons rv rn =>
    rename_i v' us'
    cases rn
    show wpAny _ _ (call (.ref C) [v']) _ _ _
    have hlim := I1.nolimit
    obtain ⟨hp, g, dr, tk, os⟩ := s1
    refine wpAny_call (made_run T I1.kIn hlim (by have := hr.dp; omega) (fun h' tk' e d M => ?_))
    show MkP X pins σ Q (.ref e) ⟨h', g, dr, tk', os⟩
    obtain ⟨oe, fv, hoe, hc, hd, hdat, h1⟩ := M.obj
    have hns := M.ns
    obtain ⟨G', g1, g2⟩ := restrict h' fun b => decide (b ≠ e)
    have gk : ∀ b, b ≠ e → G'.get? b = h'.get? b := fun b hb => g1 b (decide_eq_true hb)
    have ge : G'.get? e = none := g2 e (by simp)
    have old : ∀ b o, hp.get? b = some o → G'.get? b = some o := fun b o q => (gk b (Nat.ne_of_lt (Nat.lt_of_lt_of_le (Heap.lt_size q) M.new))).trans (M.keep b o q)
    have ob : ObjOk X.prog X.w (upd H1 d (.xd [(("line" : Str), v)])) G' d (.xd [(("line" : Str), v)]) :=
      ⟨_, hns.at (fun o q => (gk d M.ne).trans q), fun f => relO_f rv f⟩
    have J : L2.Inv X pins σ (upd H1 d (.xd [(("line" : Str), v)])) ⟨G', g, dr, tk', os⟩ := I1.laid (t' := tk') old M.big ob
    refine ⟨e, oe, fv, ⟨G', g, dr, tk', os⟩, _, .ref C, some d, rfl, J, (fun b o q => ?_), ge, hoe, ⟨hc, hd⟩, hdat, h1, ?_, rfl, I1.bare, raises_own T.exC T.tyC, q1 d (I1.hok.fresh M.big)⟩
    · by_cases hb : b = e
      · have q' : G'.get? b = some o := q
        rw [hb, ge] at q'
        cases q'
      · exact (gk b hb).symm.trans q
    · rw [upd_ne (Ne.symm M.ne)]
      exact I1.hok.fresh M.new
/-- raise x(e) -/
def tRaise (C : Addr) (W : WX) (ta : TA) : TS := fun _ σ H => tMk C ta σ H fun cls d H' => W cls d σ H'
theorem ps_raise {a : Expr} {ta : TA} {W : WX} {p pos pos2 : Pos} {k : Nat} (hc : X.calm = true) (T : Txt X.K X.mg x qual C fI) (hr : Room k X.A) (tk : Takes X W) (ha : PA X [a] ta) (hg : Gl X x := by rfl) (hdb : (x == ("__debug__" : Str)) = false := by decide)
    (he : starEach (a :: []) X.env = (false, eval a X.env) :: starEach [] X.env := by rfl) (hpl : (backTo pos (starEach [] X.env)).any (·.1) = false := by rfl) :
    PS X (.Raise (some (.Call (.Name x p) [a] [] pos)) none pos2) (tRaise C W ta) := L2.ps_raise hc tk (pmk T hr ha hg hdb he hpl)
end
end MqE_line

namespace Mq
open PySem PySem.Spec PyProof.Rows L2
/-- repr of a list or tuple without dicts in it, wherever it stands -/
def rRepP (K : PySem.W.Frag) : List V → Hp → VK → Prop := fun xs H Q => ∃ (a : Addr) (d : PyData), xs = [.ref a] ∧ Dp K H (.ref a) d ∧ d.showable = true ∧ d.hasDict = false ∧
  d.depth ≤ 40 ∧ d.shown.length ≤ sizeLine ∧ Q (.str d.shown) H
theorem call_repP {X : Cx} {k : Nat} (hr : Room k X.A) (gA : Still X.A) : CallR X (.builtin "repr") (rRepP X.K) := by
  intro pins s σ H xs us Q I r h
  obtain ⟨a, d, rfl, hd, hs, hz, hde, hl, q⟩ := h
  obtain ⟨u, rfl, rx⟩ := vals1 r
  have hu := hr.units
  obtain ⟨as, rd⟩ := Dp.reads I d _ _ hd rx
  cases rx
  exact repr_of_reads' rd hs (fun z => by rw [hz] at z; cases z) gA (by omega) (fun _ _ e => e) (fun h' u tk k => ⟨.str _, H, I.kept k, ⟨_, rfl⟩, q⟩) hl
/-- what a rule asks, told otherwise -/
theorem PE_imp {X : Cx} {e : Expr} {t t' : TE} (h : PE X e t) (i : ∀ σ H Q, t' σ H Q → t σ H Q) : PE X e t' := ⟨fun pins s σ H Q I q => h.run pins s σ H Q I (i σ H Q q)⟩
end Mq

namespace Mq
open PySem PySem.Spec PyProof.Rows L2
/-! ### (number, text) < (number, text) -/
def ltIS (x y : Int × Str) : Bool := if x.1 = y.1 then (if x.2 = y.2 then false else decide (x.2.cps.toList < y.2.cps.toList)) else decide (x.1 < y.1)
theorem op_ltIS {X : Cx} (hu : X.A.units < cLine) : OpR X (compareOp .Lt) (fun x y H Q => ∃ (a b : Addr) (p q : Int × Str), x = .ref a ∧ y = .ref b ∧ SqT X.K H a [.int p.1, .str p.2] ∧ SqT X.K H b [.int q.1, .str q.2] ∧ Q (.bl (ltIS p q)) H) := by
  intro pins s σ H x y v u Q I rx ry h
  obtain ⟨a, b, p, q, rfl, rfl, ha, hb, k⟩ := h
  cases rx
  cases ry
  obtain ⟨its, r1, p1, _⟩ := I.tuple ha
  obtain ⟨its2, r2, p2, _⟩ := I.tuple hb
  obtain ⟨u1, u2, rfl, ⟨t1, rfl⟩, ⟨t2, rfl⟩⟩ := vals2 r1
  obtain ⟨v1, v2, rfl, ⟨t3, rfl⟩, ⟨t4, rfl⟩⟩ := vals2 r2
  let e : Nat → Bool := fun j => if j = 0 then p.1 == q.1 else p.2 == q.2
  let r : Nat → Bool := fun j => if j = 0 then decide (p.1 < q.1) else decide (p.2.cps.toList < q.2.cps.toList)
  have R := Ob.RcOp.tuples_lt (A := X.A) (s := s) (e := e) (r := r) p1 p2 hu (fun j h1 h2 => by
    match j, h1, h2 with
    | 0, _, _ => exact SeqAt.EqAt.int_int _ _ _ _
    | 1, _, _ => exact SeqAt.EqAt.str_str _ _ _ _) (fun j h1 h2 _ => by
    match j, h1, h2 with
    | 0, _, _ => exact Ob.RcOp.lt_int _ _ _ _
    | 1, _, _ => exact fun prog w E Q h => PySem.P.lt_str h)
  have z : Ob.lexAt e r (decide ((#[Value.int p.1 t1, Value.str p.2 t2] : Array Value).size < (#[Value.int q.1 t3, Value.str q.2 t4] : Array Value).size)) 0 2 = ltIS p q := by
    show (if (p.1 == q.1) = true then (if (p.2 == q.2) = true then false else decide (p.2.cps.toList < q.2.cps.toList)) else decide (p.1 < q.1)) = _
    unfold ltIS
    simp only [beq_iff_eq]
  have R2 : Ob.RcOp .Lt X.A s (.ref a) (.ref b) (ltIS p q) := by
    rw [← z]
    exact R
  exact R2 X.prog X.w X.xe (EP X pins σ Q) ⟨.bl _, H, I, rfl, k⟩
end Mq

namespace Mq
open PySem PySem.Spec PyProof.Rows L2
/-! ### pairs of texts by <; the order's own laws -/
theorem le_not (x y : Str × Str) : leSS x y = !ltSS y x := by
  cases h : ltSS y x with
  | true => exact le_of_lt h
  | false =>
    unfold leSS
    have h1 : (decide (y.1.cps.toList < x.1.cps.toList) || (!decide (x.1.cps.toList < y.1.cps.toList) && (decide (y.2.cps.toList < x.2.cps.toList) || (!decide (x.2.cps.toList < y.2.cps.toList) && false)))) = false := h
    simp only [Bool.and_false, Bool.or_false, Bool.or_eq_false_iff, decide_eq_false_iff_not, Bool.and_eq_false_iff, Bool.not_eq_false', decide_eq_true_eq] at h1
    obtain ⟨c1, c2⟩ := h1
    by_cases e : x.1 = y.1
    · rw [if_pos e]
      by_cases e2 : x.2 = y.2
      · rw [if_pos e2]
        rfl
      · rw [if_neg e2]
        rcases c2 with c2 | c2
        · rw [e] at c2
          exact (List.lt_irrefl _ c2).elim
        · rw [decide_eq_false c2]
    · rw [if_neg e, decide_eq_false c1]
theorem lt_trans {x y z : Str × Str} (h : ltSS x y = true) (k : ltSS y z = true) : ltSS x z = true := (PyProof.Rows.listOrd PyProof.Rows.itemOrd).trans _ _ _ h k
theorem lt_irr (x : Str × Str) : ltSS x x = false := (PyProof.Rows.listOrd PyProof.Rows.itemOrd).irrefl _
theorem op_ltSS {X : Cx} (hu : X.A.units < cLine) : OpR X (compareOp .Lt) (fun x y H Q => ∃ (a b : Addr) (p q : Str × Str), x = .ref a ∧ y = .ref b ∧ SqT X.K H a [.str p.1, .str p.2] ∧ SqT X.K H b [.str q.1, .str q.2] ∧ Q (.bl (ltSS p q)) H) := by
  intro pins s σ H x y v u Q I rx ry h
  obtain ⟨a, b, p, q, rfl, rfl, ha, hb, k⟩ := h
  cases rx
  cases ry
  obtain ⟨its, r1, p1, _⟩ := I.tuple ha
  obtain ⟨its2, r2, p2, _⟩ := I.tuple hb
  obtain ⟨u1, u2, rfl, ⟨t1, rfl⟩, ⟨t2, rfl⟩⟩ := vals2 r1
  obtain ⟨v1, v2, rfl, ⟨t3, rfl⟩, ⟨t4, rfl⟩⟩ := vals2 r2
  let e : Nat → Bool := fun j => if j = 0 then p.1 == q.1 else p.2 == q.2
  let r : Nat → Bool := fun j => if j = 0 then decide (p.1.cps.toList < q.1.cps.toList) else decide (p.2.cps.toList < q.2.cps.toList)
  have R := Ob.RcOp.tuples_lt (A := X.A) (s := s) (e := e) (r := r) p1 p2 hu (fun j h1 h2 => by
    match j, h1, h2 with
    | 0, _, _ => exact SeqAt.EqAt.str_str _ _ _ _
    | 1, _, _ => exact SeqAt.EqAt.str_str _ _ _ _) (fun j h1 h2 _ => by
    match j, h1, h2 with
    | 0, _, _ => exact fun prog w E Q h => PySem.P.lt_str h
    | 1, _, _ => exact fun prog w E Q h => PySem.P.lt_str h)
  have z : Ob.lexAt e r (decide ((#[Value.str p.1 t1, Value.str p.2 t2] : Array Value).size < (#[Value.str q.1 t3, Value.str q.2 t4] : Array Value).size)) 0 2 = ltSS p q := by
    show (if (p.1 == q.1) = true then (if (p.2 == q.2) = true then false else decide (p.2.cps.toList < q.2.cps.toList)) else decide (p.1.cps.toList < q.1.cps.toList)) = (decide (p.1.cps.toList < q.1.cps.toList) || (!decide (q.1.cps.toList < p.1.cps.toList) && (decide (p.2.cps.toList < q.2.cps.toList) || (!decide (q.2.cps.toList < p.2.cps.toList) && false))))
    simp only [beq_iff_eq, Bool.and_false, Bool.or_false]
    by_cases e1 : p.1 = q.1
    · rw [if_pos e1, e1, decide_eq_false (List.lt_irrefl _)]
      by_cases e2 : p.2 = q.2
      · rw [if_pos e2, e2, decide_eq_false (List.lt_irrefl _)]
        rfl
      · rw [if_neg e2]
        rfl
    · rw [if_neg e1]
      by_cases c : p.1.cps.toList < q.1.cps.toList
      · rw [decide_eq_true c]
        rfl
      · have c2 : q.1.cps.toList < p.1.cps.toList := by
          by_cases c2 : q.1.cps.toList < p.1.cps.toList
          · exact c2
          · exact (e1 (congrArg Str.mk (Array.ext' (List.le_antisymm (List.not_lt.mp c2) (List.not_lt.mp c))))).elim
        rw [decide_eq_false c, decide_eq_true c2]
        rfl
  have R2 : Ob.RcOp .Lt X.A s (.ref a) (.ref b) (ltSS p q) := by
    rw [← z]
    exact R
  exact R2 X.prog X.w X.xe (EP X pins σ Q) ⟨.bl _, H, I, rfl, k⟩
end Mq

namespace Mq
open PySem PySem.Spec PyProof.Rows L2
/-! ### f(k = v, ..), all by keyword -/
theorem vals_rev : ∀ {vs : List V} {us : List Value}, Vals vs us → Vals vs.reverse us.reverse
  | _, _, .nil => .nil
  | _, _, .cons r h => by
    rw [List.reverse_cons, List.reverse_cons]
    exact (vals_rev h).append (.cons r .nil)
def rev0 {α : Type} (_ ws : List α) : List α := ws.reverse
section
variable {X : Cx} {CX : CXT} {k : Nat} {f : Addr} {fd : FuncData} {ps ks : List Str} {sp : Sp}
  {E : L2.St → XK} {x : Str} {p pos : Pos} {kws : List Keyword} {tk : TA}
  {g : List Value → List Value → List Value} {gV : List V → List V → List V}
def tCallK0 (m : Nat) (sp : Sp) (gV : List V → List V → List V) (E : L2.St → XK) (tk : TA) : TE := fun σ H Q => tk σ H fun zs H2 => zs.length = m ∧ sp (gV [] zs) H2 Q (E σ)
theorem pe_callK0 (F : FnOk X.prog X.w X.K X.mg X.base CX k f fd ps sp) (hr : Room k X.A) (hg : Gl X x) (hm : X.mg x = some (.ref f)) (hk : PySem.W.keepIn X.K (.ref f) = true) (hb : KBn X.K fd ps 0 ks g gV)
    (hx : ∀ σ, PassesAt CX X σ (E σ)) (hkw : PK X kws tk)
    (hall : (backToKw pos (keywordEach kws X.env)).all (·.1.isSome) = true := by rfl)
    (hks : (backToKw pos (keywordEach kws X.env)).filterMap (·.1) = ks := by rfl)
    (hdb : (x == ("__debug__" : Str)) = false := by decide)
    (hpl : ((backTo pos (starEach [] X.env)).any (·.1) || (backToKw pos (keywordEach kws X.env)).any (·.1.isNone)) = false := by rfl) :
    PE X (.Call (.Name x p) [] kws pos) (tCallK0 ks.length sp gV E tk) := by
  refine ⟨fun pins s σ H Q I h => ?_⟩
  refine wpAny_Call_Name_kw (ld_glob I hg hm ?_ hdb)
  refine PySem.W.callWith_KW0 (h₀ := X.base) I.ok.mod.kin hk hall ?_ hpl
  refine thn (hkw.run pos pins s σ H _ I h) fun ws s2 ⟨zs, H2, I2, rz, hl, q2⟩ => ⟨I2.kIn, ?_⟩
  rw [hks]
  have r2 := hb.rel (vs := []) (us := []) .nil rz
  have lw : ws.length = ks.length := rz.length.symm.trans hl
  refine wpAny_call (codeAny_mono (F.run X.A X.stack s2 H2 ⟨[], ks.zip ws⟩ (g [] ws) (gV [] zs) Q (E σ) hr I2.env0
    (hb.to s2 [] ws I2.kIn rfl lw) r2 q2) (fun r s' hq => ?_))
  match r, hq with
  | .error er, hq => exact hx σ pins H2 s2 er s' I2 hq
  | .ok (.ret u), hq => exact I2.after hq
  | .ok .next, hq => exact hq.elim
  | .ok .brk, hq => exact hq.elim
  | .ok .cont, hq => exact hq.elim
end
theorem kbn_rev2 {K : PySem.W.Frag} {x qual : Str} {st : Stmt} {f : Addr} {fd : FuncData} {p1 p2 : Str} (F : Fun K x qual st f fd)
    (h : ∀ (kV doc pm : Value) (an : Option Addr) (cdv ct : Value) (a b : Value), bindArgs (PySem.W.fnOf x qual (defArgs st) (defBody st) (defScope st) .none kV doc pm an cdv ct) ⟨[], [(p2, a), (p1, b)]⟩ = pure [(p1, b), (p2, a)]) :
    KBn K fd [p1, p2] 0 [p2, p1] rev0 rev0 := by
  obtain ⟨oc, od, kV, doc, pm, an, cdv, ct, osl, rfl, lk, hcd⟩ := F.ex
  refine ⟨fun s us ws _ h1 h2 => ?_, fun a b => vals_rev b⟩
  match us, ws, h1, h2 with
  | [], [a, b], _, _ => exact .of_eq (h kV doc pm an cdv ct a b)
theorem kbn_rev3 {K : PySem.W.Frag} {x qual : Str} {st : Stmt} {f : Addr} {fd : FuncData} {p1 p2 p3 : Str} (F : Fun K x qual st f fd)
    (h : ∀ (kV doc pm : Value) (an : Option Addr) (cdv ct : Value) (a b c : Value), bindArgs (PySem.W.fnOf x qual (defArgs st) (defBody st) (defScope st) .none kV doc pm an cdv ct) ⟨[], [(p3, a), (p2, b), (p1, c)]⟩ = pure [(p1, c), (p2, b), (p3, a)]) :
    KBn K fd [p1, p2, p3] 0 [p3, p2, p1] rev0 rev0 := by
  obtain ⟨oc, od, kV, doc, pm, an, cdv, ct, osl, rfl, lk, hcd⟩ := F.ex
  refine ⟨fun s us ws _ h1 h2 => ?_, fun a b => vals_rev b⟩
  match us, ws, h1, h2 with
  | [], [a, b, c], _, _ => exact .of_eq (h kV doc pm an cdv ct a b c)
end Mq

namespace Mq
open PySem PySem.Spec PyProof.Rows L2 ClX
/-! ### classmethods where what is raised is wished for at the slots as they stand; a class that stands in a slot -/
section
variable {X : Cx} {CX : CXT} {k n : Nat} {f g C p0 : Addr} {mc : Value} {fd : FuncData} {ps ks : List Str} {sp : Sp} {E : XK} {ES : L2.St → XK}
  {gg : List Value → List Value → List Value} {gV : List V → List V → List V} {pins : List (Addr × Obj)} {σ : L2.St} {H : Hp} {s : Shared} {Q : VK} {us ws : List Value} {vs zs : List V}
  {x m : Str} {p pos apos : Pos} {kws : List Keyword} {tk t ta tf : TA} {o e : Expr} {es : List Expr} {tc : TE} {pl : Sem Bool}
/-- x(e, ..), x a slot that holds the class C -/
def tMakeV (C : Addr) (sp : Sp) (E : XK) (tc : TE) (t : TA) : TE := fun σ H Q => tc σ H fun c H1 => c = .ref C ∧ t σ H1 fun vs H2 => ∀ x dx, H2 x = none → H2 dx = none → dx ≠ x → sp (.ref x :: vs) (upd (upd H2 dx (.own x)) x (.ins C dx [])) (fun v H3 => v = .non ∧ Q (.ref x) H3) E
theorem pe_makeV (M : Mk X.K C f) (F : FnOk X.prog X.w X.K X.mg X.base CX k f fd ps sp) (hr : Room (k + 1) X.A) (hc : PE X (.Name x p) tc) (hb : Binds X.K fd ps []) (hx : Passes CX X E)
    (ha : PA X (e :: es) t) (he : starEach (e :: es) X.env = (false, eval e X.env) :: starEach es X.env := by rfl) (hpl : (backTo pos (starEach es X.env)).any (·.1) = false := by rfl) :
    PE X (.Call (.Name x p) (e :: es) [] pos) (tMakeV C sp E tc t) := by
  refine ⟨fun pins s σ H Q I h => ?_⟩
  refine wpAny_Call_Name_kw (thn (hc.run pins s σ H _ I h) fun u s1 ⟨c, H1, I1, rc, ec, q1⟩ => ?_)
  subst ec
  obtain rfl : u = Value.ref C := rc
  refine PySem.W.callWith_K (h₀ := X.base) I.ok.mod.kin M.kp (thn (ha.run pos pins s1 σ H1 _ I1 q1) fun us s2 ⟨vs, H2, I2, r, q⟩ => ⟨I2.kIn, ?_⟩) he hpl
  refine run_make (dvs := []) M F hr hb .nil hx I2 r fun y dy h1 h2 h3 => ?_
  rw [List.append_nil]
  exact q y dy h1 h2 h3
theorem run_cmS {q : Addr} (F : FnOk X.prog X.w X.K X.mg X.base CX k g fd ps sp) (hr : Room k X.A) (hb : KBn X.K fd ps (n + 1) ks gg gV) (hx : PassesAt CX X σ E)
    (I : Inv X ((q, PySem.W.methodObj (.ref g) (.ref C)) :: pins) σ H s) (ru : Vals vs us) (rz : Vals zs ws) (hn : vs.length = n) (hm : zs.length = ks.length) (h : sp (gV (.ref C :: vs) zs) H Q E) :
    wpAny (model X.prog X.w) X.A (call (.ref q) us (ks.zip ws)) (EP X pins σ Q) X.xe s := by
  have z : wpAny (model X.prog X.w) X.A (call (.ref q) us (ks.zip ws)) (EP X ((q, PySem.W.methodObj (.ref g) (.ref C)) :: pins) σ Q) X.xe s := by
    refine wpAny_call (PySem.W.method_call (pin_at I) ?_)
    refine codeAny_mono (F.run X.A X.stack s H ⟨.ref C :: us, ks.zip ws⟩ (gg (.ref C :: us) ws) (gV (.ref C :: vs) zs) Q E hr I.env0
      (hb.to s (.ref C :: us) ws I.kIn (by rw [List.length_cons, ← ru.length, hn]) (rz.length.symm.trans hm)) (hb.rel (.cons rfl ru) rz) h) (fun r s' hq => ?_)
    match r, hq with
    | .error er, hq => exact hx _ H s er s' I hq
    | .ok (.ret u), hq => exact I.after hq
    | .ok .next, hq => exact hq.elim
    | .ok .brk, hq => exact hq.elim
    | .ok .cont, hq => exact hq.elim
  exact thn z fun _ _ y => unpinE y
def tCMethS (C : Addr) (m : Nat) (sp : Sp) (ES : L2.St → XK) (tc : TE) (t : TA) : TE := fun σ H Q => tc σ H fun x H1 => x = .ref C ∧ t σ H1 fun vs H2 => vs.length = m ∧ sp (.ref C :: vs) H2 Q (ES σ)
theorem pe_cmethS {n : Nat} (he : PE X o tc) (r : CRead X.K C mc) (c : CMet X.K C mc m p0 g) (F : FnOk X.prog X.w X.K X.mg X.base CX k g fd ps sp) (hr : Room k X.A) (hb : Binds X.K fd ps []) (hps : ps.length = n + 1) (hx : ∀ σ, PassesAt CX X σ (ES σ)) (ha : PA X (e :: es) t)
    (hst : starEach (e :: es) X.env = (false, eval e X.env) :: starEach es X.env := by rfl) (hpl : (backTo pos (starEach es X.env)).any (·.1) = false := by rfl)
    (ht : eval (.Call (.Attribute o m apos) (e :: es) [] pos) X.env = (do
      let ov ← eval o X.env
      standAt apos.atName
      let (f, first) ← holding [ov] (getMethod ov m pl)
      callWith pos f first (backTo pos (starEach (e :: es) X.env)) (backToKw pos (keywordEach [] X.env))) := by rfl) :
    PE X (.Call (.Attribute o m apos) (e :: es) [] pos) (tCMethS C n sp ES tc t) := by
  refine ⟨fun pins s σ H Q I h => ?_⟩
  refine PySem.W.methodCall_KW (pl := pl) (thn (he.run pins s σ H _ I h) fun u s1 ⟨x, H1, I1, rx, ex, q⟩ => ?_) ht
  subst ex
  obtain rfl : u = Value.ref C := rx
  refine getmethcm_ok I1 r c fun s2 I2 => ?_
  refine callwith_cm I2 (base_none I1 (Nat.le_refl _)) c.fi (thn (ha.run pos _ s2 σ H1 _ I2 q) fun us s3 ⟨vs, H2, I3, rv, hl, q2⟩ => ⟨⟨pin_at I3, I3.kIn⟩, ?_⟩) hst hpl
  have kb : KBn X.K fd ps (n + 1) [] (fun us _ => us) (fun vs _ => vs) := by
    refine ⟨fun s us ws kin h1 h2 => ?_, fun a _ => a⟩
    have b := hb s us kin (by rw [List.append_nil, hps, h1])
    rw [List.append_nil] at b
    exact b
  exact run_cmS (n := n) (zs := []) (ws := []) (ks := []) F hr kb (hx σ) I3 rv .nil hl rfl q2
def tCMethK (C : Addr) (m : Nat) (sp : Sp) (gV : List V → List V → List V) (ES : L2.St → XK) (tc : TE) (t : TA) : TE := fun σ H Q => tc σ H fun x H1 => x = .ref C ∧ t σ H1 fun zs H2 => zs.length = m ∧ sp (gV [.ref C] zs) H2 Q (ES σ)
theorem pe_cmethK (he : PE X o tc) (r : CRead X.K C mc) (c : CMet X.K C mc m p0 g) (F : FnOk X.prog X.w X.K X.mg X.base CX k g fd ps sp) (hr : Room k X.A) (hb : KBn X.K fd ps 1 ks gg gV) (hx : ∀ σ, PassesAt CX X σ (ES σ)) (hkw : PK X kws t)
    (hall : (backToKw pos (keywordEach kws X.env)).all (·.1.isSome) = true := by rfl)
    (hks : (backToKw pos (keywordEach kws X.env)).filterMap (·.1) = ks := by rfl)
    (hpl : ((backTo pos (starEach [] X.env)).any (·.1) || (backToKw pos (keywordEach kws X.env)).any (·.1.isNone)) = false := by rfl)
    (ht : eval (.Call (.Attribute o m apos) [] kws pos) X.env = (do
      let ov ← eval o X.env
      standAt apos.atName
      let (f, first) ← holding [ov] (getMethod ov m pl)
      callWith pos f first (backTo pos (starEach [] X.env)) (backToKw pos (keywordEach kws X.env))) := by rfl) :
    PE X (.Call (.Attribute o m apos) [] kws pos) (tCMethK C ks.length sp gV ES tc t) := by
  refine ⟨fun pins s σ H Q I h => ?_⟩
  refine PySem.W.methodCall_KW (pl := pl) (thn (he.run pins s σ H _ I h) fun u s1 ⟨x, H1, I1, rx, ex, q⟩ => ?_) ht
  subst ex
  obtain rfl : u = Value.ref C := rx
  refine getmethcm_ok I1 r c fun s2 I2 => ?_
  refine PySem.W.callWith_of (P := PySem.W.MethP X.K s1.heap.objs.size g (.ref C)) hpl (PySem.W.keeps_M c.fi) (PyProof.Rows.evalArgs_kw2_nil hall ?_)
  refine thn (hkw.run pos _ s2 σ H1 _ I2 q) fun ws s3 ⟨zs, H2, I3, rz, hl, q2⟩ => ⟨⟨pin_at I3, I3.kIn⟩, ?_⟩
  rw [hks]
  exact run_cmS (n := 0) (vs := []) (us := []) F hr hb (hx σ) I3 .nil rz rfl hl q2
end
end Mq

namespace Mq
open PySem PySem.Spec PyProof.Rows L2
/-! ### a text, from its end -/
def revS (z : Str) : Str := ⟨z.cps.toList.reverse.toArray⟩
theorem rev_ix (n : Nat) : Builtin.Str.strSliceIndices none none (-1) n = (List.range n).reverse := by
  rw [← PySem.W.krv_range, ← PySem.W.krv_sliceRange]
  rfl
theorem rev_pick (z : Str) : (Builtin.Str.strSliceIndices none none (-1) z.length).filterMap (z.cps[·]?) = z.cps.toList.reverse := by
  rw [rev_ix]
  show ((List.range z.cps.size).reverse).filterMap (z.cps[·]?) = _
  rw [List.filterMap_reverse, PySem.W.krv_all]
def tRevS (te : TE) : TE := fun σ H Q => te σ H fun x H1 => ∃ z : Str, x = .str z ∧ z.length ≤ sizeLine ∧ Q (.str (revS z)) H1
theorem pe_revS {X : Cx} {e : Expr} {te : TE} {k : Nat} {p1 p2 p3 pos : Pos} (he : PE X e te) : PE X (.Subscript e (.Slice none none (some (.UnaryOp .USub (.Constant (.int 1) k p1) p2)) p3) pos) (tRevS te) := by
  refine ⟨fun pins s σ H Q I0 h => ?_⟩
  refine Subscript_ (thn (he.run pins s σ H _ I0 h) fun v s1 ⟨x, H1, I1, r1, q1⟩ => ?_)
  obtain ⟨z, ez, hz, q⟩ := q1
  subst ez
  obtain ⟨tz, rfl⟩ := r1
  have back : PO X (some (.UnaryOp .USub (.Constant (.int 1) k p1) p2)) (tPart (tUn (rU fun i => .int (-i)) (tC (.int 1)))) := po_some (pe_un un_neg pe_int)
  refine wpAny_Slice (thn (po_none.run pins s1 σ H1 (fun o G => o = none ∧ G = H1) I1 ⟨rfl, rfl⟩) fun v1 s2 ⟨o1, G1, I2, a1, b1, c1⟩ => ?_)
  subst b1 c1
  refine thn (po_none.run pins s2 σ G1 (fun o G => o = none ∧ G = G1) I2 ⟨rfl, rfl⟩) fun v2 s3 ⟨o2, G2, I3, a2, b2, c2⟩ => ?_
  subst b2 c2
  refine thn (back.run pins s3 σ G2 (fun o G => o = some (-1) ∧ G = G2) I3 ⟨1, rfl, -1, rfl, rfl, rfl⟩) fun v3 s4 ⟨o3, G3, I4, a3, b3, c3⟩ => ?_
  subst b3 c3
  obtain ⟨l1, rfl, f1⟩ := IsPart.raw a1
  obtain ⟨l2, rfl, f2⟩ := IsPart.raw a2
  obtain ⟨l3, rfl, f3⟩ := IsPart.raw a3
  have I5 : Inv X pins σ G3 { s4 with heap := s4.heap.push { cls := .type "slice", data := .fields #[partValue l1, partValue l2, partValue l3] } } := I4.kept (t' := s4.toks) fun b ob q => Heap.get?_push_of_some _ q
  show wpAny (model X.prog X.w) X.A (subscriptTail e (.Slice none none (some (.UnaryOp .USub (.Constant (.int 1) k p1) p2)) p3) (.str z tz) (.ref s4.heap.objs.size)) (EP X pins σ Q) X.xe { s4 with heap := s4.heap.push { cls := .type "slice", data := .fields #[partValue l1, partValue l2, partValue l3] } }
  refine tail_any (ops := [.str z tz, .ref s4.heap.objs.size]) (typeIs_str _ z tz) (F.slot_str_getitem.lookup) ?_ (by with_unfolding_all rfl)
  refine wpAny_getItem_str_slice (l := l1) (u := l2) (st := l3) ⟨_, Heap.get?_push_size _ rfl, rfl, rfl⟩ (by rw [f3]; rfl) ?_
  unfold sliceMade slicePicked
  rw [f1, f2, f3]
  show Made.post (if ((-1 : Int) == 1 && (Builtin.Str.strSliceIndices none none (-1) z.length).length == z.length) = true then Made.val (.str z tz) else Made.str ⟨((Builtin.Str.strSliceIndices none none (-1) z.length).filterMap (z.cps[·]?)).toArray⟩) (EP X pins σ Q) _
  rw [rev_pick, if_neg (show ¬ _ by rw [show ((-1 : Int) == 1) = false by decide, Bool.false_and]; exact Bool.false_ne_true)]
  refine ⟨?_, .str _, G3, I5.tok _, ⟨_, rfl⟩, q⟩
  show (z.cps.toList.reverse.toArray).size ≤ sizeLine
  rw [List.size_toArray, List.length_reverse, Array.length_toList]
  exact hz
end Mq

/-! Mq34: sets of texts that can be walked: set(text), sorted(set). -/
namespace PySem.Froz
open PySem
/-- the set of the texts l at a: its table rises, and it can be walked -/
def WkT (P : Program) (w : World) (h : Heap) (a : Addr) (l : List Str) : Prop :=
  ∃ D : SD, h.get? a = some (sObj "set" D) ∧ TxOk P w D l ∧ l.Nodup ∧ l.length < scanBound ∧ L2.Ris D.2.2.place.toList ∧ (w.params.followText "set-order" = true ∨ D.2.2.led = true)
section
variable {P : Program} {w : World} {A : Around} {E : Value → Shared → Prop} {s : Shared}
theorem WkT.at {h h' : Heap} {a : Addr} {l : List Str} (R : WkT P w h a l) (k : ∀ o, h.get? a = some o → h'.get? a = some o) : WkT P w h' a l := by
  obtain ⟨D, ho, r⟩ := R
  exact ⟨D, k _ ho, r⟩
theorem tail_ris {ep : Nat} {es1 : Array (Int × Value)} {t2 : SetTable} {wd : Bool} (r : L2.Ris t2.place.toList) : L2.Ris (tailTx ep es1 t2 wd).2.2.place.toList := by
  unfold tailTx
  split
  · exact L2.relayAll_ris _ _ _
  · exact r
theorem tail_led {ep : Nat} {es1 : Array (Int × Value)} {t2 : SetTable} {wd : Bool} : (tailTx ep es1 t2 wd).2.2.led = t2.led := by
  unfold tailTx
  split
  · exact L2.relayAll_led _ _ _
  · rfl
theorem add_ris {h : Int} {v : Value} {D : SD} (r : L2.Ris D.2.2.place.toList) : L2.Ris (addTx h v D).2.2.place.toList := by
  obtain ⟨es, ep, t⟩ := D
  have r1 := L2.layNew_ris t es h v r
  refine tail_ris ?_
  show L2.Ris (if (layNew t es h v).2.1.plain = true then { (layNew t es h v).2.1 with plain := false } else (layNew t es h v).2.1).place.toList
  split <;> exact r1
theorem add_led {h : Int} {v : Value} {D : SD} : (addTx h v D).2.2.led = D.2.2.led := by
  obtain ⟨es, ep, t⟩ := D
  have l1 := L2.layNew_led t es h v
  refine tail_led.trans ?_
  show (if (layNew t es h v).2.1.plain = true then { (layNew t es h v).2.1 with plain := false } else (layNew t es h v).2.1).led = t.led
  split <;> exact l1
/-- one that is there already -/
theorem add_old {a : Addr} {T : String} {D : SD} {l : List Str} {k : Str} {u : Tok} {Q : Bool → Shared → Prop} (ho : s.heap.get? a = some (sObj T D)) (F : TxOk P w D l) (hk : k ∈ l) (hb : l.length < scanBound)
    (h : Q false s) : wpAny (model P w) A (setAddHashed a (.str k u) (hashStr w k)) Q E s := by
  obtain ⟨es, ep, t⟩ := D
  have hd : (sObj T (es, ep, t)).data = .set es ep t := rfl
  have hf : t.fits es.size = true := F.fit
  have hel : ElemsOf (strKind P w) es.toList := F.el
  have hb0 : es.size < scanBound := by rw [show es.size = l.length from F.sz]; exact hb
  have hkey : (strKind P w).is k (.str k u) = true := is_str k u
  unfold setAddHashed setAddHashedIn
  refine wpAny_holding (wpAny_bind (wpAny_setState_of ho hd hf ?_))
  dsimp only
  rw [byScan_of rfl hb0 hel]
  simp only [↓reduceIte]
  unfold setAddByScan
  refine wpAny_bind ?_
  refine wpAny_bind (wpAny_rule ?_)
  refine wpAny_bind (wpAny_setScan_of (knd := strKind P w) (k := k) hkey ho hd hf hel ?_)
  cases hfi : List.findIdx? (fun e => (strKind P w).is k e.2) es.toList with
  | some j => exact wpAny_pure (wpAny_pure h)
  | none =>
    obtain ⟨e, he, q⟩ := (F.mem k).mp hk
    have c := List.findIdx?_eq_none_iff.mp hfi e he
    rw [q] at c
    cases c
/-- the members behind so many signs of a text -/
def Upto (x : Str) (i : Nat) (l : List Str) : Prop := l.length ≤ i ∧ ∀ k : Str, k ∈ l ↔ k ∈ (PyProof.Rows.signs x).take i
theorem upto_step {x : Str} {i c : Nat} {l : List Str} (u : Upto x i l) (hc : x.cps[i]? = some c) : (PyProof.Rows.signs x)[i]? = some (sing c) ∧
    ∀ k, k ∈ (PyProof.Rows.signs x).take (i + 1) ↔ k ∈ l ∨ k = sing c := by
  have e : (PyProof.Rows.signs x)[i]? = some (sing c) := by
    unfold PyProof.Rows.signs
    rw [List.getElem?_map, Array.getElem?_toList, hc]
    rfl
  refine ⟨e, fun k => ?_⟩
  rw [List.take_add_one, e, u.2 k]
  simp
theorem code_updT {I a : Addr} {fp wr : List Addr} {n : Nat} {St : Nat → Heap → Prop} {x : Str} {R : Result → Shared → Prop}
    (W : Walks P w A.in1 I fp wr n (SignAt x) St) (hn : n = x.cps.size) (hsz : n + 1 < scanBound) (haf : a ∉ fp) : ∀ (m i : Nat) (l : List Str) (s : Shared), n - i = m → i ≤ n → St i s.heap →
    WkT P w s.heap a l → Upto x i l →
    (∀ h' tk l', (∀ b o, b ∉ a :: wr → s.heap.get? b = some o → h'.get? b = some o) → WkT P w h' a l' → Upto x n l' → R (.ok (.ret .none)) { s with heap := h', toks := tk }) →
    codeAny (model P w) A (.builtin "set.update.loop" ⟨[.ref a, .ref I], []⟩) R s := by
  have haw : a ∉ wr := fun z => haf (W.sub _ z)
  have hsub : ∀ b, b ∉ a :: wr → b ∉ wr := fun b hb z => hb (List.mem_cons_of_mem _ z)
  intro m
  induction m with
  | zero =>
    intro i l s hm hi hst hS hu hR
    have hin : i = n := by omega
    subst hin
    refine codeAny_builtin PyProof.Rows.F.entry_set_update_loop ?_
    rw [Around.under_plainId PyProof.Rows.F.plain_set_update_loop _]
    show wpAny _ A.in1 (pyNext (.ref I) >>= _) _ _ s
    refine wpAny_bind (W.done s _ _ hst fun h' tk hk' => ?_)
    show wpAny _ A.in1 (ret Value.none) _ _ _
    exact wpAny_pure (hR h' tk l (fun b o hb e => hk' b o (hsub b hb) e) (hS.at fun o e => hk' a o haw e) hu)
  | succ m ih =>
    intro i l s hm hi hst hS hu hR
    have hlt : i < n := by omega
    refine codeAny_builtin PyProof.Rows.F.entry_set_update_loop ?_
    rw [Around.under_plainId PyProof.Rows.F.plain_set_update_loop _]
    show wpAny _ A.in1 (pyNext (.ref I) >>= _) _ _ s
    refine wpAny_bind (W.item i s _ _ hlt hst fun v h' tk hP hst' hk' => ?_)
    obtain ⟨c, t, hc, rfl⟩ := hP
    obtain ⟨e1, e2⟩ := upto_step hu hc
    have hS' : WkT P w h' a l := hS.at fun o e => hk' a o haw e
    obtain ⟨D, hD, F, nd, hb, hr, hl⟩ := hS'
    show wpAny _ A.in1 (holding [Value.str (sing c) t] (setAdd a (.str (sing c) t)) >>= _) _ _ _
    refine wpAny_bind (wpAny_holding ?_)
    unfold setAdd
    refine wpAny_holding ?_
    refine wpAny_bind ((strKind P w).pyHash (k := sing c) (is_str _ _) ?_)
    have hll : l.length ≤ i := hu.1
    by_cases hk : sing c ∈ l
    · refine add_old (s := { s with heap := h', toks := tk + 1 }) hD F hk hb ?_
      refine wpAny_pure ⟨plainId_quiet PyProof.Rows.F.plain_set_update_loop _, ih (i + 1) l { s with heap := h', toks := tk + 1 } (by omega) hlt hst' ⟨D, hD, F, nd, hb, hr, hl⟩ ⟨by omega, fun k => ?_⟩ fun h'' tk'' l' hk'' w' u' => ?_⟩
      · rw [e2 k]
        exact ⟨.inl, fun z => z.elim id fun q => q ▸ hk⟩
      · exact hR h'' tk'' l' (fun b o hb e => hk'' b o hb (hk' b o (hsub b hb) e)) w' u'
    · have hb2 : l.length + 1 < scanBound := by omega
      refine add_x (s := { s with heap := h', toks := tk + 1 }) hD F hk hb2 ?_
      have hne : ∀ b ∈ fp, b ≠ a := fun b hb z => haf (z ▸ hb)
      have k2 : ∀ b o, b ≠ a → h'.get? b = some o → (h'.update a (fun _ => sObj "set" (addTx (hashStr w (sing c)) (.str (sing c) t) D))).get? b = some o := fun b o hb e => PySem.Heap.get?_update_of_ne _ (Ne.symm hb) e
      have hw : WkT P w (h'.update a (fun _ => sObj "set" (addTx (hashStr w (sing c)) (.str (sing c) t) D))) a (sing c :: l) :=
        ⟨_, get_upd _ hD rfl, add_ok t F, List.nodup_cons.mpr ⟨hk, nd⟩, hb2, add_ris hr, hl.imp id fun z => by rw [add_led]; exact z⟩
      refine wpAny_pure ⟨plainId_quiet PyProof.Rows.F.plain_set_update_loop _, ih (i + 1) (sing c :: l) { s with heap := h'.update a (fun _ => sObj "set" (addTx (hashStr w (sing c)) (.str (sing c) t) D)), toks := tk + 1 } (by omega) hlt
        (W.frame _ h' _ hst' fun b hb o e => k2 b o (hne b hb) e) hw ⟨?_, fun k => ?_⟩ fun h'' tk'' l' hk'' w' u' => ?_⟩
      · show l.length + 1 ≤ i + 1
        omega
      · rw [e2 k, List.mem_cons]
        exact Or.comm
      · exact hR h'' tk'' l' (fun b o hb e => hk'' b o hb (k2 b o (fun z => hb (z ▸ List.mem_cons_self ..)) (hk' b o (hsub b hb) e))) w' u'
end
end PySem.Froz

/-! Mq35: set(text), sorted(set). -/
namespace PySem.Froz
open PySem PySem.Spec PyProof.Rows L2
def emptyO (w : World) : Obj := { cls := .type "set", dict := none, data := .set #[] 0 (.fresh 0 0 (!w.params.followText "set-order")) }
theorem wkt_new {P : Program} {w : World} {h : Heap} {a : Addr} (ho : h.get? a = some (emptyO w)) : WkT P w h a [] := by
  refine ⟨(#[], 0, .fresh 0 0 (!w.params.followText "set-order")), ho, TxOk.nil rfl, List.nodup_nil, by decide, List.Pairwise.nil, ?_⟩
  show _ ∨ (!w.params.followText "set-order") = true
  cases w.params.followText "set-order"
  · exact .inr rfl
  · exact .inl rfl
section
variable {P : Program} {w : World} {A : Around} {E : Value → Shared → Prop} {s : Shared}
set_option maxHeartbeats 3200000 in
theorem call_set_txt {x : Str} {u : Tok} {Q : Value → Shared → Prop} (hh : A.handled = none) (hsz : x.cps.size + 1 < scanBound)
    (h : ∀ (h' : Heap) (tk : Nat) (l : List Str), WkT P w h' s.heap.objs.size l → Upto x x.cps.size l → (∀ b o, s.heap.get? b = some o → h'.get? b = some o) → Q (.ref s.heap.objs.size) { s with heap := h', toks := tk }) :
    wpAny (model P w) A (call (.type "set") [.str x u]) Q E s := by
  obtain ⟨c, tl, hmro⟩ := PySem.F.called_set.mro
  have hmade := PySem.F.called_set.made
  have hsub := PySem.F.called_set.sub
  refine wpAny_call (codeAny_of_tree ?_)
  show wpAny _ _ (callAny (.type "set") _) _ _ _
  refine wpAny_pure ⟨Code.quiet_builtin _ (by decide +kernel), codeAny_builtin F.entry_type_call ?_⟩
  rw [Around.under_plain (weight_type_call_type "set" [.str x u] []) rfl]
  have h1 := PySem.F.called_set.notType
  have h2 := PySem.F.called_set.canCreate
  have hct := F.typeCall_set_1 (.str x u)
  repeat (any_goals (first | assumption | wp_step))
  refine codeAny_mono (code_set_led1 (.str x u) (E := E) (Q₁ := fun obj s₁ => obj = .ref s.heap.objs.size ∧ s₁ = { s with heap := s.heap.push (emptyO w) }) ⟨rfl, rfl⟩) fun r s₁ hr => ?_
  cases r with
  | error e => exact hr
  | ok fl =>
    cases fl with
    | ret obj =>
      obtain ⟨rfl, rfl⟩ := hr
      have hS : (s.heap.push (emptyO w)).get? s.heap.objs.size = some (emptyO w) := Heap.get?_push_size _ rfl
      have hT : Shared.TypeIs { s with heap := s.heap.push (emptyO w) } (.ref s.heap.objs.size) "set" := ⟨_, hS, rfl⟩
      have hli := PySem.F.called_set.init.lookup
      have hbi := PySem.F.called_set.init.bind (.ref s.heap.objs.size)
      repeat (any_goals (first | assumption | wp_step))
      refine codeAny_mono (codeAny_call_builtin (R := wants (fun r s₂ => r = .none ∧ ∃ h' tk l, s₂ = { s with heap := h', toks := tk } ∧ WkT P w h' s.heap.objs.size l ∧ Upto x x.cps.size l ∧
          (∀ b o, s.heap.get? b = some o → h'.get? b = some o)) E) PySem.F.called_set.init.plain F.entry_set_init (check_set_init_1 hT ?_)) fun r₂ s₂ hr₂ => ?_
      · unfold Builtin.«set.__init__» noKeywords Builtin.Frozenset.updateFrom
        generalize hPI : pyIter = PI
        have hA1 := PySem.F.sub_str_set
        have hA2 := PySem.F.sub_str_frozenset
        have hne : (Value.type "str" == Value.type "dict") = false := by decide
        unfold emptyO at hS hT ⊢
        wp_walk
        subst hPI
        refine wpAny_pyIter_str fun o St hW hst => ?_
        refine wpAny_bind (wpAny_runValue ?_)
        have hsz1 : (s.heap.push (emptyO w)).objs.size = s.heap.objs.size + 1 := Heap.size_push ..
        have hS2 : WkT P w ((s.heap.push (emptyO w)).push o) s.heap.objs.size [] := (wkt_new (P := P) (Heap.get?_push_size _ rfl)).at fun _ e => Heap.get?_push_of_some _ e
        refine code_updT (hW _ (by simp [hh])) rfl hsz ?hSf (x.cps.size - 0) 0 [] _ rfl (Nat.zero_le _) hst hS2 ⟨Nat.le_refl 0, fun k => by simp⟩ fun h' tk l hk hw hu => ?_
        case hSf =>
          rw [List.mem_singleton]
          show s.heap.objs.size ≠ (s.heap.push (emptyO w)).objs.size
          rw [hsz1]
          exact Nat.ne_of_lt (Nat.lt_succ_self _)
        show wpAny _ _ _ _ _ _
        refine wpAny_pure ?_
        show wpAny _ _ (ret Value.none) _ _ _
        refine wpAny_pure ⟨rfl, h', tk, l, rfl, hw, hu, fun b o' e => ?_⟩
        have hb0 : b < s.heap.objs.size := Heap.lt_size e
        refine hk b o' (fun z => ?_) (Heap.get?_push_of_some _ (Heap.get?_push_of_some _ e))
        rcases List.mem_cons.mp z with z | z
        · exact Nat.ne_of_lt hb0 z
        · have z2 : b = (s.heap.push (emptyO w)).objs.size := List.mem_singleton.mp z
          rw [hsz1] at z2
          exact absurd hb0 (by rw [z2]; exact Nat.not_lt_of_le (Nat.le_succ _))
      · cases r₂ with
        | error e => exact hr₂
        | ok fl₂ =>
          cases fl₂ with
          | ret r =>
            obtain ⟨rfl, h', tk, l, rfl, hS', hc', hk'⟩ := hr₂
            repeat (any_goals (first | assumption | wp_step))
            exact h _ _ _ hS' hc' hk'
          | _ => exact hr₂.elim
    | _ => exact hr.elim
end
end PySem.Froz

/-! Mq36: sorted(set) of texts. -/
namespace PySem.Froz
open PySem PySem.Spec PyProof.Rows L2
theorem nd_perm {α : Type} : ∀ (l m : List α), l.Nodup → (∀ x ∈ l, x ∈ m) → m.length ≤ l.length → m.Perm l
  | [], m, _, _, h => by
    have e : m = [] := List.length_eq_zero_iff.mp (Nat.le_zero.mp h)
    rw [e]
  | x :: l, m, nd, sub, h => by
    obtain ⟨n1, n2⟩ := List.nodup_cons.mp nd
    obtain ⟨m1, m2, e⟩ := List.append_of_mem (sub x (List.mem_cons_self ..))
    subst e
    refine List.perm_middle.trans ((nd_perm l (m1 ++ m2) n2 (fun y hy => ?_) ?_).cons x)
    · have q := sub y (List.mem_cons_of_mem _ hy)
      rcases List.mem_append.mp q with q | q
      · exact List.mem_append_left _ q
      · rcases List.mem_cons.mp q with q | q
        · exact absurd hy (q ▸ n1)
        · exact List.mem_append_right _ q
    · simp only [List.length_append, List.length_cons] at h ⊢
      omega
section
variable {P : Program} {w : World} {A : Around} {E : Value → Shared → Prop} {s : Shared}
theorem texts_perm {D : SD} {l : List Str} (F : TxOk P w D l) (nd : l.Nodup) : (∀ v ∈ D.1.toList.map (·.2), ∃ x t, v = Value.str x t) ∧ ((D.1.toList.map (·.2)).map strOf).Perm l := by
  have hs : ∀ v ∈ D.1.toList.map (·.2), ∃ x t, v = Value.str x t := fun v hv => by
    obtain ⟨e, he, q⟩ := List.mem_map.mp hv
    obtain ⟨⟨k, hk, _⟩, _⟩ := F.el e he
    obtain ⟨t, ev⟩ := Value.isStrOf_shape (x := k) (v := e.2) hk
    exact ⟨k, t, by rw [← q]; exact ev⟩
  refine ⟨hs, nd_perm _ _ nd (fun k hk => ?_) ?_⟩
  · obtain ⟨e, he, q⟩ := (F.mem k).mp hk
    obtain ⟨t, ev⟩ := Value.isStrOf_shape (x := k) (v := e.2) q
    refine List.mem_map.mpr ⟨e.2, List.mem_map.mpr ⟨e, he, rfl⟩, ?_⟩
    rw [ev]
    rfl
  · rw [List.length_map, List.length_map, Array.length_toList, F.sz]
    exact Nat.le_refl _
theorem sorted_txt {a : Addr} {l : List Str} {Q : Value → Shared → Prop} (R : WkT P w s.heap a l) (hh : A.handled = none) (h64 : l.length < 64)
    (hQ : ∀ s' p (out : Array Value) (c : Nat) (ys : List Str), (∀ b o, s.heap.get? b = some o → s'.heap.get? b = some o) → s'.gens = s.gens → s'.os = s.os → s.heap.objs.size ≤ p →
      s'.heap.get? p = some (seqObj "list" out c) → StrsAre out.toList ys → ys.Perm l → sortedS ys = true → Q (.ref p) s') :
    wpAny (model P w) A (call (.builtin "sorted") [.ref a]) Q E s := by
  obtain ⟨⟨es, ep, t⟩, ho, F, nd, hb, hr, hl⟩ := R
  obtain ⟨hs, hp⟩ := texts_perm F nd
  have hf : t.fits es.size = true := F.fit
  have hn : es.size = l.length := F.sz
  refine Calls.call_function_entry kind_sorted plain_sorted entry_sorted (args_sorted1 _) ?_
  unfold Builtin.«sorted»
  refine wpAny_bind (m := checkCount "sorted" 1 1 _) (wpAny_pure ?_)
  refine wpAny_bind (collect_set (A := A.in1) hh ⟨_, ho, rfl, rfl⟩ hf (by rw [hn]; exact hb) hr hl fun s1 vs k1 hz g1 o1 pm => ?_)
  have hvl : vs.length = l.length := by rw [pm.length_eq, List.length_map, Array.length_toList]; exact hn
  have hS : StrsAre vs (vs.map strOf) := strsAre_map vs fun v hv => hs v (pm.mem_iff.mp hv)
  refine wpAny_bind (wpAny_newList ?_ (by rw [hvl, sizeLine_eq]; omega))
  have hoL : (s1.heap.push (seqObj "list" vs.toArray 0)).get? s1.heap.objs.size = some (seqObj "list" vs.toArray 0) := Heap.get?_push_size _ rfl
  refine wpAny_bind (wpAny_holding (wpAny_call_entry slot_list_sort ⟨_, hoL, rfl⟩ entry_list_sort
    (list_sort_treeK strKind_oneLt hoL hS.keysOf (fun v₁ v₂ rest e => keyKind_strs (by rw [← e]; exact hS)) (by rw [hvl]; exact h64) fun st' hp' hs' => ⟨_, rfl, ?_⟩) (args_list_sort _)))
  obtain ⟨ys, a1, a2, a3⟩ := sorted_out_str hS hp' hs'
  obtain ⟨c, hc⟩ := sortedHeap_at (vs := vs) (out := (arrOf st').map (·.2)) hoL
  refine wpAny_pure ⟨_, rfl, hQ _ s1.heap.objs.size _ c ys (fun b u e => ?_) g1 o1 hz hc a1 (a2.trans ((pm.map strOf).trans hp)) a3⟩
  have q := k1 b u e
  have hlt := Heap.lt_size q
  show (sortedHeap (s1.heap.push (seqObj "list" vs.toArray 0)) s1.heap.objs.size vs ((arrOf st').map (·.2))).get? b = some u
  rw [sortedHeap_old (Nat.ne_of_lt hlt) (by rw [size_push']; exact Nat.lt_succ_of_lt hlt)]
  exact Heap.get?_push_of_some _ q
end
end PySem.Froz

/-! Mq37: set(text), sorted(set) as rules. -/
namespace Mq
open PySem PySem.Spec PyProof.Rows L2 PySem.Froz
/-- the set of the texts l at a -/
def TxO (P : Program) (w : World) (a : Addr) (l : List Str) : HO := .ext fun h => WkT P w h a l
section
variable {X : Cx}
theorem txO_new {w : World} {P : Program} {H : Hp} {h : Heap} {a : Addr} {l : List Str} (R : WkT P w h a l) : ObjOk P w H h a (TxO P w a l) := by
  have ⟨D, ho, _⟩ := R
  exact ⟨R, ⟨_, ho⟩, fun h1 h2 p k => WkT.at p k⟩
theorem txO_get {pins : List (Addr × Obj)} {σ : L2.St} {H : Hp} {s : Shared} {a : Addr} {l : List Str} (I : Inv X pins σ H s) (ha : H a = some (TxO X.prog X.w a l)) : WkT X.prog X.w s.heap a l := (I.hok a _ ha).1
/-- set(text) -/
def rSetTx (X : Cx) : List V → Hp → VK → Prop := fun xs H Q => ∃ x : Str, xs = [V.str x] ∧ x.cps.size + 1 < scanBound ∧
  ∀ (p : Addr) (l : List Str), H p = none → l.Nodup → l.length ≤ x.cps.size → (∀ k, k ∈ l ↔ k ∈ signs x) → Q (.ref p) (upd H p (TxO X.prog X.w p l))
theorem cr_setTx (hc : X.calm = true) : CallR X (.type "set") (rSetTx X) := by
  intro pins s σ H xs us Q I r h
  obtain ⟨x, rfl, hsz, q⟩ := h
  obtain ⟨v, rfl, rv⟩ := r.one
  obtain ⟨t, rfl⟩ := rv
  refine call_set_txt (I.ok.hd hc) hsz fun h' tk l hw hu hk => ?_
  have e : (signs x).take x.cps.size = signs x := List.take_of_length_le (by unfold signs; rw [List.length_map, Array.length_toList] <;> exact Nat.le_refl _)
  have hn : l.Nodup := by
    obtain ⟨D, _, _, nd, _⟩ := hw
    exact nd
  exact ⟨.ref _, upd H s.heap.objs.size (TxO X.prog X.w s.heap.objs.size l), I.laid (t' := tk) hk (Nat.le_refl _) (txO_new hw), rfl, q _ l (I.hok.fresh (Nat.le_refl _)) hn hu.1 fun k => by rw [hu.2 k, e]⟩
/-- sorted(s), s a set of fewer than 64 texts -/
def rSortTx (X : Cx) : List V → Hp → VK → Prop := fun vs H Q => ∃ (a : Addr) (l : List Str), vs = [V.ref a] ∧ H a = some (TxO X.prog X.w a l) ∧ l.length < 64 ∧
  ∀ (ys : List Str) (p : Addr), ys.Perm l → sortedS ys = true → H p = none → Q (.ref p) (upd H p (.lst (ys.map V.str)))
theorem cr_sortTx (hc : X.calm = true) : CallR X (.builtin "sorted") (rSortTx X) := by
  intro pins s σ H vs us Q I r h
  obtain ⟨a, l, rfl, ha, h64, q⟩ := h
  have R := txO_get I ha
  rw [Vals.ref1 r]
  refine sorted_txt R (I.ok.hd hc) h64 fun s' p out c ys k g o hp hg hi hs hm => ?_
  have hlen : (ys.map V.str).length ≤ sizeLine := by rw [List.length_map, hs.length_eq]; exact small64 h64
  have hn : H p = none := I.hok.fresh hp
  have J : Inv X pins σ (upd H p (.lst (ys.map V.str))) { s with heap := s'.heap, gens := s'.gens, drawn := s'.drawn, toks := s'.toks } :=
    I.call (ch := []) (Un.laid k hp hn) (I.hok.laid k hp ⟨hlen, out.toList, c, vals_of_strs hi, hg⟩) (by rw [g]; exact I.bare) (fun _ z => nomatch z)
  have e : s' = { s with heap := s'.heap, gens := s'.gens, drawn := s'.drawn, toks := s'.toks } := by
    cases s'
    cases s
    cases o
    rfl
  rw [e]
  exact ⟨.ref p, _, J, rfl, q ys p hs hm hn⟩
theorem txO_setOf {P : Program} {w : World} {h : Heap} {a : Addr} {l : List Str} (R : WkT P w h a l) : h.SetOf (PySem.strKind P w) a (fun k => decide (k ∈ l)) l.length := by
  obtain ⟨D, ho, F, nd, hb, _, _⟩ := R
  exact ⟨_, D.1, D.2.1, D.2.2, ho, ⟨rfl, rfl, rfl⟩, rfl, F.el, fun k => by rw [decide_eq_true_eq]; exact F.mem k, by rw [show D.1.size = l.length from F.sz]; exact hb, F.fit, F.sz⟩
/-- text in s, text not in s -/
def rTxIn (X : Cx) (neg : Bool) : V → V → Hp → VK → Prop := fun x y H Q => ∃ k a l, x = V.str k ∧ y = V.ref a ∧ H a = some (TxO X.prog X.w a l) ∧ Q (.bl (if neg then !decide (k ∈ l) else decide (k ∈ l))) H
theorem or_txIn : OpR X (compareOp .In) (rTxIn X false) := by
  intro pins s σ H x y v u Q I rx ry h
  obtain ⟨k, a, l, rfl, rfl, ha, q⟩ := h
  obtain ⟨tk, rfl⟩ := rx
  cases ry
  exact wpAny_inSet_of (strKind_is _ _ _ _) rfl (txO_setOf (txO_get I ha)) ⟨.bl _, H, I.tok _, rfl, q⟩
theorem or_txNotIn : OpR X (compareOp .NotIn) (rTxIn X true) := by
  intro pins s σ H x y v u Q I rx ry h
  obtain ⟨k, a, l, rfl, rfl, ha, q⟩ := h
  obtain ⟨tk, rfl⟩ := rx
  cases ry
  exact wpAny_notInSet_of (strKind_is _ _ _ _) rfl (txO_setOf (txO_get I ha)) ⟨.bl _, H, I.tok _, rfl, q⟩
end
end Mq

namespace Mq
open PySem PySem.Spec PyProof.Rows L2
/-! ### list(text) -/
def rListTx : List V → Hp → VK → Prop := fun xs H Q => ∃ x : Str, xs = [.str x] ∧ x.cps.size ≤ sizeLine ∧ ∀ p, H p = none → p ≠ sysModules → Q (.ref p) (upd H p (.lst (x.cps.toList.map fun c => V.str ⟨#[c]⟩)))
theorem call_listTx {X : Cx} (hc : X.calm = true) : CallR X (.type "list") rListTx := by
  intro pins s σ H xs us Q I r h
  obtain ⟨x, rfl, hx, q⟩ := h
  obtain ⟨v, rfl, rv⟩ := r.one
  obtain ⟨t, rfl⟩ := rv
  refine call_list_str (I.ok.hd hc) x t (fun h' tk acc' c' hk hD ha => ?_) hx
  refine ⟨.ref s.heap.objs.size, upd H s.heap.objs.size (.lst (x.cps.toList.map fun c => V.str ⟨#[c]⟩)), I.laid (t' := tk) hk (Nat.le_refl _) ⟨?_, acc'.toList, c', ?_, ?_⟩, rfl, q _ (I.hok.fresh (Nat.le_refl _)) (Nat.ne_of_gt (Inv.low I))⟩
  · rw [List.length_map, Array.length_toList]
    exact hx
  · have el : acc'.toList.length = acc'.size := by simp
    refine vals_of_at (by rw [List.length_map, el, ha.1, Array.length_toList]) fun j y w h1 h2 => ?_
    obtain ⟨c, u, hcx, rfl⟩ := ha.2 j w (by rw [← Array.getElem?_toList]; exact h2)
    rw [List.getElem?_map, Array.getElem?_toList, hcx] at h1
    cases h1
    exact ⟨u, rfl⟩
  · rw [Array.toArray_toList]
    exact hD
/-! ### t[::-1] -/
section
variable {prog : Program} {w : World} {A : Around} {E : Value → Shared → Prop} {s : Shared}
theorem adjust_rev (n : Nat) : Builtin.Slice.sliceAdjust none none (-1) (n : Int) = ((n : Int) - 1, -1) := by
  unfold Builtin.Slice.sliceAdjust
  rfl
theorem places_rev (n : Nat) : Builtin.Slice.slicePlaces ((n : Int) - 1) (-1) (-1) = n := by
  unfold Builtin.Slice.slicePlaces
  have h1 : ¬ ((-1 : Int) > 0) := by omega
  simp only [h1, if_false]
  split
  · show (((n : Int) - 1 - -1 - 1) / 1 + 1).toNat = n
    rw [Int.ediv_one]
    omega
  · show (0 : Int).toNat = n
    omega
theorem fm_congr {α β : Type} {f g : α → Option β} : ∀ {l : List α}, (∀ k ∈ l, f k = g k) → l.filterMap f = l.filterMap g
  | [], _ => rfl
  | k :: l, h => by
    rw [List.filterMap_cons, List.filterMap_cons, h k List.mem_cons_self, fm_congr fun x hx => h x (List.mem_cons_of_mem _ hx)]
theorem pick_rev (xs : Array Value) : ((List.range xs.size).filterMap fun (k : Nat) => xs[(((xs.size : Int) - 1) + (k : Int) * (-1)).toNat]?) = xs.toList.reverse := by
  have e : ∀ k ∈ List.range xs.size, xs[(((xs.size : Int) - 1) + (k : Int) * (-1)).toNat]? = (fun k => xs[xs.size - 1 - k]?) k := by
    intro k hk
    have h1 := List.mem_range.mp hk
    have : (((xs.size : Int) - 1) + (k : Int) * (-1)).toNat = xs.size - 1 - k := by omega
    rw [this]
  rw [fm_congr e]
  have h2 : (List.range xs.size).filterMap (fun k => xs[xs.size - 1 - k]?) = ((List.range xs.size).map fun k => xs.size - 1 - k).filterMap (xs[·]?) := by
    rw [List.filterMap_map]
    rfl
  rw [h2, PySem.W.krv_range, List.filterMap_reverse, PySem.W.krv_all]
theorem sliceApplied_rev {sl : Addr} {vl vu vs : Value} {n : Nat} {Q : Int × Int × Nat → Shared → Prop} (hs : s.heap.IsSliceOf sl vl vu vs) (pl : IsPart vl none) (pu : IsPart vu none) (ps : IsPart vs (some (-1)))
    (h : Q ((n : Int) - 1, -1, n) s) : wpAny (model prog w) A (Builtin.Slice.sliceApplied (.ref sl) (pure (n : Int))) Q E s := by
  obtain ⟨os, hos, hcs, hds⟩ := id hs
  unfold Builtin.Slice.sliceApplied Builtin.Slice.sliceFields
  refine wpAny_bind (wpAny_bind (wpAny_field hos hds (x := vl) rfl (wpAny_bind (wpAny_field hos hds (x := vu) rfl (wpAny_bind (wpAny_field hos hds (x := vs) rfl (wpAny_pure ?_)))))))
  refine wpAny_bind (HT.slicePart_ ps ?_)
  show wpAny _ _ (if ((-1 : Int) == 0) = true then _ else _) _ _ s
  rw [if_neg (by decide)]
  refine wpAny_bind (HT.slicePart_ pl (wpAny_bind (HT.slicePart_ pu (wpAny_bind (wpAny_pure ?_)))))
  show wpAny _ _ (match Builtin.Slice.sliceAdjust none none (-1) (n : Int) with | (lo, hi) => pure (lo, (-1 : Int), Builtin.Slice.slicePlaces lo hi (-1))) _ _ s
  rw [adjust_rev n]
  show wpAny _ _ (pure (((n : Int) - 1), (-1 : Int), Builtin.Slice.slicePlaces ((n : Int) - 1) (-1) (-1))) _ _ s
  rw [places_rev]
  exact wpAny_pure h
theorem getItem_tuple_rev {t sl : Addr} {items : Array Value} {vl vu vs : Value} {Q : Value → Shared → Prop} (ht : IsTup s.heap t items) (hs : s.heap.IsSliceOf sl vl vu vs) (pl : IsPart vl none) (pu : IsPart vu none) (ps : IsPart vs (some (-1)))
    (h : Q (.ref s.heap.objs.size) { s with heap := s.heap.push { cls := .type "tuple", data := .seq items.toList.reverse.toArray } })
    (hsz : items.size ≤ sizeLine) : wpAny (model prog w) A (getItem (.ref t) (.ref sl)) Q E s := by
  have htake : sizeOk (.seq items.toList.reverse.toArray) := by
    show items.toList.reverse.toArray.size ≤ sizeLine
    rw [List.size_toArray, List.length_reverse, Array.length_toList]
    exact hsz
  obtain ⟨os, hos, hcs, hds⟩ := id hs
  have hTs : s.TypeIs (.ref sl) "slice" := ⟨os, hos, hcs⟩
  unfold getItem
  try with_reducible refine wpAny_holding ?_
  first | refine wpAny_bind (wpAny_pure ?_) | skip
  refine wpAny_bind (wpAny_sequenceKey ht.typeIs (by decide) ?_)
  refine wpAny_bind (wpAny_callSpecial?_slot (name := Str.ofString "__getitem__") ht.typeIs PyProof.Rows.slot_tuple_getitem
    (wpAny_call_entry PyProof.Rows.slot_tuple_getitem ht.typeIs PyProof.Rows.entry_tuple_getitem ?_ (PyProof.Rows.args_tuple_getitem _ _)))
  show wpAny _ _ (Builtin.Tuple.tupleItemsOf (.ref t) >>= _) _ _ s
  refine wpAny_bind (tupleItemsOf_ ht ?_)
  refine wpAny_bind (wpAny_typeOf hTs ?_)
  rw [if_pos (by decide)]
  refine wpAny_bind (sliceApplied_rev hs pl pu ps ?_)
  have hno : ¬ ((((items.size : Int) - 1) == 0 && (-1 : Int) == 1 && items.size == items.size) = true) := by
    rw [show ((-1 : Int) == 1) = false by decide, Bool.and_false, Bool.false_and]
    exact Bool.false_ne_true
  show wpAny _ _ (if ((((items.size : Int) - 1) == 0 && (-1 : Int) == 1 && items.size == items.size)) = true then _ else _) _ _ s
  rw [if_neg hno, pick_rev]
  first
    | exact wpAny_bind (m := Builtin.Tuple.tupleExact _) (wpAny_newObj_type (wpAny_pure ⟨_, rfl, wpAny_pure h⟩) htake)
    | exact wpAny_bind (m := Builtin.Tuple.tupleExact _) (wpAny_newObj_type (wpAny_bind (wpAny_pure (wpAny_pure ⟨_, rfl, wpAny_pure h⟩))) htake)
    | exact wpAny_bind (wpAny_bind (m := Builtin.Tuple.tupleExact _) (wpAny_newObj_type (wpAny_pure (wpAny_pure ⟨_, rfl, wpAny_pure h⟩)) htake))
    | exact wpAny_bind (wpAny_bind (m := Builtin.Tuple.tupleExact _) (wpAny_newObj_type (wpAny_pure ⟨_, rfl, wpAny_pure h⟩) htake))
end
def tRevT (K : PySem.W.Frag) (te : TE) : TE := fun σ H Q => te σ H fun x H1 => ∃ a xs, x = .ref a ∧ SqT K H1 a xs ∧ ∀ p, H1 p = none → Q (.ref p) (upd H1 p (.tup xs.reverse))
theorem pe_revT {X : Cx} {e : Expr} {te : TE} {k : Nat} {p1 p2 p3 pos : Pos} (he : PE X e te) : PE X (.Subscript e (.Slice none none (some (.UnaryOp .USub (.Constant (.int 1) k p1) p2)) p3) pos) (tRevT X.K te) := by
  refine ⟨fun pins s σ H Q I h => ?_⟩
  refine Subscript_ (thn (he.run pins s σ H _ I h) fun v s1 ⟨x, H1, I1, r1, q1⟩ => ?_)
  obtain ⟨a, xs, ex, hx, q⟩ := q1
  subst ex
  cases r1
  have hst : PO X (some (.UnaryOp .USub (.Constant (.int 1) k p1) p2)) (tPart (tUn (rU fun i => .int (-i)) (tC (.int 1)))) := po_some (pe_un un_neg pe_int)
  refine wpAny_Slice (thn (po_none.run pins s1 σ H1 (fun o H2 => o = none ∧ H2 = H1) I1 ⟨rfl, rfl⟩) fun vl s2 ⟨l, H2, I2, pl, el, e2⟩ => ?_)
  subst el e2
  refine thn (po_none.run pins s2 σ H2 (fun o H3 => o = none ∧ H3 = H2) I2 ⟨rfl, rfl⟩) fun vu s3 ⟨u, H3, I3, pu, eu, e3⟩ => ?_
  subst eu e3
  refine thn (hst.run pins s3 σ H3 (fun o H4 => o = some (-1) ∧ H4 = H3) I3 ⟨1, rfl, -1, rfl, rfl, rfl⟩) fun vs s4 ⟨o, H4, I4, ps, eo, e4⟩ => ?_
  subst eo e4
  have I5 : Inv X pins σ H4 { s4 with heap := s4.heap.push { cls := .type "slice", data := .fields #[vl, vu, vs] } } := I4.kept (t' := s4.toks) fun b ob q => Heap.get?_push_of_some _ q
  obtain ⟨its, r, ht, hz⟩ := I5.tuple hx
  have hlen := r.length
  show wpAny (model X.prog X.w) X.A (subscriptTail e (.Slice none none (some (.UnaryOp .USub (.Constant (.int 1) k p1) p2)) p3) (.ref a) (.ref s4.heap.objs.size)) (EP X pins σ Q) X.xe { s4 with heap := s4.heap.push { cls := .type "slice", data := .fields #[vl, vu, vs] } }
  refine tail_any (ops := [.ref a, .ref s4.heap.objs.size]) ht.typeIs (PyProof.Rows.slot_tuple_getitem.lookup) ?_ (by with_unfolding_all rfl)
  refine getItem_tuple_rev ht (Heap.IsSliceOf.new _ vl vu vs) pl pu ps ?_ (by rw [List.size_toArray]; omega)
  refine ⟨.ref _, _, I5.laid (t' := s4.toks) (o := .tup xs.reverse) (fun b ob q => Heap.get?_push_of_some _ q) (Nat.le_refl _) ?_, rfl, q _ (I5.hok.fresh (Nat.le_refl _))⟩
  exact ⟨by rw [List.length_reverse]; exact hz, its.reverse, r.reverse, IsTup.new _ _⟩
end Mq

namespace Mq
open PySem PySem.Spec PyProof.Rows L2
open SX (S)
/-! ### tuples cut and joined: what stands in the end -/
def NewT (K : PySem.W.Frag) (xs : List V) (H : Hp) (Q : VK) : Prop := ∀ p H', Same H H' → SqT K H' p xs → Q (.ref p) H'
theorem NewT.put {K : PySem.W.Frag} {xs : List V} {H : Hp} {Q : VK} (q : NewT K xs H Q) {p : Addr} (hp : H p = none) : Q (.ref p) (upd H p (.tup xs)) := q p _ (same_new hp) (Or.inl (Or.inl upd_same))
def rSlN (K : PySem.W.Frag) : V → Option Int → Option Int → Hp → VK → Prop := fun x lo hi H Q => ∃ a xs, x = .ref a ∧ SqT K H a xs ∧ NewT K (cutV xs lo hi) H Q
section
variable {X : Cx}
theorem sl_tupN : SlR X (rSlN X.K) := by
  intro pins s σ H x v vl vu lo hi sl Q I rx hs pl pu h
  obtain ⟨a, xs, ex, hx, q⟩ := h
  refine sl_tupA pins s σ H x v vl vu lo hi sl Q I rx hs pl pu ⟨a, xs, ex, hx, fun h => q a H (Same.refl H) ?_, fun _ p hp => q.put hp⟩
  have : cutV xs lo hi = xs := by
    unfold cutV
    rw [h.1, h.2, Nat.sub_zero, List.drop_zero, List.take_length]
  rw [this]
  exact hx
def rCatN (K : PySem.W.Frag) : R2 := fun x y H Q => ∃ a b xs ys, x = .ref a ∧ y = .ref b ∧ SqT K H a xs ∧ SqT K H b ys ∧ xs.length + ys.length ≤ sizeLine ∧ NewT K (xs ++ ys) H Q
theorem op_catN : OpR X (binaryOp .Add) (rCatN X.K) := by
  intro pins s σ H x y v u Q I rx ry h
  obtain ⟨a, b, xs, ys, ex, ey, hx, hy, hz, q⟩ := h
  refine op_catA pins s σ H x y v u Q I rx ry ⟨a, b, xs, ys, ex, ey, hx, hy, hz, fun e => q b H (Same.refl H) ?_, fun _ e => q a H (Same.refl H) ?_, fun _ _ p hp => q.put hp⟩
  · subst e
    exact hy
  · subst e
    rw [List.append_nil]
    exact hx
/-! ### twice a text -/
theorem op_2S : OpR X (binaryOp .Mult) (fun x y H Q => ∃ z : List Nat, x = .int 2 ∧ y = .str (S z) ∧ z.length ≤ 1000 ∧ Q (.str (S (z ++ z))) H) := by
  intro pins s σ H x y v u Q I rx ry h
  obtain ⟨z, rfl, rfl, hz, q⟩ := h
  obtain ⟨t, rfl⟩ := rx
  obtain ⟨t', rfl⟩ := ry
  have hl : (S z).length = z.length := SX.S_len z
  refine lm_binaryOp_repeat_right (T := "str") (U := "int") (by decide) (fun s' => typeIs_int s' 2 t) (typeIs_str s (S z) t') F.fills_int_mul noFill_str_mul F.slot_int_mul lm_noRepeat_int repeat_str F.slot_int_index.lookup
    (call_gives F.slot_int_mul (typeIs_int s 2 t) F.entry_int_mul (F.args_int_mul_2 _ _) (AutoIntG3.int___mul___int_str_0 2 t (S z) t')
      ⟨rfl, typeIs_str _ _ _, call_gives F.slot_str_mul (typeIs_str _ (S z) t') F.entry_str_mul (F.args_str_mul_2 _ _) (gives_str_mul (S z) 2 t' t (by decide) (fun _ _ => ?_) (fun _ _ => ?_)) ?_⟩)
  · rw [hl]
    have : (1000 : Int) ≤ (2 ^ 63 - 1) / 2 := by decide
    omega
  · rw [hl]
    unfold Builtin.Str.tooLong
    exact decide_eq_false (by
      have : (1000 * 2 : Nat) ≤ sizeLine := by decide
      show ¬ (z.length * 2 > sizeLine)
      omega)
  · rw [if_neg (by decide)]
    cases z with
    | nil => exact ⟨.str (S []), H, I, ⟨_, rfl⟩, q⟩
    | cons c z =>
      rw [show (((2 : Int) == 1) || ((S (c :: z)).length == 0)) = false by rw [hl]; rfl, if_neg Bool.false_ne_true]
      have e : (⟨(List.replicate (2 : Int).toNat (S (c :: z)).cps).foldl (· ++ ·) #[]⟩ : Str) = S ((c :: z) ++ (c :: z)) := by
        show (⟨(#[] ++ (c :: z).toArray) ++ (c :: z).toArray⟩ : Str) = ⟨((c :: z) ++ (c :: z)).toArray⟩
        simp
      rw [e]
      refine ⟨?_, .str (S ((c :: z) ++ (c :: z))), H, I.tok _, ⟨_, rfl⟩, q⟩
      show (S ((c :: z) ++ (c :: z))).length ≤ sizeLine
      rw [SX.S_len, List.length_append]
      have : (2000 : Nat) ≤ sizeLine := by decide
      omega
end
end Mq

namespace Mq
open PySem PySem.Spec PyProof.Rows L2
/-! ### sorted(xs), xs a list of tuples of three texts -/
def txt3 (x : Str × Str × Str) : List (Int ⊕ List Nat) := [.inr x.1.cps.toList, .inr x.2.1.cps.toList, .inr x.2.2.cps.toList]
def ltS3 (x y : Str × Str × Str) : Bool := (PyProof.Rows.listOrd PyProof.Rows.itemOrd).blt (txt3 x) (txt3 y)
def Is3 (H : Hp) (f : Addr → Str × Str × Str) (b : Addr) : Prop := H b = some (.tup [.str (f b).1, .str (f b).2.1, .str (f b).2.2])
def rSorted3 (K : PySem.W.Frag) : List V → Hp → VK → Prop := fun xs H Q => ∃ (a : Addr) (as : List Addr) (f : Addr → Str × Str × Str), xs = [.ref a] ∧ SqL K H a (as.map V.ref) ∧ (∀ b ∈ as, Is3 H f b) ∧
  ∀ (qs : List Addr) (p : Addr), qs.Perm as → (∀ i j, i ≤ j → j < qs.length → ltS3 (f (qs.getD j 0)) (f (qs.getD i 0)) = false) → H p = none → Q (.ref p) (upd H p (.lst (qs.map V.ref)))
theorem vals_refs : ∀ {as : List Addr} {us : List Value}, Vals (as.map V.ref) us → us = as.map Value.ref
  | [], _, .nil => rfl
  | b :: as, _, @Paired.cons _ _ _ _ y _ _ r rr => by
    have e : y = Value.ref b := r
    rw [e, vals_refs rr]
    rfl
section
variable {X : Cx}
theorem call_sorted3 : CallR X (.builtin "sorted") (rSorted3 X.K) := by
  intro pins s σ H xs us Q I r q
  obtain ⟨a, as, f, rfl, ha, h3, q⟩ := q
  obtain ⟨u, rfl, rx⟩ := vals1 r
  cases rx
  obtain ⟨its, rv, hl, hz⟩ := I.list ha
  have ei : its = as.map Value.ref := vals_refs rv
  subst ei
  have obj : ∀ b ∈ as, ∃ (ob : Obj) (n : Nat) (t1 t2 t3 : Tok), s.heap.get? b = some ob ∧ ob.cls = .type "tuple" ∧ ob.data = .seq #[.str (f b).1 t1, .str (f b).2.1 t2, .str (f b).2.2 t3] n := by
    intro b hb
    obtain ⟨_, its, r2, ob, h1, h2, n, h4⟩ := (show ObjOk X.prog X.w H s.heap b (.tup [.str (f b).1, .str (f b).2.1, .str (f b).2.2]) from I.hok b _ (h3 b hb))
    cases r2 with
    | cons a1 r2 =>
      cases r2 with
      | cons a2 r2 =>
        cases r2 with
        | cons a3 r2 =>
          cases r2
          obtain ⟨t1, rfl⟩ := a1
          obtain ⟨t2, rfl⟩ := a2
          obtain ⟨t3, rfl⟩ := a3
          exact ⟨ob, n, t1, t2, t3, h1, h2, h4⟩
  have tups : ∀ l : List Addr, (∀ b ∈ l, b ∈ as) → ∃ fs, PyProof.Rows.TupsOf s.heap (fun _ => true) (l.map Value.ref) fs := by
    intro l
    induction l with
    | nil => intro _; exact ⟨[], .nil⟩
    | cons b l ih =>
      intro hl
      obtain ⟨fs, hf⟩ := ih fun x hx => hl x (List.mem_cons_of_mem _ hx)
      obtain ⟨ob, n, t1, t2, t3, h1, h2, h4⟩ := obj b (hl b List.mem_cons_self)
      exact ⟨_, .cons ⟨b, ob, _, n, rfl, h1, h2, h4, rfl, fun z => (by cases z), fun _ => ⟨_, _, rfl⟩⟩ hf⟩
  obtain ⟨fs, hfs⟩ := tups as fun _ h => h
  have keyC : ∀ b ∈ as, PyProof.Rows.G.tupKeyC s.heap (fun _ => true) (.ref b) = some (txt3 (f b)) := by
    intro b hb
    obtain ⟨ob, n, t1, t2, t3, h1, h2, h4⟩ := obj b hb
    have hT : PyProof.Rows.G.isTupObj s.heap (.ref b) = true := by
      simp [PyProof.Rows.G.isTupObj, h1, h2]
    unfold PyProof.Rows.G.tupKeyC
    rw [if_pos hT]
    simp only [PyProof.Rows.tupKey, h1, h4]
    rfl
  refine PyProof.Rows.G.sorted_tups (vs := as.map Value.ref) hl.isList hfs (fun v hv => ?_) (by rw [List.length_map] at hz ⊢; exact hz) fun st' hp hs _ => ?_
  · obtain ⟨b, hb, rfl⟩ := List.mem_map.mp hv
    exact ⟨_, keyC b hb⟩
  obtain ⟨e', he'⟩ := PyProof.Rows.sortedAll_at s.heap (as.map Value.ref) ((arrOf st').map (·.2))
  have mem : ∀ p ∈ (arrOf st').toList, p.1 = p.2 ∧ p.1 ∈ as.map Value.ref := fun p hp' => by
    have h1 := (hp.toList.mem_iff (a := p)).mp hp'
    rw [PyProof.Rows.pairsOf_toList] at h1
    exact PyProof.Rows.mem_zip_self h1
  obtain ⟨qs, hq1, hq2⟩ : ∃ qs : List Addr, (arrOf st').toList.map (·.2) = qs.map Value.ref ∧ qs.Perm as := by
    have h1 : ((arrOf st').toList.map (·.2)).Perm (as.map Value.ref) := by
      have h2 := hp.toList.map (fun p : Keyed => p.2)
      rw [PyProof.Rows.pairsOf_toList] at h2
      rw [List.map_snd_zip (Nat.le_refl _)] at h2
      exact h2
    exact perm_back h1
  have hql : qs.length = as.length := hq2.length_eq
  have harr : (arrOf st').toList.length = qs.length := by
    have h1 := congrArg List.length hq1
    rw [List.length_map, List.length_map] at h1
    exact h1
  have hkk : ∀ i, i < qs.length → PyProof.Rows.KK (PyProof.Rows.G.tupKindC s.heap fun _ => true) (arrOf st') i = txt3 (f (qs.getD i 0)) := by
    intro i hi
    have hi' : i < (arrOf st').toList.length := by omega
    have e1 : (arrOf st')[i]? = some (arrOf st').toList[i] := by
      rw [← Array.getElem?_toList, List.getElem?_eq_getElem hi']
    obtain ⟨m1, m2⟩ := mem _ (List.getElem_mem hi')
    have e2 : (arrOf st').toList[i].2 = .ref (qs.getD i 0) := by
      have h1 := congrArg (fun l => l[i]?) hq1
      simp only [List.getElem?_map, List.getElem?_eq_getElem hi', List.getElem?_eq_getElem hi, Option.map_some, Option.some.injEq] at h1
      rw [h1, List.getD_eq_getElem?_getD, List.getElem?_eq_getElem hi]
      rfl
    have hin : qs.getD i 0 ∈ as := hq2.mem_iff.mp (by rw [List.getD_eq_getElem?_getD, List.getElem?_eq_getElem hi]; exact List.getElem_mem hi)
    unfold PyProof.Rows.KK
    rw [e1]
    show (PyProof.Rows.G.tupKeyC _ _ (arrOf st').toList[i].1).getD _ = _
    rw [m1, e2, keyC _ hin]
    rfl
  have srt : ∀ i j, i ≤ j → j < qs.length → ltS3 (f (qs.getD j 0)) (f (qs.getD i 0)) = false := by
    intro i j hij hj
    have h1 := hs i j hij (by rw [PyProof.Rows.pairsOf_size, List.length_map]; omega)
    rw [hkk i (by omega), hkk j hj] at h1
    exact h1
  have vals : ∀ l : List Addr, Vals (l.map V.ref) (l.map Value.ref) := fun l => by
    induction l with
    | nil => exact .nil
    | cons b l ih => exact .cons rfl ih
  have hout : ((arrOf st').map (·.2)).toList = qs.map Value.ref := by
    rw [Array.toList_map]
    exact hq1
  have hz2 : (qs.map V.ref).length ≤ sizeLine := by
    rw [List.length_map, hql]
    rw [List.length_map] at hz
    exact hz
  have fresh := I.hok.fresh (Nat.le_succ s.heap.objs.size)
  refine ⟨.ref (s.heap.objs.size + 1), upd H (s.heap.objs.size + 1) (.lst (qs.map V.ref)), ?_, rfl, q qs _ hq2 srt fresh⟩
  refine I.laid (t' := s.toks) (fun b u e => PyProof.Rows.sortedAll_old e) (Nat.le_succ _) ⟨hz2, qs.map Value.ref, e', vals qs, ?_⟩
  rw [← hout, Array.toArray_toList]
  exact he'
end
end Mq

namespace Mq
open PySem PySem.Spec PyProof.Rows L2
/-! ### sorted(xs), xs a list of pairs of texts -/
def Is2 (H : Hp) (b : Addr) : Prop := H b = some (.tup [.str (prOf H b).1, .str (prOf H b).2])
def rSorted2 (K : PySem.W.Frag) : List V → Hp → VK → Prop := fun xs H Q => ∃ (a : Addr) (as : List Addr), xs = [.ref a] ∧ SqL K H a (as.map V.ref) ∧ (∀ b ∈ as, Is2 H b) ∧
  ∀ (qs : List Addr) (p : Addr), qs.Perm as → (∀ i j, i ≤ j → j < qs.length → ltSS (prOf H (qs.getD j 0)) (prOf H (qs.getD i 0)) = false) → H p = none → Q (.ref p) (upd H p (.lst (qs.map V.ref)))
section
variable {X : Cx}
theorem call_sorted2 : CallR X (.builtin "sorted") (rSorted2 X.K) := by
  intro pins s σ H xs us Q I r q
  obtain ⟨a, as, rfl, ha, h3, q⟩ := q
  obtain ⟨u, rfl, rx⟩ := vals1 r
  cases rx
  obtain ⟨its, rv, hl, hz⟩ := I.list ha
  have ei : its = as.map Value.ref := vals_refs rv
  subst ei
  have obj : ∀ b ∈ as, ∃ (ob : Obj) (n : Nat) (t1 t2 : Tok), s.heap.get? b = some ob ∧ ob.cls = .type "tuple" ∧ ob.data = .seq #[.str (prOf H b).1 t1, .str (prOf H b).2 t2] n := by
    intro b hb
    obtain ⟨_, its, r2, ob, h1, h2, n, h4⟩ := (show ObjOk X.prog X.w H s.heap b (.tup [.str (prOf H b).1, .str (prOf H b).2]) from I.hok b _ (h3 b hb))
    cases r2 with
    | cons a1 r2 =>
      cases r2 with
      | cons a2 r2 =>
        cases r2
        obtain ⟨t1, rfl⟩ := a1
        obtain ⟨t2, rfl⟩ := a2
        exact ⟨ob, n, t1, t2, h1, h2, h4⟩
  have tups : ∀ l : List Addr, (∀ b ∈ l, b ∈ as) → ∃ fs, PyProof.Rows.TupsOf s.heap (fun _ => true) (l.map Value.ref) fs := by
    intro l
    induction l with
    | nil => intro _; exact ⟨[], .nil⟩
    | cons b l ih =>
      intro hl
      obtain ⟨fs, hf⟩ := ih fun x hx => hl x (List.mem_cons_of_mem _ hx)
      obtain ⟨ob, n, t1, t2, h1, h2, h4⟩ := obj b (hl b List.mem_cons_self)
      exact ⟨_, .cons ⟨b, ob, _, n, rfl, h1, h2, h4, rfl, fun z => (by cases z), fun _ => ⟨_, _, rfl⟩⟩ hf⟩
  obtain ⟨fs, hfs⟩ := tups as fun _ h => h
  have keyC : ∀ b ∈ as, PyProof.Rows.G.tupKeyC s.heap (fun _ => true) (.ref b) = some (txt2 (prOf H b)) := by
    intro b hb
    obtain ⟨ob, n, t1, t2, h1, h2, h4⟩ := obj b hb
    have hT : PyProof.Rows.G.isTupObj s.heap (.ref b) = true := by
      simp [PyProof.Rows.G.isTupObj, h1, h2]
    unfold PyProof.Rows.G.tupKeyC
    rw [if_pos hT]
    simp only [PyProof.Rows.tupKey, h1, h4]
    rfl
  refine PyProof.Rows.G.sorted_tups (vs := as.map Value.ref) hl.isList hfs (fun v hv => ?_) (by rw [List.length_map] at hz ⊢; exact hz) fun st' hp hs _ => ?_
  · obtain ⟨b, hb, rfl⟩ := List.mem_map.mp hv
    exact ⟨_, keyC b hb⟩
  obtain ⟨e', he'⟩ := PyProof.Rows.sortedAll_at s.heap (as.map Value.ref) ((arrOf st').map (·.2))
  have mem : ∀ p ∈ (arrOf st').toList, p.1 = p.2 ∧ p.1 ∈ as.map Value.ref := fun p hp' => by
    have h1 := (hp.toList.mem_iff (a := p)).mp hp'
    rw [PyProof.Rows.pairsOf_toList] at h1
    exact PyProof.Rows.mem_zip_self h1
  obtain ⟨qs, hq1, hq2⟩ : ∃ qs : List Addr, (arrOf st').toList.map (·.2) = qs.map Value.ref ∧ qs.Perm as := by
    have h1 : ((arrOf st').toList.map (·.2)).Perm (as.map Value.ref) := by
      have h2 := hp.toList.map (fun p : Keyed => p.2)
      rw [PyProof.Rows.pairsOf_toList] at h2
      rw [List.map_snd_zip (Nat.le_refl _)] at h2
      exact h2
    exact perm_back h1
  have hql : qs.length = as.length := hq2.length_eq
  have harr : (arrOf st').toList.length = qs.length := by
    have h1 := congrArg List.length hq1
    rw [List.length_map, List.length_map] at h1
    exact h1
  have hkk : ∀ i, i < qs.length → PyProof.Rows.KK (PyProof.Rows.G.tupKindC s.heap fun _ => true) (arrOf st') i = txt2 (prOf H (qs.getD i 0)) := by
    intro i hi
    have hi' : i < (arrOf st').toList.length := by omega
    have e1 : (arrOf st')[i]? = some (arrOf st').toList[i] := by
      rw [← Array.getElem?_toList, List.getElem?_eq_getElem hi']
    obtain ⟨m1, m2⟩ := mem _ (List.getElem_mem hi')
    have e2 : (arrOf st').toList[i].2 = .ref (qs.getD i 0) := by
      have h1 := congrArg (fun l => l[i]?) hq1
      simp only [List.getElem?_map, List.getElem?_eq_getElem hi', List.getElem?_eq_getElem hi, Option.map_some, Option.some.injEq] at h1
      rw [h1, List.getD_eq_getElem?_getD, List.getElem?_eq_getElem hi]
      rfl
    have hin : qs.getD i 0 ∈ as := hq2.mem_iff.mp (by rw [List.getD_eq_getElem?_getD, List.getElem?_eq_getElem hi]; exact List.getElem_mem hi)
    unfold PyProof.Rows.KK
    rw [e1]
    show (PyProof.Rows.G.tupKeyC _ _ (arrOf st').toList[i].1).getD _ = _
    rw [m1, e2, keyC _ hin]
    rfl
  have srt : ∀ i j, i ≤ j → j < qs.length → ltSS (prOf H (qs.getD j 0)) (prOf H (qs.getD i 0)) = false := by
    intro i j hij hj
    have h1 := hs i j hij (by rw [PyProof.Rows.pairsOf_size, List.length_map]; omega)
    rw [hkk i (by omega), hkk j hj] at h1
    exact h1
  have vals : ∀ l : List Addr, Vals (l.map V.ref) (l.map Value.ref) := fun l => by
    induction l with
    | nil => exact .nil
    | cons b l ih => exact .cons rfl ih
  have hout : ((arrOf st').map (·.2)).toList = qs.map Value.ref := by
    rw [Array.toList_map]
    exact hq1
  have hz2 : (qs.map V.ref).length ≤ sizeLine := by
    rw [List.length_map, hql]
    rw [List.length_map] at hz
    exact hz
  have fresh := I.hok.fresh (Nat.le_succ s.heap.objs.size)
  refine ⟨.ref (s.heap.objs.size + 1), upd H (s.heap.objs.size + 1) (.lst (qs.map V.ref)), ?_, rfl, q qs _ hq2 srt fresh⟩
  refine I.laid (t' := s.toks) (fun b u e => PyProof.Rows.sortedAll_old e) (Nat.le_succ _) ⟨hz2, qs.map Value.ref, e', vals qs, ?_⟩
  rw [← hout, Array.toArray_toList]
  exact he'
end
/-- what stands in order is left as it is -/
theorem perm_asc {α : Type} {r : α → α → Bool} : ∀ {l m : List α}, l.Perm m → l.Pairwise (fun a b => r b a = false) → m.Pairwise (fun a b => r a b = true) → l = m
  | [], m, h, _, _ => h.nil_eq
  | a :: l, [], h, _, _ => h.eq_nil
  | a :: l, b :: m, h, hl, hm => by
    obtain ⟨h1, h2⟩ := List.pairwise_cons.mp hl
    obtain ⟨h3, h4⟩ := List.pairwise_cons.mp hm
    have e : a = b := by
      rcases List.mem_cons.mp (h.mem_iff.mp (List.mem_cons_self (a := a) (l := l))) with e | e
      · exact e
      · rcases List.mem_cons.mp (h.mem_iff.mpr (List.mem_cons_self (a := b) (l := m))) with e2 | e2
        · exact e2.symm
        · have h5 := h1 b e2
          rw [h3 a e] at h5
          cases h5
    subst e
    rw [perm_asc h.cons_inv h2 h4]
theorem lt_first {x y : Str × Str} (h : x.1.cps.toList < y.1.cps.toList) : ltSS x y = true := by
  show (decide (x.1.cps.toList < y.1.cps.toList) || (!decide (y.1.cps.toList < x.1.cps.toList) && (decide (x.2.cps.toList < y.2.cps.toList) || (!decide (y.2.cps.toList < x.2.cps.toList) && false)))) = true
  rw [decide_eq_true h]
  rfl
end Mq

namespace Mq
open PySem PySem.Spec PyProof.Rows L2
open SX (S)
/-! ### data of tuples, texts and numbers: where tuples stay, it stays -/
mutual
inductive Td (K : PySem.W.Frag) (H : Hp) : V → PyData → Prop
  | int (i : Int) : Td K H (.int i) (.int i)
  | str (x : Str) : Td K H (.str x) (.str x)
  | tup {a : Addr} {xs : List V} {ds : List PyData} : SqT K H a xs → TdAll K H xs ds → Td K H (.ref a) (.tuple ds)
inductive TdAll (K : PySem.W.Frag) (H : Hp) : List V → List PyData → Prop
  | nil : TdAll K H [] []
  | cons {v : V} {vs : List V} {d : PyData} {ds : List PyData} : Td K H v d → TdAll K H vs ds → TdAll K H (v :: vs) (d :: ds)
end
section
variable {K : PySem.W.Frag} {H H' : Hp}
mutual
theorem Td.kp (e : ∀ a xs, SqT K H a xs → SqT K H' a xs) : ∀ {v : V} {d : PyData}, Td K H v d → Td K H' v d
  | _, _, .int i => .int i
  | _, _, .str x => .str x
  | _, _, .tup h a => .tup (e _ _ h) (TdAll.kp e a)
theorem TdAll.kp (e : ∀ a xs, SqT K H a xs → SqT K H' a xs) : ∀ {v : List V} {d : List PyData}, TdAll K H v d → TdAll K H' v d
  | _, _, .nil => .nil
  | _, _, .cons a b => .cons (Td.kp e a) (TdAll.kp e b)
end
theorem Td.same (e : Same H H') {v : V} {d : PyData} (h : Td K H v d) : Td K H' v d := h.kp fun _ _ z => Same.tup e z
theorem TdAll.same (e : Same H H') {v : List V} {d : List PyData} (h : TdAll K H v d) : TdAll K H' v d := h.kp fun _ _ z => Same.tup e z
mutual
theorem Td.dg : ∀ {v : V} {d : PyData}, Td K H v d → Dg K H v d
  | _, _, .int i => .int i
  | _, _, .str x => .str x
  | _, _, .tup h a => .tup h (TdAll.dg a)
theorem TdAll.dg : ∀ {v : List V} {d : List PyData}, TdAll K H v d → DgAll K H v d
  | _, _, .nil => .nil
  | _, _, .cons a b => .cons (Td.dg a) (TdAll.dg b)
end
mutual
theorem Td.dp : ∀ {v : V} {d : PyData}, Td K H v d → Dp K H v d
  | _, _, .int i => .int i
  | _, _, .str x => .str x
  | _, _, .tup h a => .tup h (TdAll.dp a)
theorem TdAll.dp : ∀ {v : List V} {d : List PyData}, TdAll K H v d → DpAll K H v d
  | _, _, .nil => .nil
  | _, _, .cons a b => .cons (Td.dp a) (TdAll.dp b)
end
theorem TdAll.len : ∀ {vs : List V} {ds : List PyData}, TdAll K H vs ds → vs.length = ds.length
  | _, _, .nil => rfl
  | _, _, .cons a b => congrArg (· + 1) b.len
theorem TdAll.snoc : ∀ {vs : List V} {ds : List PyData} {v : V} {d : PyData}, TdAll K H vs ds → Td K H v d → TdAll K H (vs ++ [v]) (ds ++ [d])
  | _, _, _, _, .nil, h => .cons h .nil
  | _, _, _, _, .cons a b, h => .cons a (b.snoc h)
theorem TdAll.unsnoc : ∀ {vs : List V} {ds : List PyData} {d : PyData}, TdAll K H vs (ds ++ [d]) → ∃ us v, vs = us ++ [v] ∧ TdAll K H us ds ∧ Td K H v d
  | _, [], _, .cons a .nil => ⟨[], _, rfl, .nil, a⟩
  | _, e :: ds, _, .cons a b => by
    obtain ⟨us, v, rfl, h1, h2⟩ := b.unsnoc
    exact ⟨_ :: us, v, rfl, .cons a h1, h2⟩
theorem TdAll.at : ∀ {vs : List V} {ds : List PyData} {i : Nat} {v : V}, TdAll K H vs ds → vs[i]? = some v → ∃ d, ds[i]? = some d ∧ Td K H v d
  | _, _, 0, _, .cons a b, h => ⟨_, rfl, by cases h; exact a⟩
  | _, _, i + 1, _, .cons a b, h => TdAll.at (i := i) b h
theorem TdAll.of_strs {xs : List Str} : TdAll K H (xs.map V.str) (xs.map PyData.str) := by
  induction xs with
  | nil => exact .nil
  | cons x xs ih => exact .cons (.str x) ih
/-- a tuple of two -/
theorem Td.two {v : V} {d e : PyData} (h : Td K H v (.tuple [d, e])) : ∃ a x y, v = .ref a ∧ SqT K H a [x, y] ∧ Td K H x d ∧ Td K H y e := by
  cases h with
  | tup h a =>
    cases a with
    | cons a b =>
      cases b with
      | cons b c =>
        cases c
        exact ⟨_, _, _, rfl, h, a, b⟩
theorem Td.two' {a : Addr} {x y : V} {d e : PyData} (h : SqT K H a [x, y]) (h1 : Td K H x d) (h2 : Td K H y e) : Td K H (.ref a) (.tuple [d, e]) := .tup h (.cons h1 (.cons h2 .nil))
theorem Td.isStr {v : V} {x : Str} (h : Td K H v (.str x)) : v = .str x := by
  cases h
  rfl
end
/-! ### what can be shown, and how long it is -/
structure ShowOk (d : PyData) : Prop where
  sh : d.showable = true
  de : d.depth ≤ 40
  le : d.shown.length ≤ sizeLine
structure Gd (w n : Nat) (d : PyData) : Prop where
  cl : d.canLay0 = true
  sh : d.showable = true
  de : d.depth ≤ n
  we : d.weight ≤ w
  it : d.intsShort 13 = true
theorem gd_str {l : List Nat} {w : Nat} (h : ∀ c ∈ l, c < 1114112) (hl : l.length ≤ w) : Gd w 0 (.str (S l)) := by
  refine ⟨?_, rfl, Nat.le_refl 0, ?_, rfl⟩
  · show (l.toArray : Array Nat).all (fun d => decide (d < 1114112)) = true
    rw [List.all_toArray]
    exact List.all_eq_true.mpr fun c hc => decide_eq_true (h c hc)
  · show (S l).length ≤ w
    rw [SX.S_len]
    exact hl
theorem gd_int {k : Nat} (h : k ≤ 1000) : Gd 20 0 (.int (k : Nat)) := by
  obtain ⟨a, b, c⟩ := small_short k h
  exact ⟨rfl, b, Nat.le_refl 0, c, by show decide _ = true; exact decide_eq_true a⟩
theorem Gd.mono {w n w' n' : Nat} {d : PyData} (h : Gd w n d) (hw : w ≤ w') (hn : n ≤ n') : Gd w' n' d := ⟨h.cl, h.sh, Nat.le_trans h.de hn, Nat.le_trans h.we hw, h.it⟩
theorem gd_all {w n : Nat} : ∀ {ds : List PyData}, (∀ d ∈ ds, Gd w n d) → PyData.canLayAll0 ds = true ∧ PyData.showableAll ds = true ∧ PyData.depthAll ds ≤ n ∧ PyData.weightAll ds ≤ ds.length * (w + 1) ∧ PyData.intsShortAll 13 ds = true
  | [], _ => ⟨rfl, rfl, Nat.zero_le _, Nat.zero_le _, rfl⟩
  | d :: ds, h => by
    obtain ⟨a, b, c, e, f⟩ := gd_all fun x hx => h x (List.mem_cons_of_mem _ hx)
    have g := h d List.mem_cons_self
    refine ⟨?_, ?_, ?_, ?_, ?_⟩
    · show (d.canLay0 && PyData.canLayAll0 ds) = true
      rw [g.cl, a]
      rfl
    · show (d.showable && PyData.showableAll ds) = true
      rw [g.sh, b]
      rfl
    · exact Nat.max_le.mpr ⟨g.de, c⟩
    · show d.weight + 1 + PyData.weightAll ds ≤ (ds.length + 1) * (w + 1)
      have := g.we
      rw [Nat.add_mul, Nat.one_mul]
      omega
    · show (d.intsShort 13 && PyData.intsShortAll 13 ds) = true
      rw [g.it, f]
      rfl
theorem gd_tup {w n m : Nat} {ds : List PyData} (h : ∀ d ∈ ds, Gd w n d) (hl : ds.length ≤ m) : Gd (m * (w + 1)) (n + 1) (.tuple ds) := by
  obtain ⟨a, b, c, e, f⟩ := gd_all h
  exact ⟨a, b, Nat.succ_le_succ c, Nat.le_trans e (Nat.mul_le_mul_right _ hl), f⟩
theorem gd_lst {w n m : Nat} {ds : List PyData} (h : ∀ d ∈ ds, Gd w n d) (hl : ds.length ≤ m) : Gd (m * (w + 1)) (n + 1) (.list ds) := by
  obtain ⟨a, b, c, e, f⟩ := gd_all h
  exact ⟨a, b, Nat.succ_le_succ c, Nat.le_trans e (Nat.mul_le_mul_right _ hl), f⟩
theorem Gd.ok {w n : Nat} {d : PyData} (h : Gd w n d) (hw : w ≤ 1000000) (hn : n ≤ 40) : ShowOk d :=
  ⟨h.sh, Nat.le_trans h.de hn, shown_fits h.cl (Nat.le_trans h.de (Nat.le_trans hn (by decide))) (Nat.le_trans h.we hw) h.it⟩
end Mq

namespace Mq
open PySem PySem.Spec PyProof.Rows L2
open SX (S)
/-! ### signs of what is shown -/
def Low (x : Str) : Prop := ∀ c ∈ x.cps.toList, c < 16 ^ 8
theorem low_of (s : String) : Low (Str.ofString s) := by
  intro c hc
  rw [Str.ofString_eq_toList] at hc
  obtain ⟨d, _, rfl⟩ := List.mem_map.mp (by simpa using hc : c ∈ s.toList.map Char.toNat)
  have h : d.toNat < 4294967296 := d.val.toBitVec.isLt
  exact Nat.lt_of_lt_of_le h (by decide)
theorem low_app {x y : Str} (hx : Low x) (hy : Low y) : Low (x ++ y) := by
  intro c hc
  have e : (x ++ y).cps.toList = x.cps.toList ++ y.cps.toList := Array.toList_append ..
  rw [e] at hc
  exact (List.mem_append.mp hc).elim (hx c) (hy c)
theorem low_join {sep : Str} (hs : Low sep) : ∀ ts : List Str, (∀ t ∈ ts, Low t) → Low (Str.join sep ts)
  | [], _ => fun c hc => by cases (by simpa [Str.join, Str.empty] using hc : False)
  | [x], h => h x List.mem_cons_self
  | x :: y :: r, h => low_app (low_app (h x List.mem_cons_self) hs) (low_join hs (y :: r) fun t ht => h t (List.mem_cons_of_mem _ ht))
theorem low_from : ∀ (ts : List Str) (k : Nat) (acc : Str), Low acc → (∀ t ∈ ts, Low t) → Low (textFrom k acc ts)
  | [], _, _, h, _ => h
  | t :: r, k, acc, h, ht => by
    refine low_from r (k + 1) _ (low_app (low_app h ?_) (ht t List.mem_cons_self)) fun u hu => ht u (List.mem_cons_of_mem _ hu)
    exact low_of _
theorem low_digits {c : Nat} : ∀ d ∈ (Nat.toDigits 16 c).map Char.toNat, d < 16 ^ 8 := by
  intro d hd
  obtain ⟨e, _, rfl⟩ := List.mem_map.mp hd
  have h : e.toNat < 4294967296 := e.val.toBitVec.isLt
  exact Nat.lt_of_lt_of_le h (by decide)
theorem low_char {q c : Nat} (hc : c < 16 ^ 8) : ∀ d ∈ Builtin.Str.reprChar q c, d < 16 ^ 8 := by
  have hx : ∀ w : Nat, ∀ d ∈ List.replicate (w - ((Nat.toDigits 16 c).map Char.toNat).length) 48 ++ (Nat.toDigits 16 c).map Char.toNat, d < 16 ^ 8 := by
    intro w d hd
    rcases List.mem_append.mp hd with h | h
    · rw [(List.mem_replicate.mp h).2]
      decide
    · exact low_digits d h
  have two : ∀ a b : Nat, a < 16 ^ 8 → b < 16 ^ 8 → ∀ d ∈ [a, b], d < 16 ^ 8 := by
    intro a b ha hb d hd
    simp only [List.mem_cons, List.not_mem_nil, or_false] at hd
    rcases hd with rfl | rfl
    · exact ha
    · exact hb
  have both : ∀ (a b : List Nat), (∀ d ∈ a, d < 16 ^ 8) → (∀ d ∈ b, d < 16 ^ 8) → ∀ d ∈ a ++ b, d < 16 ^ 8 := fun a b ha hb d hd => (List.mem_append.mp hd).elim (ha d) (hb d)
  unfold Builtin.Str.reprChar
  dsimp only
  split
  · exact two _ _ (by decide) hc
  split
  · exact two _ _ (by decide) (by decide)
  split
  · exact two _ _ (by decide) (by decide)
  split
  · exact two _ _ (by decide) (by decide)
  split
  · intro d hd
    rw [List.mem_singleton.mp hd]
    exact hc
  split
  · exact both _ _ (two _ _ (by decide) (by decide)) (hx 2)
  split
  · exact both _ _ (two _ _ (by decide) (by decide)) (hx 4)
  · exact both _ _ (two _ _ (by decide) (by decide)) (hx 8)
theorem low_fold (q : Nat) : ∀ (l : List Nat) (acc : Array Nat), (∀ c ∈ l, c < 16 ^ 8) → (∀ c ∈ acc.toList, c < 16 ^ 8) → ∀ c ∈ (l.foldl (fun out c => out ++ (Builtin.Str.reprChar q c).toArray) acc).toList, c < 16 ^ 8
  | [], acc, _, h => h
  | c :: l, acc, hl, h => by
    refine low_fold q l _ (fun d hd => hl d (List.mem_cons_of_mem _ hd)) fun d hd => ?_
    rw [Array.toList_append] at hd
    rcases List.mem_append.mp hd with hd | hd
    · exact h d hd
    · exact low_char (hl c List.mem_cons_self) d hd
theorem low_quote (x : Str) : reprQuote x < 16 ^ 8 := by
  unfold reprQuote
  split <;> decide
theorem low_repr {x : Str} (h : Low x) : Low (reprText x) := by
  intro c hc
  unfold reprText at hc
  have hc : c ∈ ((x.cps.foldl (fun out c => out ++ (Builtin.Str.reprChar (reprQuote x) c).toArray) #[reprQuote x]).push (reprQuote x)).toList := hc
  rw [Array.toList_push, ← Array.foldl_toList] at hc
  rcases List.mem_append.mp hc with hc | hc
  · refine low_fold _ _ _ h (fun d hd => ?_) c hc
    have hd : d ∈ [reprQuote x] := hd
    rw [List.mem_singleton.mp hd]
    exact low_quote x
  · rw [List.mem_singleton.mp hc]
    exact low_quote x
mutual
theorem low_shown {B : Nat} : ∀ d : PyData, d.leavesShort B = true → Low d.shown
  | .none, _ => low_of "None"
  | .bool true, _ => low_of "True"
  | .bool false, _ => low_of "False"
  | .int i, _ => low_of _
  | .str x, h => by
    have hx : ∀ c ∈ x.cps.toList, c < 16 ^ 8 := by simpa only [PyData.leavesShort, List.all_eq_true, decide_eq_true_eq] using h
    exact low_repr hx
  | .list xs, h => by
    have h1 := low_all xs (by simpa only [PyData.leavesShort] using h)
    show Low (listText (PyData.shownAll xs))
    unfold listText
    exact low_app (low_from _ 0 _ (low_of "[") h1) (low_of "]")
  | .tuple xs, h => by
    have h1 := low_all xs (by simpa only [PyData.leavesShort] using h)
    show Low (tupleText (PyData.shownAll xs))
    unfold tupleText
    exact low_app (low_app (low_of "(") (low_join (low_of ", ") _ h1)) (low_of _)
  | .dict kvs, h => by
    have h1 := low_kv kvs (by simpa only [PyData.leavesShort] using h)
    show Low (dictText (PyData.shownKv kvs))
    unfold dictText
    exact low_app (low_app (low_of "{") (low_join (low_of ", ") _ h1)) (low_of "}")
theorem low_all {B : Nat} : ∀ xs : List PyData, PyData.leavesShortAll B xs = true → ∀ t ∈ PyData.shownAll xs, Low t
  | [], _ => fun t ht => by cases ht
  | x :: xs, h => by
    have h' : x.leavesShort B = true ∧ PyData.leavesShortAll B xs = true := by simpa only [PyData.leavesShortAll, Bool.and_eq_true] using h
    have h1 := low_shown x h'.1
    have h2 := low_all xs h'.2
    intro t ht
    rcases List.mem_cons.mp (show t ∈ x.shown :: PyData.shownAll xs from ht) with rfl | ht
    · exact h1
    · exact h2 t ht
theorem low_kv {B : Nat} : ∀ kvs : List (PyData × PyData), PyData.leavesShortKv B kvs = true → ∀ t ∈ PyData.shownKv kvs, Low t
  | [], _ => fun t ht => by cases ht
  | (k, v) :: r, h => by
    have h' : (k.leavesShort B = true ∧ v.leavesShort B = true) ∧ PyData.leavesShortKv B r = true := by simpa only [PyData.leavesShortKv, Bool.and_eq_true] using h
    have h1 := low_shown k h'.1.1
    have h2 := low_shown v h'.1.2
    have h3 := low_kv r h'.2
    intro t ht
    rcases List.mem_cons.mp (show t ∈ (k.shown ++ ": " ++ v.shown) :: PyData.shownKv r from ht) with rfl | ht
    · exact low_app (low_app h1 (low_of ": ")) h2
    · exact h3 t ht
end
/-! ### bounds, dicts and long numbers among them -/
structure Gs (w n : Nat) (d : PyData) : Prop where
  sh : d.showable = true
  de : d.depth ≤ n
  we : d.weight ≤ w
  le : d.leavesShort 60 = true
def gsB (w n : Nat) (d : PyData) : Bool := d.showable && (decide (d.depth ≤ n) && (decide (d.weight ≤ w) && d.leavesShort 60))
theorem gs_of {w n : Nat} {d : PyData} (h : gsB w n d = true) : Gs w n d := by
  obtain ⟨a, h⟩ := Bool.and_eq_true_iff.mp h
  obtain ⟨b, h⟩ := Bool.and_eq_true_iff.mp h
  obtain ⟨c, e⟩ := Bool.and_eq_true_iff.mp h
  exact ⟨a, of_decide_eq_true b, of_decide_eq_true c, e⟩
theorem Gs.mono {w n w' n' : Nat} {d : PyData} (h : Gs w n d) (hw : w ≤ w') (hn : n ≤ n') : Gs w' n' d := ⟨h.sh, Nat.le_trans h.de hn, Nat.le_trans h.we hw, h.le⟩
theorem Gs.len {w n : Nat} {d : PyData} (h : Gs w n d) : d.shown.length ≤ 62 * w + 60 := by
  have h1 := PyData.shown_le 60 (by decide) d h.le
  have h2 := h.we
  omega
theorem Gs.ok {w n : Nat} {d : PyData} (h : Gs w n d) (hw : w ≤ 200000) (hn : n ≤ 40) : ShowOk d :=
  ⟨h.sh, Nat.le_trans h.de hn, by have := h.len; rw [sizeLine_eq]; omega⟩
theorem gs_str {l : List Nat} {w : Nat} (h : ∀ c ∈ l, c < 1114112) (hl : l.length ≤ w) : Gs w 0 (.str (S l)) := by
  refine ⟨rfl, Nat.le_refl 0, ?_, ?_⟩
  · show (S l).length ≤ w
    rw [SX.S_len]
    exact hl
  · show (l.toArray.toList.all fun c => decide (c < 16 ^ 8)) = true
    refine List.all_eq_true.mpr fun c hc => decide_eq_true ?_
    exact Nat.lt_of_lt_of_le (h c (by simpa using hc)) (by decide)
theorem Gs.shown {w n : Nat} {d : PyData} (h : Gs w n d) : Gs (62 * w + 60) 0 (.str d.shown) := by
  refine ⟨rfl, Nat.le_refl 0, h.len, ?_⟩
  show (d.shown.cps.toList.all fun c => decide (c < 16 ^ 8)) = true
  exact List.all_eq_true.mpr fun c hc => decide_eq_true (low_shown d h.le c hc)
theorem gs_all {w n : Nat} : ∀ {ds : List PyData}, (∀ d ∈ ds, Gs w n d) → PyData.showableAll ds = true ∧ PyData.depthAll ds ≤ n ∧ PyData.weightAll ds ≤ ds.length * (w + 1) ∧ PyData.leavesShortAll 60 ds = true
  | [], _ => ⟨rfl, Nat.zero_le _, Nat.zero_le _, rfl⟩
  | d :: ds, h => by
    obtain ⟨b, c, e, f⟩ := gs_all fun x hx => h x (List.mem_cons_of_mem _ hx)
    have g := h d List.mem_cons_self
    refine ⟨?_, ?_, ?_, ?_⟩
    · show (d.showable && PyData.showableAll ds) = true
      rw [g.sh, b]
      rfl
    · exact Nat.max_le.mpr ⟨g.de, c⟩
    · show d.weight + 1 + PyData.weightAll ds ≤ (ds.length + 1) * (w + 1)
      have := g.we
      rw [Nat.add_mul, Nat.one_mul]
      omega
    · show (d.leavesShort 60 && PyData.leavesShortAll 60 ds) = true
      rw [g.le, f]
      rfl
theorem gs_tup {w n m : Nat} {ds : List PyData} (h : ∀ d ∈ ds, Gs w n d) (hl : ds.length ≤ m) : Gs (m * (w + 1)) (n + 1) (.tuple ds) := by
  obtain ⟨b, c, e, f⟩ := gs_all h
  exact ⟨b, Nat.succ_le_succ c, Nat.le_trans e (Nat.mul_le_mul_right _ hl), f⟩
theorem gs_lst {w n m : Nat} {ds : List PyData} (h : ∀ d ∈ ds, Gs w n d) (hl : ds.length ≤ m) : Gs (m * (w + 1)) (n + 1) (.list ds) := by
  obtain ⟨b, c, e, f⟩ := gs_all h
  exact ⟨b, Nat.succ_le_succ c, Nat.le_trans e (Nat.mul_le_mul_right _ hl), f⟩
theorem gs_bool {w n : Nat} (b : Bool) : Gs w n (.bool b) := ⟨rfl, Nat.zero_le _, Nat.zero_le _, rfl⟩
/-! ### data whose lists and dicts stand at told places: it stays where these stay -/
mutual
inductive Dv (K : PySem.W.Frag) (N : Addr → Prop) (H : Hp) : V → PyData → Prop
  | non : Dv K N H .non .none
  | bl (b : Bool) : Dv K N H (.bl b) (.bool b)
  | int (i : Int) : Dv K N H (.int i) (.int i)
  | str (x : Str) : Dv K N H (.str x) (.str x)
  | lst {a : Addr} {xs : List V} {ds : List PyData} : N a → a ≠ sysModules → H a = some (.lst xs) → DvAll K N H xs ds → Dv K N H (.ref a) (.list ds)
  | tup {a : Addr} {xs : List V} {ds : List PyData} : SqT K H a xs → DvAll K N H xs ds → Dv K N H (.ref a) (.tuple ds)
  | dct {a : Addr} : N a → H a = some (.dK []) → Dv K N H (.ref a) (.dict [])
inductive DvAll (K : PySem.W.Frag) (N : Addr → Prop) (H : Hp) : List V → List PyData → Prop
  | nil : DvAll K N H [] []
  | cons {v : V} {vs : List V} {d : PyData} {ds : List PyData} : Dv K N H v d → DvAll K N H vs ds → DvAll K N H (v :: vs) (d :: ds)
end
section
variable {K : PySem.W.Frag} {N N' : Addr → Prop} {H H' : Hp}
mutual
theorem Dv.kp (e1 : ∀ a o, N a → H a = some o → H' a = some o) (e2 : ∀ a xs, SqT K H a xs → SqT K H' a xs) : ∀ {v : V} {d : PyData}, Dv K N H v d → Dv K N H' v d
  | _, _, .non => .non
  | _, _, .bl b => .bl b
  | _, _, .int i => .int i
  | _, _, .str x => .str x
  | _, _, .lst n m h a => .lst n m (e1 _ _ n h) (DvAll.kp e1 e2 a)
  | _, _, .tup h a => .tup (e2 _ _ h) (DvAll.kp e1 e2 a)
  | _, _, .dct n h => .dct n (e1 _ _ n h)
theorem DvAll.kp (e1 : ∀ a o, N a → H a = some o → H' a = some o) (e2 : ∀ a xs, SqT K H a xs → SqT K H' a xs) : ∀ {v : List V} {d : List PyData}, DvAll K N H v d → DvAll K N H' v d
  | _, _, .nil => .nil
  | _, _, .cons a b => .cons (Dv.kp e1 e2 a) (DvAll.kp e1 e2 b)
end
mutual
theorem Dv.mono (e : ∀ a, N a → N' a) : ∀ {v : V} {d : PyData}, Dv K N H v d → Dv K N' H v d
  | _, _, .non => .non
  | _, _, .bl b => .bl b
  | _, _, .int i => .int i
  | _, _, .str x => .str x
  | _, _, .lst n m h a => .lst (e _ n) m h (DvAll.mono e a)
  | _, _, .tup h a => .tup h (DvAll.mono e a)
  | _, _, .dct n h => .dct (e _ n) h
theorem DvAll.mono (e : ∀ a, N a → N' a) : ∀ {v : List V} {d : List PyData}, DvAll K N H v d → DvAll K N' H v d
  | _, _, .nil => .nil
  | _, _, .cons a b => .cons (Dv.mono e a) (DvAll.mono e b)
end
mutual
theorem Dv.dg : ∀ {v : V} {d : PyData}, Dv K N H v d → Dg K H v d
  | _, _, .non => .non
  | _, _, .bl b => .bl b
  | _, _, .int i => .int i
  | _, _, .str x => .str x
  | _, _, .lst _ m h a => .lst m (SqL.of h) (DvAll.dg a)
  | _, _, .tup h a => .tup h (DvAll.dg a)
  | _, _, .dct n h => .dct h .nil
theorem DvAll.dg : ∀ {v : List V} {d : List PyData}, DvAll K N H v d → DgAll K H v d
  | _, _, .nil => .nil
  | _, _, .cons a b => .cons (Dv.dg a) (DvAll.dg b)
end
mutual
theorem Td.dv : ∀ {v : V} {d : PyData}, Td K H v d → Dv K N H v d
  | _, _, .int i => .int i
  | _, _, .str x => .str x
  | _, _, .tup h a => .tup h (TdAll.dv a)
theorem TdAll.dv : ∀ {v : List V} {d : List PyData}, TdAll K H v d → DvAll K N H v d
  | _, _, .nil => .nil
  | _, _, .cons a b => .cons (Td.dv a) (TdAll.dv b)
end
theorem Dv.same (e : Same H H') {v : V} {d : PyData} (h : Dv K N H v d) : Dv K N H' v d := h.kp (fun a o _ z => e a o z) fun _ _ z => Same.tup e z
theorem DvAll.same (e : Same H H') {v : List V} {d : List PyData} (h : DvAll K N H v d) : DvAll K N H' v d := h.kp (fun a o _ z => e a o z) fun _ _ z => Same.tup e z
theorem DvAll.len : ∀ {vs : List V} {ds : List PyData}, DvAll K N H vs ds → vs.length = ds.length
  | _, _, .nil => rfl
  | _, _, .cons a b => congrArg (· + 1) b.len
theorem DvAll.app : ∀ {vs us : List V} {ds es : List PyData}, DvAll K N H vs ds → DvAll K N H us es → DvAll K N H (vs ++ us) (ds ++ es)
  | _, _, _, _, .nil, h => h
  | _, _, _, _, .cons a b, h => .cons a (b.app h)
theorem DvAll.at : ∀ {vs : List V} {ds : List PyData} {i : Nat} {v : V}, DvAll K N H vs ds → vs[i]? = some v → ∃ d, ds[i]? = some d ∧ Dv K N H v d
  | _, _, 0, _, .cons a b, h => ⟨_, rfl, by cases h; exact a⟩
  | _, _, i + 1, _, .cons a b, h => DvAll.at (i := i) b h
theorem DvAll.mem {vs : List V} {ds : List PyData} {v : V} (h : DvAll K N H vs ds) (hv : v ∈ vs) : ∃ d ∈ ds, Dv K N H v d := by
  obtain ⟨i, hi, e⟩ := List.getElem_of_mem hv
  obtain ⟨d, h1, h2⟩ := h.at (i := i) (by rw [List.getElem?_eq_getElem hi, e])
  exact ⟨d, List.mem_of_getElem? h1, h2⟩
end
/-! ### capital letters -/
theorem upper_low (l : List Nat) (h : ∀ c ∈ l, c < 128) : ∃ u : List Nat, Txt.upper (S l) = S u ∧ u.length = l.length ∧ ∀ c ∈ u, c < 128 := by
  have h1 : ((List.range 128).all fun c => match Unicode.upperOf c with | [d] => decide (d < 128) | _ => false) = true := by decide +kernel
  have h2 : ∀ c, c < 128 → ∃ d, Unicode.upperOf c = [d] ∧ d < 128 := by
    intro c hc
    have h3 := List.all_eq_true.mp h1 c (List.mem_range.mpr hc)
    split at h3
    · rename_i d e
      exact ⟨d, e, of_decide_eq_true h3⟩
    · cases h3
  refine ⟨l.map fun c => (Unicode.upperOf c).headD 0, ?_, List.length_map .., ?_⟩
  · have e1 : (placed (S l) fun _ c => Unicode.upperOf c).toList = l.map fun c => (Unicode.upperOf c).headD 0 := by
      unfold placed
      rw [Array.toList_flatten, Array.toList_mapIdx]
      show ((List.mapIdx (fun (_ : Nat) (c : Nat) => (Unicode.upperOf c).toArray) l).map Array.toList).flatten = _
      rw [show ((List.mapIdx (fun (_ : Nat) (c : Nat) => (Unicode.upperOf c).toArray) l).map Array.toList) = l.map Unicode.upperOf from ?_]
      · clear h1
        induction l with
        | nil => rfl
        | cons c l ih =>
          obtain ⟨d, hd, _⟩ := h2 c (h c List.mem_cons_self)
          rw [List.map_cons, List.flatten_cons, List.map_cons, ih fun x hx => h x (List.mem_cons_of_mem _ hx), hd]
          rfl
      · refine List.ext_getElem? fun i => ?_
        rw [List.getElem?_map, List.getElem?_mapIdx, List.getElem?_map, Option.map_map]
        rfl
    show Str.mk _ = Str.mk _
    exact congrArg Str.mk (Array.toList_inj.mp e1)
  · intro c hc
    obtain ⟨d, hd, rfl⟩ := List.mem_map.mp hc
    obtain ⟨e, h3, h4⟩ := h2 d (h d hd)
    rw [h3]
    exact h4
end Mq

namespace Mq
open PySem PySem.Spec PyProof.Rows L2
/-! ### text.replace(c, d) of two written texts, behind a first item that gives out a token -/
section
variable {X : Cx}
theorem pat_of {es : List Expr} {t : TA} (h : PA X es t) : PAT X es t := fun pos pins s σ H Q _ I q => h.run pos pins s σ H Q I q
theorem pet_of {e : Expr} {t : TE} (h : PE X e t) : PET X e t := fun pins s σ H Q _ I q => h.run pins s σ H Q I q
/-- [a op 'c', ..]: behind the first item a token is out -/
theorem pa_consT {op : Operator} {r : R2} {a : Expr} {c : Str} {j : Nat} {es : List Expr} {ta : TE} {t : TA} {cp pos : Pos} (ho : OpR X (binaryOp op) r) (ha : PE X a ta) (hr : PAT X es t)
    (hs : starEach (.BinOp a op (.Constant (.str c) j cp) pos :: es) X.env = (false, eval (.BinOp a op (.Constant (.str c) j cp) pos) X.env) :: starEach es X.env := by rfl) :
    PA X (.BinOp a op (.Constant (.str c) j cp) pos :: es) (tCons (tOp r ta (tC (.str c))) t) := by
  refine ⟨fun pos2 pins s σ H Q I h => ?_⟩
  rw [hs]
  show wpAny _ _ (spliced ((false, eval (.BinOp a op (.Constant (.str c) j cp) pos) X.env) :: backTo pos2 (starEach es X.env))) _ _ s
  refine Calls.spliced_cons (wpAny_BinOp (thn (ha.run pins s σ H _ I h) fun v s1 ⟨x, H1, I1, r1, q1⟩ => ?_))
  refine Calls.Constant_str ?_
  have I2 := I1.tok (s1.toks + 1)
  refine wpAny_mono (PySem.wpAny_toks (ho pins _ σ H1 x (.str c) v _ _ I2 r1 ⟨_, rfl⟩ q1)) (fun u s3 hq => ?_) fun _ _ z => z.2
  obtain ⟨hk, y, H3, I3, r3, q3⟩ := hq
  have hk' : s1.toks + 1 ≤ s3.toks := hk
  exact thn (hr pos2 pins s3 σ H3 _ (by omega) I3 q3) fun us s4 ⟨xs, H4, I4, r4, q4⟩ => ⟨y :: xs, H4, I4, .cons r3 r4, q4⟩
def tRepC (ik : Nat) (y z : Str) : TE := fun σ H Q => ∃ x, σ[ik]? = some (some (.str x)) ∧ x.length + (x.length + 1) * z.length ≤ 16777216 ∧ Q (.str (Txt.replace x y z)) H
theorem pet_repC {ik j0 j1 : Nat} {kx y z : Str} {p1 c0 c1 apos pos : Pos} (hNk : X.N[ik]? = some kx) (hvk : Vis X.env.scope kx) (hyz : (y == z) = false)
    (hdk : (kx == ("__debug__" : Str)) = false := by decide) (hck : (kx == ("__classdict__" : Str)) = false := by decide)
    (hst : starEach [.Constant (.str y) j0 c0, .Constant (.str z) j1 c1] X.env = [(false, eval (.Constant (.str y) j0 c0) X.env), (false, eval (.Constant (.str z) j1 c1) X.env)] := by rfl)
    (hbase : attributeBase (.Name kx p1) "replace" X.env (eval (.Name kx p1) X.env) = eval (.Name kx p1) X.env := by rfl) (hline : (apos.endLine == pos.line) = true := by rfl) :
    PET X (.Call (.Attribute (.Name kx p1) "replace" apos) [.Constant (.str y) j0 c0, .Constant (.str z) j1 c1] [] pos) (tRepC ik y z) := by
  intro pins s σ H Q h0 I h
  obtain ⟨x, hx, hb, q⟩ := h
  refine PySem.Call_method2 hbase hst hline (raw_name hNk hvk I hx (fun v r => ?_) hdk hck)
  obtain ⟨tx, e⟩ := r
  subst e
  refine ⟨"str", _, F.plainAttrs_str, F.slot_str_replace, F.type_str_replace, typeIs_str _ _ _, (fun _ e => nomatch e), Calls.callWith_builtin rfl (Calls.evalArgs_plain (Calls.spliced_cons ?_))⟩
  refine Calls.Constant_str (Calls.spliced_cons (Calls.Constant_str (Calls.spliced_nil ?_)))
  exact PySem.SC.replace (show s.toks ≠ 0 by omega) (show s.toks + 1 ≠ 0 by omega) (show s.toks ≠ s.toks + 1 by omega) hyz hb fun t' k => ⟨.str (Txt.replace x y z), H, I.tok k, ⟨t', rfl⟩, q⟩
end
end Mq

namespace Lw
open PySem PySem.Spec PyProof.Rows L2 Mq
open SX (S)
theorem PT_imp {X : Cx} {e : Expr} {t t' : TT} (h : PT X e t) (i : ∀ σ H Q, t' σ H Q → t σ H Q) : PT X e t' := ⟨fun pins s σ H Q I q => h.run pins s σ H Q I (i σ H Q q)⟩
def KpT (K : PySem.W.Frag) (H H' : Hp) : Prop := ∀ a xs, SqT K H a xs → SqT K H' a xs
theorem KpT.trans {K : PySem.W.Frag} {H H' H'' : Hp} (a : KpT K H H') (b : KpT K H' H'') : KpT K H H'' := fun x y h => b x y (a x y h)
theorem KpT.off {K : PySem.W.Frag} {D C : Addr} {T : Nat} {H H' : Hp} (f : Off D C H H') (k : DeckAt D C T H) : KpT K H H' := fun _ _ h => f.tup k h
theorem KpT.same {K : PySem.W.Frag} {H H' : Hp} (e : Same H H') : KpT K H H' := fun _ _ h => Same.tup e h
theorem KpT.lst {K : PySem.W.Frag} {H : Hp} {L : Addr} {xs ys : List V} (h : H L = some (.lst xs)) : KpT K H (upd H L (.lst ys)) := by
  intro a zs hz
  have ne : ∀ {o : HO}, H a = some o → (∀ xs, o ≠ .lst xs) → upd H L (.lst ys) a = some o := by
    intro o e n
    by_cases q : a = L
    · subst q
      rw [h] at e
      cases e
      exact (n _ rfl).elim
    · exact (upd_ne q).trans e
  rcases hz with (hz | ⟨o, hz⟩) | hz
  · exact Or.inl (Or.inl (ne hz fun _ z => nomatch z))
  · exact Or.inl (Or.inr ⟨o, ne hz fun _ z => nomatch z⟩)
  · exact Or.inr hz
def letB (sg : List Nat) : List Nat → Bool
  | [c] => decide (c ∈ sg)
  | _ => false
theorem S_dec (a b : List Nat) : decide (V.str (S a) = V.str (S b)) = decide (a = b) := by
  refine decide_eq_decide.mpr ⟨fun h => SX.S_inj (V.str.inj h), fun h => by rw [h]⟩
theorem int_ne {n m : Nat} (h : n ≠ m) : (!decide (V.int (n : Nat) = V.int (m : Nat))) = true := by
  rw [Bool.not_eq_true']
  exact decide_eq_false fun z => h (Int.ofNat.inj (V.int.inj z))
theorem letB_one {sg a : List Nat} (h : letB sg a = true) : ∃ c, a = [c] ∧ c ∈ sg := by
  match a, h with
  | [c], h => exact ⟨c, rfl, of_decide_eq_true h⟩
def NoTx (K : PySem.W.Frag) (H : Hp) (v : V) : Prop := ∃ c, TyX K H v c ∧ PySem.W.kitOne K c (.type "str") = some false
def lineD (d : Addr) (k : Nat) (H : Hp) : Hp := upd H d (.xd [("line", .int (k : Nat))])
theorem map_SV (ws : List (List Nat)) : (ws.map S).map V.str = ws.map fun l => V.str (S l) := by rw [List.map_map]; rfl
theorem at_line {ws : List (List Nat)} {i : Nat} {l : List Nat} (h : ws[i]? = some l) : atI (ws.map fun l => V.str (S l)) (i : Nat) = some (.str (S l)) := atI_nat (by rw [List.getElem?_map, h]; rfl)
theorem cut_from (xs : List V) (k : Nat) : cutV xs (some ((k : Nat) : Int)) none = xs.drop k := by
  unfold cutV
  rw [HT.sIx_nat, HT.sIx_none]
  by_cases h : k ≤ xs.length
  · rw [Nat.min_eq_left h, List.take_of_length_le (by rw [List.length_drop]; exact Nat.le_refl _)]
  · rw [Nat.min_eq_right (by omega), List.drop_of_length_le (Nat.le_refl _), List.drop_of_length_le (by omega), List.take_nil]
theorem cut_tail (l : V) (xs : List V) : cutV (l :: xs) (some 1) none = xs := cut_from (l :: xs) 1
theorem push_same {H0 H : Hp} {L : Addr} {o : HO} (hn : H0 L = none) (s : Same H0 H) : Same H0 (upd H L o) := by
  intro b u e
  rw [upd_ne (ne_of_none e hn)]
  exact s b u e
def orDash (z : List Nat) : List Nat := if z = [] then [45] else z
theorem app_le {a b : Str} {m n : Nat} (h : a.length ≤ m) (k : b.length ≤ n) : (a ++ b).length ≤ m + n := by
  have e : (a ++ b).length = a.length + b.length := Array.size_append ..
  omega
theorem S_le {l : List Nat} {n : Nat} (h : l.length ≤ n) : (S l).length ≤ n := by rw [SX.S_len]; exact h
theorem sum_le {ps : List (List Nat)} {n : Nat} (h : ∀ p ∈ ps, p.length ≤ n) : ((ps.map S).map (·.length)).sum ≤ ps.length * n := by
  induction ps with
  | nil => exact Nat.zero_le _
  | cons p ps ih =>
    rw [List.map_cons, List.map_cons, List.sum_cons, List.length_cons, Nat.succ_mul]
    have h1 := ih fun q hq => h q (List.mem_cons_of_mem _ hq)
    have h2 := h p List.mem_cons_self
    rw [SX.S_len]
    omega
theorem getD_mem {l : List Nat} {a : Nat} (ha : a < l.length) : l.getD a 0 ∈ l := by
  rw [List.getD_eq_getElem?_getD, List.getElem?_eq_getElem ha]
  exact List.getElem_mem ha
theorem new_ne {D C : Addr} {T : Nat} {H : Hp} {q : Addr} (k : DeckAt D C T H) (h : H q = none) : q ≠ D ∧ q ≠ C := by
  obtain ⟨_, _, _, e1, e2, _⟩ := k.ex
  refine ⟨?_, ?_⟩
  · rintro rfl
    rw [h] at e1
    cases e1
  · rintro rfl
    rw [h] at e2
    cases e2
theorem deck_lst {D C L : Addr} {T : Nat} {H : Hp} {o : HO} (k : DeckAt D C T H) (h1 : L ≠ D) (h2 : L ≠ C) : DeckAt D C T (upd H L o) := by
  obtain ⟨m, t, js, a, b, c, d⟩ := k.ex
  exact ⟨m, t, js, (upd_ne (Ne.symm h1)).trans a, (upd_ne (Ne.symm h2)).trans b, c, d⟩
theorem off_lst {D C L : Addr} {H H' : Hp} {o : HO} (e : Off D C H H') (h : H L = none) : Off D C H (upd H' L o) := by
  intro b u h1 h2 e2
  rw [upd_ne (ne_of_none e2 h)]
  exact e b u h1 h2 e2
theorem S_one {c d : Nat} : S [c] = S [d] ↔ c = d := ⟨fun h => by have := SX.S_inj h; simpa using this, fun h => by rw [h]⟩
theorem asc_pair {l : List Nat} : ascB l = true ↔ l.Pairwise (· < ·) := by
  unfold ascB
  rw [List.pairwise_iff_getElem, List.all_eq_true]
  constructor
  · intro h
    have h1 : ∀ k, k + 1 < l.length → l.getD k 0 < l.getD (k + 1) 0 := by
      intro k hk
      have := h (decide (l.getD k 0 < l.getD (k + 1) 0)) (List.mem_map.mpr ⟨k, List.mem_range.mpr (by omega), rfl⟩)
      exact of_decide_eq_true this
    have h2 : ∀ n i, i + n + 1 < l.length → l.getD i 0 < l.getD (i + n + 1) 0 := by
      intro n
      induction n with
      | zero => exact fun i hi => h1 i hi
      | succ n ih => exact fun i hi => Nat.lt_trans (ih i (by omega)) (h1 (i + n + 1) (by omega))
    intro i j hi hj hij
    have := h2 (j - i - 1) i (by omega)
    rw [show i + (j - i - 1) + 1 = j by omega] at this
    rw [List.getD_eq_getElem?_getD, List.getD_eq_getElem?_getD, List.getElem?_eq_getElem hi, List.getElem?_eq_getElem hj] at this
    exact this
  · intro h b hb
    obtain ⟨k, hk, rfl⟩ := List.mem_map.mp hb
    have hk := List.mem_range.mp hk
    have := h k (k + 1) (by omega) (by omega) (by omega)
    rw [List.getD_eq_getElem?_getD, List.getD_eq_getElem?_getD, List.getElem?_eq_getElem (show k < l.length by omega), List.getElem?_eq_getElem (show k + 1 < l.length by omega)]
    exact decide_eq_true this
theorem rising_pair : ∀ (p : Nat) (l : List Nat), PyProof.Rows.risingS (S [p]) (l.map fun c => S [c]) = true → (p :: l).Pairwise (· ≤ ·)
  | p, [], _ => List.pairwise_singleton _ _
  | p, x :: l, h => by
    have h' : (!PySem.Spec.ltCps (S [x]).cps.toList (S [p]).cps.toList && PyProof.Rows.risingS (S [x]) (l.map fun c => S [c])) = true := h
    obtain ⟨h1, h2⟩ := Bool.and_eq_true_iff.mp h'
    have ih := rising_pair x l h2
    have h3 : p ≤ x := by
      have e : PySem.Spec.ltCps (S [x]).cps.toList (S [p]).cps.toList = decide (x < p) := by
        show (decide (x < p) || (x == p && false)) = _
        rw [Bool.and_false, Bool.or_false]
      rw [e] at h1
      have := of_decide_eq_false (by simpa using h1 : decide (x < p) = false)
      omega
    refine List.pairwise_cons.mpr ⟨fun y hy => ?_, ih⟩
    rcases List.mem_cons.mp hy with rfl | hy
    · exact h3
    · exact Nat.le_trans h3 ((List.pairwise_cons.mp ih).1 y hy)
theorem sorted_pair {l : List Nat} (h : PyProof.Rows.sortedS (l.map fun c => S [c]) = true) (nd : l.Nodup) : l.Pairwise (· < ·) := by
  have h1 : l.Pairwise (· ≤ ·) := by
    cases l with
    | nil => exact .nil
    | cons p l => exact rising_pair p l h
  exact (h1.and nd).imp fun ⟨a, b⟩ => Nat.lt_of_le_of_ne a b
theorem dp_strs {K : PySem.W.Frag} {H : Hp} : ∀ ys : List Str, DpAll K H (ys.map V.str) (ys.map PyData.str)
  | [] => .nil
  | y :: ys => .cons (.str y) (dp_strs ys)
theorem shaped_strs {ys : List Str} (h : ∀ y ∈ ys, (PyData.str y).canLay0 = true) : SeqAt.shaped (.list (ys.map PyData.str)) = true := by
  have key : PyData.canLayAll0 (ys.map PyData.str) = true ∧ PyData.depthAll (ys.map PyData.str) = 0 := by
    induction ys with
    | nil => exact ⟨rfl, rfl⟩
    | cons y ys ih =>
      obtain ⟨a, b⟩ := ih fun m hm => h m (List.mem_cons_of_mem _ hm)
      constructor
      · show ((PyData.str y).canLay0 && PyData.canLayAll0 (ys.map PyData.str)) = true
        rw [h y List.mem_cons_self, a]
        rfl
      · show max 0 (PyData.depthAll (ys.map PyData.str)) = 0
        rw [b]
        rfl
  unfold SeqAt.shaped
  rw [show (PyData.list (ys.map PyData.str)).canLay0 = true from key.1]
  have : (PyData.list (ys.map PyData.str)).depth ≤ 64 := by
    show PyData.depthAll _ + 1 ≤ 64
    rw [key.2]
    decide
  rw [decide_eq_true this]
  rfl
theorem eqv_strs : ∀ xs ys : List Str, PyData.eqv (.list (xs.map PyData.str)) (.list (ys.map PyData.str)) = decide (xs = ys)
  | [], [] => rfl
  | [], _ :: _ => rfl
  | _ :: _, [] => rfl
  | x :: xs, y :: ys => by
    have ih := eqv_strs xs ys
    show (x == y && PyData.eqv (.list (xs.map PyData.str)) (.list (ys.map PyData.str))) = _
    rw [ih]
    rw [Bool.eq_iff_iff]
    simp
theorem all_filter (n : Nat) (q : Nat → Bool) : ((List.range n).map q).all id = ((List.range n).filter fun k => !q k).isEmpty := by
  rw [Bool.eq_iff_iff]
  simp [List.filter_eq_nil_iff]
theorem dp_signs {K : PySem.W.Frag} {H : Hp} (g : Nat → Str) : ∀ js : List Nat, DpAll K H (js.map fun k => V.str (g k)) (js.map fun k => PyData.str (g k))
  | [] => .nil
  | t :: ts => .cons (.str _) (dp_signs g ts)
theorem lay_signs (g : Nat → Str) : ∀ js : List Nat, (∀ k ∈ js, (PyData.str (g k)).canLay0 = true) → PyData.canLayAll0 (js.map fun k => PyData.str (g k)) = true ∧ PyData.depthAll (js.map fun k => PyData.str (g k)) = 0
  | [], _ => ⟨rfl, rfl⟩
  | t :: ts, h => by
    have ih := lay_signs g ts (fun k hk => h k (List.mem_cons_of_mem _ hk))
    constructor
    · show ((PyData.str (g t)).canLay0 && PyData.canLayAll0 (ts.map fun k => PyData.str (g k))) = true
      rw [h t (List.mem_cons_self ..), ih.1]
      rfl
    · show max 0 (PyData.depthAll (ts.map fun k => PyData.str (g k))) = 0
      rw [ih.2]
      rfl
theorem shaped_signs (g : Nat → Str) (js : List Nat) (h : ∀ k ∈ js, (PyData.str (g k)).canLay0 = true) : SeqAt.shaped (.list (js.map fun k => PyData.str (g k))) = true := by
  unfold SeqAt.shaped
  obtain ⟨a, b⟩ := lay_signs g js h
  rw [show (PyData.list (js.map fun k => PyData.str (g k))).canLay0 = true from a]
  have : (PyData.list (js.map fun k => PyData.str (g k))).depth ≤ 64 := by
    show PyData.depthAll _ + 1 ≤ 64
    omega
  rw [decide_eq_true this]
  rfl
theorem sign_ok {c : Nat} (h : c < 1114112) : (PyData.str (S [c])).canLay0 = true := by
  show (#[c] : Array Nat).all (fun d => decide (d < 1114112)) = true
  simp [h]
theorem eqv_nil (g : Nat → Str) (js : List Nat) : PyData.eqv (.list (js.map fun k => PyData.str (g k))) (.list []) = js.isEmpty := by
  cases js <;> rfl
theorem lay_txt {l : List Nat} (h : ∀ c ∈ l, c < 128) : (PyData.str (S l)).canLay0 = true := by
  show (l.toArray : Array Nat).all (fun d => decide (d < 1114112)) = true
  rw [List.all_toArray]
  refine List.all_eq_true.mpr fun c hc => decide_eq_true ?_
  have := h c hc
  omega
def LowL (l : List Nat) : Prop := ∀ c ∈ l, c < 128
theorem few_of {α : Type} [DecidableEq α] : ∀ {l m : List α}, l.Nodup → (∀ x ∈ l, x ∈ m) → l.length ≤ m.length
  | [], _, _, _ => Nat.zero_le _
  | a :: l, m, hn, hs => by
    have h1 := hs a List.mem_cons_self
    have h2 := few_of (l := l) (m := m.erase a) (List.nodup_cons.mp hn).2 fun x hx => by
      refine (List.mem_erase_of_ne ?_).mpr (hs x (List.mem_cons_of_mem _ hx))
      rintro rfl
      exact (List.nodup_cons.mp hn).1 hx
    rw [List.length_erase_of_mem h1] at h2
    have h3 := List.length_pos_of_mem h1
    rw [List.length_cons]
    omega
theorem one_let (sg w : List Nat) : (sg.any fun c => decide (S [c] = S w)) = letB sg w := by
  rw [Bool.eq_iff_iff, List.any_eq_true]
  constructor
  · rintro ⟨c, hc, e⟩
    have e2 := SX.S_inj (of_decide_eq_true e)
    subst e2
    exact decide_eq_true hc
  · intro h
    obtain ⟨c, rfl, hc⟩ := letB_one h
    exact ⟨c, hc, decide_eq_true rfl⟩
theorem inV_let (sg w : List Nat) : inV (.str (S w)) ((S sg).cps.toList.map fun c => V.str ⟨#[c]⟩) = letB sg w := by
  rw [← one_let]
  unfold inV
  show ((sg.toArray.toList.map fun c => V.str ⟨#[c]⟩).any fun y => eqV y (.str (S w))) = _
  rw [List.any_map, List.toList_toArray]
  congr 1
theorem flat_signs (x : Str) : (x.cps.toList.map fun c => V.str ⟨#[c]⟩).all flatV = true := by
  rw [List.all_map, List.all_eq_true]
  intro c _
  rfl
theorem SqL.kp {K : PySem.W.Frag} {H H' : Hp} {p : Addr} {xs : List V} (h : SqL K H p xs) (e : Same H H') : SqL K H' p xs := by
  rcases h with (h | ⟨o, h⟩) | h
  · exact Or.inl (Or.inl (e _ _ h))
  · exact Or.inl (Or.inr ⟨o, e _ _ h⟩)
  · exact Or.inr h
theorem eqv_emp (ds : List PyData) : PyData.eqv (.list ds) (.list []) = ds.isEmpty := by
  cases ds <;> rfl
theorem cutS_eq (l : List Nat) (lo hi : Option Int) : cutS (S l) lo hi = S ((l.drop (HT.sIx l.length 0 lo)).take (HT.sIx l.length l.length hi - HT.sIx l.length 0 lo)) := by
  unfold cutS
  rw [SX.S_len]
theorem cutS_to (l : List Nat) (k : Nat) : cutS (S l) none (some (k : Int)) = S (l.take k) := by
  rw [cutS_eq, HT.sIx_none, HT.sIx_nat, List.drop_zero, Nat.sub_zero]
  congr 1
  by_cases h : k ≤ l.length
  · rw [Nat.min_eq_left h]
  · rw [Nat.min_eq_right (by omega), List.take_of_length_le (Nat.le_refl _), List.take_of_length_le (by omega)]
theorem cutS_from (l : List Nat) (k : Nat) : cutS (S l) (some (k : Int)) none = S (l.drop k) := by
  rw [cutS_eq, HT.sIx_none, HT.sIx_nat]
  congr 1
  by_cases h : k ≤ l.length
  · rw [Nat.min_eq_left h, List.take_of_length_le (by rw [List.length_drop]; exact Nat.le_refl _)]
  · rw [Nat.min_eq_right (by omega), List.drop_of_length_le (Nat.le_refl _), List.drop_of_length_le (by omega), List.take_nil]
theorem shaped_gd {d : PyData} {w n : Nat} (g : Gd w n d) (h : n ≤ 64) : (d.canLay0 && decide (d.depth ≤ 64)) = true := by
  rw [g.cl, decide_eq_true (Nat.le_trans g.de h)]
  rfl
def sumL (ps : List (List Nat)) : Nat := (ps.map fun p => p.length + 1).sum
theorem sumL_app (a b : List (List Nat)) : sumL (a ++ b) = sumL a + sumL b := by
  unfold sumL
  rw [List.map_append, List.sum_append]
theorem sumL_one (p : List Nat) : sumL [p] = p.length + 1 := by
  unfold sumL
  simp
theorem sumL_cut (ps : List (List Nat)) (k : Nat) : sumL (ps.take k) + sumL (ps.drop k) = sumL ps := by
  rw [← sumL_app, List.take_append_drop]
theorem sumL_drop (ps : List (List Nat)) (k : Nat) : sumL (ps.drop (k + 1)) ≤ sumL (ps.drop k) := by
  by_cases h : k < ps.length
  · rw [List.drop_eq_getElem_cons h]
    unfold sumL
    rw [List.map_cons, List.sum_cons]
    omega
  · rw [List.drop_of_length_le (by omega), List.drop_of_length_le (by omega)]
    exact Nat.le_refl _
theorem sumL_set : ∀ (ps : List (List Nat)) (k : Nat) (w : List Nat), sumL (ps.set k w) ≤ sumL ps + (w.length + 1)
  | [], _, _ => Nat.zero_le _
  | p :: ps, 0, w => by
    show (w.length + 1) + sumL ps ≤ ((p.length + 1) + sumL ps) + (w.length + 1)
    omega
  | p :: ps, k + 1, w => by
    have ih := sumL_set ps k w
    show (p.length + 1) + sumL (ps.set k w) ≤ ((p.length + 1) + sumL ps) + (w.length + 1)
    omega
theorem joinL_le (c : Nat) (ps : List (List Nat)) : (TL.joinL [c] ps).length ≤ sumL ps := by
  by_cases h : ps = []
  · subst h
    exact Nat.zero_le _
  · have := join_len c ps h
    show _ ≤ (ps.map fun p => p.length + 1).sum
    omega
def LowLs (ps : List (List Nat)) : Prop := ∀ p ∈ ps, LowL p
theorem joinL_low {c : Nat} (hc : c < 128) {ps : List (List Nat)} (h : LowLs ps) : LowL (TL.joinL [c] ps) := by
  intro d hd
  rcases join_in c hd with rfl | ⟨p, hp, e⟩
  · exact hc
  · exact h p hp d e
theorem LowLs.app {a b : List (List Nat)} (h : LowLs a) (k : LowLs b) : LowLs (a ++ b) := fun p hp => (List.mem_append.mp hp).elim (h p) (k p)
theorem LowLs.take {a : List (List Nat)} (h : LowLs a) (n : Nat) : LowLs (a.take n) := fun p hp => h p (List.mem_of_mem_take hp)
theorem LowLs.drop {a : List (List Nat)} (h : LowLs a) (n : Nat) : LowLs (a.drop n) := fun p hp => h p (List.mem_of_mem_drop hp)
theorem LowLs.one {p : List Nat} (h : LowL p) : LowLs [p] := fun q hq => by rw [List.mem_singleton.mp hq]; exact h
theorem LowLs.set {a : List (List Nat)} {w : List Nat} (h : LowLs a) (k : Nat) (hw : LowL w) : LowLs (a.set k w) := fun p hp => (List.mem_or_eq_of_mem_set hp).elim (h p) fun e => by rw [e]; exact hw
theorem spl_low {c : Nat} {l : List Nat} (h : LowL l) : LowLs (spl c l) := fun p hp d hd => h d (spl_mem hp hd)
theorem join_bound (c : Nat) (ps : List (List Nat)) : ((ps.map S).map (·.length)).sum + (ps.map S).length * (S [c]).length = sumL ps := by
  have h1 : (S [c]).length = 1 := SX.S_len [c]
  rw [h1, List.length_map, Nat.mul_one]
  induction ps with
  | nil => rfl
  | cons p ps ih =>
    rw [List.map_cons, List.map_cons, List.sum_cons, SX.S_len, List.length_cons]
    show _ = (p.length + 1) + sumL ps
    omega
theorem cut_to (xs : List V) (k : Nat) : cutV xs none (some ((k : Nat) : Int)) = xs.take k := by
  unfold cutV
  rw [HT.sIx_none, HT.sIx_nat, List.drop_zero, Nat.sub_zero]
  by_cases h : k ≤ xs.length
  · rw [Nat.min_eq_left h]
  · rw [Nat.min_eq_right (by omega), List.take_of_length_le (Nat.le_refl _), List.take_of_length_le (by omega)]
abbrev txs (ps : List (List Nat)) : List V := ps.map fun l => V.str (S l)
theorem txs_to (ps : List (List Nat)) (k : Nat) : cutV (txs ps) none (some ((k : Nat) : Int)) = txs (ps.take k) := by rw [cut_to]; exact List.map_take.symm
theorem txs_from (ps : List (List Nat)) (k : Nat) : cutV (txs ps) (some ((k : Nat) : Int)) none = txs (ps.drop k) := by rw [cut_from]; exact List.map_drop.symm
theorem txs_at {ps : List (List Nat)} {k : Nat} (h : k < ps.length) : atI (txs ps) ((k : Nat) : Int) = some (.str (S ps[k])) := atI_nat (by rw [List.getElem?_map, List.getElem?_eq_getElem h]; rfl)
theorem joinW_in (sep : List Nat) : ∀ {ps : List (List Nat)} {d : Nat}, d ∈ TL.joinL sep ps → d ∈ sep ∨ ∃ p ∈ ps, d ∈ p
  | [], d, h => by cases h
  | [q], d, h => Or.inr ⟨q, List.mem_cons_self, h⟩
  | q :: q2 :: r, d, h => by
    have h : d ∈ q ++ (sep ++ TL.joinL sep (q2 :: r)) := h
    rcases List.mem_append.mp h with h | h
    · exact Or.inr ⟨q, List.mem_cons_self, h⟩
    rcases List.mem_append.mp h with h | h
    · exact Or.inl h
    · rcases joinW_in sep h with e | ⟨p, hp, e⟩
      · exact Or.inl e
      · exact Or.inr ⟨p, List.mem_cons_of_mem _ hp, e⟩
theorem kind_low {l : List Nat} (h : LowL l) : Builtin.Str.strKind (S l) = 1 := by
  unfold Builtin.Str.strKind
  rw [if_pos]
  rw [show (S l).cps = l.toArray from rfl, List.all_toArray]
  exact List.all_eq_true.mpr fun c hc => decide_eq_true (Nat.lt_trans (h c hc) (by decide))
theorem ixN_at {n j : Nat} (h : j < n) : ixN n (j : Int) = some j := by
  unfold ixN
  rw [if_pos (by omega), if_pos (by omega), Int.toNat_natCast]
theorem sumL_set_eq : ∀ {ps : List (List Nat)} {k : Nat} (h : k < ps.length) (w : List Nat), sumL (ps.set k w) + (ps[k]).length = sumL ps + w.length
  | p :: ps, 0, _, w => by
    show ((w.length + 1) + sumL ps) + p.length = ((p.length + 1) + sumL ps) + w.length
    omega
  | p :: ps, k + 1, h, w => by
    have ih := sumL_set_eq (ps := ps) (k := k) (by simpa using h) w
    show ((p.length + 1) + sumL (ps.set k w)) + (ps[k]'(by simpa using h)).length = ((p.length + 1) + sumL ps) + w.length
    omega
end Lw

namespace Mq
open PySem PySem.Spec PyProof.Rows L2
open SX (S)
/-! ### data in bounds: what is cut, joined, put otherwise stays in bounds -/
mutual
def lowD : PyData → Bool
  | .str x => x.cps.toList.all fun c => decide (c < 128)
  | .list xs => lowAll xs
  | .tuple xs => lowAll xs
  | .dict kvs => kvs.isEmpty
  | _ => true
def lowAll : List PyData → Bool
  | [] => true
  | d :: ds => lowD d && lowAll ds
end
structure OkD (w n : Nat) (d : PyData) : Prop where
  gs : Gs w n d
  lo : lowD d = true
structure LsOk (w n : Nat) (ds : List PyData) : Prop where
  sh : PyData.showableAll ds = true
  de : PyData.depthAll ds ≤ n
  we : PyData.weightAll ds ≤ w
  le : PyData.leavesShortAll 60 ds = true
  lo : lowAll ds = true
theorem OkD.mono {w n w' n' : Nat} {d : PyData} (h : OkD w n d) (hw : w ≤ w') (hn : n ≤ n') : OkD w' n' d := ⟨h.gs.mono hw hn, h.lo⟩
theorem LsOk.mono {w n w' n' : Nat} {d : List PyData} (h : LsOk w n d) (hw : w ≤ w') (hn : n ≤ n') : LsOk w' n' d := ⟨h.sh, Nat.le_trans h.de hn, Nat.le_trans h.we hw, h.le, h.lo⟩
theorem LsOk.tup {w n : Nat} {ds : List PyData} (h : LsOk w n ds) : OkD w (n + 1) (.tuple ds) := ⟨⟨h.sh, Nat.succ_le_succ h.de, h.we, h.le⟩, h.lo⟩
theorem LsOk.lst {w n : Nat} {ds : List PyData} (h : LsOk w n ds) : OkD w (n + 1) (.list ds) := ⟨⟨h.sh, Nat.succ_le_succ h.de, h.we, h.le⟩, h.lo⟩
theorem OkD.tup {w n : Nat} {ds : List PyData} (h : OkD w n (.tuple ds)) : ∃ m, n = m + 1 ∧ LsOk w m ds := by
  have h1 : PyData.depthAll ds + 1 ≤ n := h.gs.de
  exact ⟨n - 1, by omega, ⟨h.gs.sh, by omega, h.gs.we, h.gs.le, h.lo⟩⟩
theorem LsOk.nil {w n : Nat} : LsOk w n [] := ⟨rfl, Nat.zero_le _, Nat.zero_le _, rfl, rfl⟩
theorem LsOk.cons {w v n : Nat} {d : PyData} {ds : List PyData} (h : OkD w n d) (k : LsOk v n ds) : LsOk (w + 1 + v) n (d :: ds) := by
  refine ⟨?_, Nat.max_le.mpr ⟨h.gs.de, k.de⟩, ?_, ?_, ?_⟩
  · show (d.showable && PyData.showableAll ds) = true
    rw [h.gs.sh, k.sh]
    rfl
  · show d.weight + 1 + PyData.weightAll ds ≤ _
    have := h.gs.we
    have := k.we
    omega
  · show (d.leavesShort 60 && PyData.leavesShortAll 60 ds) = true
    rw [h.gs.le, k.le]
    rfl
  · show (lowD d && lowAll ds) = true
    rw [h.lo, k.lo]
    rfl
theorem LsOk.uncons {w n : Nat} {d : PyData} {ds : List PyData} (h : LsOk w n (d :: ds)) : OkD d.weight n d ∧ LsOk (PyData.weightAll ds) n ds ∧ d.weight + 1 + PyData.weightAll ds ≤ w := by
  have h1 : (d.showable && PyData.showableAll ds) = true := h.sh
  have h2 : max d.depth (PyData.depthAll ds) ≤ n := h.de
  have h3 : (d.leavesShort 60 && PyData.leavesShortAll 60 ds) = true := h.le
  have h4 : (lowD d && lowAll ds) = true := h.lo
  have h5 : d.weight + 1 + PyData.weightAll ds ≤ w := h.we
  rw [Bool.and_eq_true] at h1 h3 h4
  exact ⟨⟨⟨h1.1, Nat.le_trans (Nat.le_max_left _ _) h2, Nat.le_refl _, h3.1⟩, h4.1⟩, ⟨h1.2, Nat.le_trans (Nat.le_max_right _ _) h2, Nat.le_refl _, h3.2, h4.2⟩, h5⟩
theorem LsOk.mem {w n : Nat} : ∀ {ds : List PyData} {d : PyData}, LsOk w n ds → d ∈ ds → OkD w n d
  | _ :: _, _, h, hm => by
    obtain ⟨a, b, c⟩ := h.uncons
    rcases List.mem_cons.mp hm with rfl | hm
    · exact a.mono (by omega) (Nat.le_refl _)
    · exact LsOk.mem (b.mono (by omega) (Nat.le_refl _)) hm
theorem LsOk.len {w n : Nat} : ∀ {ds : List PyData}, LsOk w n ds → ds.length ≤ w
  | [], _ => Nat.zero_le _
  | d :: ds, h => by
    obtain ⟨a, b, c⟩ := h.uncons
    have := b.len
    rw [List.length_cons]
    omega
theorem LsOk.app {w v n : Nat} : ∀ {ds es : List PyData}, LsOk w n ds → LsOk v n es → LsOk (w + v) n (ds ++ es)
  | [], es, _, k => k.mono (Nat.le_add_left _ _) (Nat.le_refl _)
  | d :: ds, es, h, k => by
    obtain ⟨a, b, c⟩ := h.uncons
    exact (LsOk.cons a (b.app k)).mono (by omega) (Nat.le_refl _)
theorem weight_app : ∀ ds es : List PyData, PyData.weightAll (ds ++ es) = PyData.weightAll ds + PyData.weightAll es
  | [], es => (Nat.zero_add _).symm
  | d :: ds, es => by
    show d.weight + 1 + PyData.weightAll (ds ++ es) = d.weight + 1 + PyData.weightAll ds + PyData.weightAll es
    rw [weight_app ds es]
    omega
theorem LsOk.sub {n : Nat} : ∀ {ds es : List PyData} {w : Nat}, es.Sublist ds → LsOk w n ds → LsOk w n es
  | _, _, _, .slnil, h => h
  | _, _, _, .cons a s, h => by
    obtain ⟨_, b, c⟩ := h.uncons
    exact LsOk.sub s (b.mono (by omega) (Nat.le_refl _))
  | _, _, _, .cons₂ a s, h => by
    obtain ⟨a, b, c⟩ := h.uncons
    exact (LsOk.cons a (LsOk.sub s b)).mono (by omega) (Nat.le_refl _)
theorem LsOk.rev {n : Nat} : ∀ {ds : List PyData} {w : Nat}, LsOk w n ds → LsOk w n ds.reverse
  | [], _, h => h
  | d :: ds, w, h => by
    obtain ⟨a, b, c⟩ := h.uncons
    rw [List.reverse_cons]
    exact (b.rev.app (LsOk.cons a (LsOk.nil (w := 0)))).mono (by omega) (Nat.le_refl _)
theorem LsOk.exact {w n : Nat} {ds : List PyData} (h : LsOk w n ds) : LsOk (PyData.weightAll ds) n ds := ⟨h.sh, h.de, Nat.le_refl _, h.le, h.lo⟩
theorem OkD.exact {w n : Nat} {d : PyData} (h : OkD w n d) : OkD d.weight n d := ⟨⟨h.gs.sh, h.gs.de, Nat.le_refl _, h.gs.le⟩, h.lo⟩
theorem OkD.text {w n : Nat} {x : Str} (h : OkD w n (.str x)) : x.cps.toList.length ≤ w ∧ ∀ c ∈ x.cps.toList, c < 128 := by
  refine ⟨?_, fun c hc => ?_⟩
  · have : x.cps.size ≤ w := h.gs.we
    simpa using this
  · have h1 : (x.cps.toList.all fun c => decide (c < 128)) = true := h.lo
    exact of_decide_eq_true (List.all_eq_true.mp h1 c hc)
theorem okD_str {l : List Nat} {w : Nat} (h : ∀ c ∈ l, c < 128) (hl : l.length ≤ w) : OkD w 0 (.str (S l)) := ⟨gs_str (fun c hc => Nat.lt_trans (h c hc) (by decide)) hl, List.all_eq_true.mpr fun c hc => decide_eq_true (h c (by simpa using hc))⟩
def okB (w n : Nat) (d : PyData) : Bool := gsB w n d && lowD d
theorem okD_of {w n : Nat} {d : PyData} (h : okB w n d = true) : OkD w n d := by
  obtain ⟨a, b⟩ := Bool.and_eq_true_iff.mp h
  exact ⟨gs_of a, b⟩
theorem S_of (x : Str) : S x.cps.toList = x := by
  cases x
  rfl
theorem OkD.lay {w n : Nat} {x : Str} (h : OkD w n (.str x)) : (PyData.str x).canLay0 = true := by
  show x.cps.all (fun d => decide (d < 1114112)) = true
  rw [← Array.all_toList]
  refine List.all_eq_true.mpr fun c hc => decide_eq_true ?_
  have := h.text.2 c hc
  omega
/-! what may be shown -/
theorem OkD.ok {w n : Nat} {d : PyData} (h : OkD w n d) (hw : w ≤ 200000) (hn : n ≤ 40) : ShowOk d := h.gs.ok hw hn
/-! ### parts of a list of values -/
section
variable {K : PySem.W.Frag} {N : Addr → Prop} {H : Hp}
theorem DvAll.take : ∀ {vs : List V} {ds : List PyData} (n : Nat), DvAll K N H vs ds → DvAll K N H (vs.take n) (ds.take n)
  | _, _, 0, _ => .nil
  | _, _, _ + 1, .nil => .nil
  | _, _, n + 1, .cons a b => .cons a (b.take n)
theorem DvAll.drop : ∀ {vs : List V} {ds : List PyData} (n : Nat), DvAll K N H vs ds → DvAll K N H (vs.drop n) (ds.drop n)
  | _, _, 0, h => h
  | _, _, _ + 1, .nil => .nil
  | _, _, n + 1, .cons a b => b.drop n
theorem DvAll.rev : ∀ {vs : List V} {ds : List PyData}, DvAll K N H vs ds → DvAll K N H vs.reverse ds.reverse
  | _, _, .nil => .nil
  | _, _, .cons a b => by
    rw [List.reverse_cons, List.reverse_cons]
    exact b.rev.app (.cons a .nil)
theorem DvAll.cut {vs : List V} {ds : List PyData} (h : DvAll K N H vs ds) (lo hi : Option Int) : ∃ es, es.Sublist ds ∧ DvAll K N H (cutV vs lo hi) es := by
  unfold cutV
  exact ⟨_, (List.take_sublist _ _).trans (List.drop_sublist _ _), (h.drop _).take _⟩
theorem cut_front (xs : List V) (k : Nat) : cutV xs none (some ((k : Nat) : Int)) = xs.take k := by
  unfold cutV
  rw [HT.sIx_nat, HT.sIx_none]
  by_cases h : k ≤ xs.length
  · rw [Nat.min_eq_left h, Nat.sub_zero, List.drop_zero]
  · rw [Nat.min_eq_right (by omega), Nat.sub_zero, List.drop_zero, List.take_length, List.take_of_length_le (by omega)]
theorem cut_back (xs : List V) (k : Nat) : cutV xs (some ((k : Nat) : Int)) none = xs.drop k := by
  unfold cutV
  rw [HT.sIx_nat, HT.sIx_none]
  by_cases h : k ≤ xs.length
  · rw [Nat.min_eq_left h, List.take_of_length_le (by rw [List.length_drop]; exact Nat.le_refl _)]
  · rw [Nat.min_eq_right (by omega), List.drop_of_length_le (Nat.le_refl _), List.drop_of_length_le (by omega), List.take_nil]
end
/-- a value and its data, in bounds; its lists and dicts stand at places of N -/
def OdD (K : PySem.W.Frag) (N : Addr → Prop) (w n : Nat) (H : Hp) (v : V) : Prop := ∃ d, Dv K N H v d ∧ OkD w n d
section
variable {K : PySem.W.Frag} {N N' : Addr → Prop} {H H' : Hp} {w n w' n' : Nat} {v : V}
theorem OdD.same (h : OdD K N w n H v) (e : Same H H') : OdD K N w n H' v := let ⟨d, a, b⟩ := h; ⟨d, a.same e, b⟩
theorem OdD.mono (h : OdD K N w n H v) (e : ∀ a, N a → N' a) (hw : w ≤ w') (hn : n ≤ n') : OdD K N' w' n' H v := let ⟨d, a, b⟩ := h; ⟨d, a.mono e, b.mono hw hn⟩
end
/-! ### kinds of data -/
def sevenT : List String := ["NoneType", "bool", "int", "str", "list", "tuple", "dict"]
section
variable {K : PySem.W.Frag} {H : Hp} {v : V} {d : PyData}
theorem dg_str (h : Dg K H v d) : (∃ l, v = .str (S l) ∧ d = .str (S l)) ∨ ((∃ a, TyX K H v (.type a) ∧ a ∈ sevenT ∧ a ≠ "str") ∧ ∀ x, d ≠ .str x) := by
  cases h with
  | non => exact Or.inr ⟨⟨_, .base .non, by decide, by decide⟩, fun _ z => nomatch z⟩
  | bl b => exact Or.inr ⟨⟨_, .base (.bl b), by decide, by decide⟩, fun _ z => nomatch z⟩
  | int i => exact Or.inr ⟨⟨_, .base (.int i), by decide, by decide⟩, fun _ z => nomatch z⟩
  | str x => exact Or.inl ⟨x.cps.toList, by rw [S_of], by rw [S_of]⟩
  | lst _ hs _ => exact Or.inr ⟨⟨_, ty_list hs, by decide, by decide⟩, fun _ z => nomatch z⟩
  | tup hs _ => exact Or.inr ⟨⟨_, ty_tup hs, by decide, by decide⟩, fun _ z => nomatch z⟩
  | dct hs _ => exact Or.inr ⟨⟨_, .base (.dK hs), by decide, by decide⟩, fun _ z => nomatch z⟩
theorem dg_tup (h : Dg K H v d) : (∃ a xs ds, v = .ref a ∧ d = .tuple ds ∧ SqT K H a xs ∧ DgAll K H xs ds) ∨ ((∃ a, TyX K H v (.type a) ∧ a ∈ sevenT ∧ a ≠ "tuple") ∧ ∀ ds, d ≠ .tuple ds) := by
  cases h with
  | non => exact Or.inr ⟨⟨_, .base .non, by decide, by decide⟩, fun _ z => nomatch z⟩
  | bl b => exact Or.inr ⟨⟨_, .base (.bl b), by decide, by decide⟩, fun _ z => nomatch z⟩
  | int i => exact Or.inr ⟨⟨_, .base (.int i), by decide, by decide⟩, fun _ z => nomatch z⟩
  | str x => exact Or.inr ⟨⟨_, .base (.str x), by decide, by decide⟩, fun _ z => nomatch z⟩
  | lst _ hs _ => exact Or.inr ⟨⟨_, ty_list hs, by decide, by decide⟩, fun _ z => nomatch z⟩
  | tup hs ha => exact Or.inl ⟨_, _, _, rfl, rfl, hs, ha⟩
  | dct hs _ => exact Or.inr ⟨⟨_, .base (.dK hs), by decide, by decide⟩, fun _ z => nomatch z⟩
theorem DgAll.at : ∀ {vs : List V} {ds : List PyData} {i : Nat} {v : V}, DgAll K H vs ds → vs[i]? = some v → ∃ d, ds[i]? = some d ∧ Dg K H v d
  | _, _, 0, _, .cons a b, h => ⟨_, rfl, by cases h; exact a⟩
  | _, _, i + 1, _, .cons a b, h => DgAll.at (i := i) b h
theorem DgAll.len : ∀ {vs : List V} {ds : List PyData}, DgAll K H vs ds → vs.length = ds.length
  | _, _, .nil => rfl
  | _, _, .cons a b => congrArg (· + 1) b.len
end
end Mq

namespace Mq
open PySem PySem.Spec PySem.W PySem.Calls PySem.HandSPX PyProof.Rows
/-! ### an own error made by keywords -/
section
variable {M : Model} {A : Around} {E : Value → Shared → Prop} {h : Heap} {g : Array GenState} {dr : Drawn} {tk : Nat} {os : OsState}
variable {nm q : Str} {C N : Addr} {bs bm bmB : List Value} {hd : Bool} {sn : List Str} {sub : List Value} {ab : Bool} {col : Option Bool} {dd : Option Addr} {k0 k1 k2 k3 k5 : Option Value} {B newId initId : String}
theorem new_fine (F : ExcBaseFacts B newId initId bmB) (same : ∀ X : String, bm.contains (.type X) = bmB.contains (.type X)) {us : List Value} {kw : List (Str × Value)} {Q : Unit → Shared → Prop}
    (at' : h.get? C = some (excClassObj nm q C N bs bm hd sn sub ab col dd k0 k1 k2 k3 k5 newId)) (done : Q () ⟨h, g, dr, tk, os⟩) : wpAny M A (checkBuiltinCall newId ⟨.ref C :: us, kw⟩) Q E ⟨h, g, dr, tk, os⟩ := by
  have below : (Value.ref C :: bm).contains (.type B) = true := by rw [List.contains_cons, same, F.hasB, Bool.or_true]
  have ns := F.noStar
  simp only [checkBuiltinCall, F.newKind, F.newSplit, F.newRow]
  repeat (first
    | refine wpAny_loadPart_at at' ?_
    | (refine wpAny_isSubtype_exc at' ?_; rw [below])
    | refine wpAny_staticBase_exc at' ?_
    | refine wpAny_madeBy_exc at' ?_
    | simp only [bne_self_eq_false, Bool.false_eq_true, if_false]
    | wp_step)
  exact done
end
section
variable {prog : Program} {w : World} {A : Around} {E : Value → Shared → Prop} {R : Result → Shared → Prop} {h : Heap} {g : Array GenState} {dr : Drawn} {tk : Nat} {os : OsState}
variable {nm q : Str} {C N : Addr} {bs bm bmB : List Value} {hd : Bool} {sn : List Str} {sub : List Value} {ab : Bool} {col : Option Bool} {dd : Option Addr} {k0 k1 k2 k3 k5 : Option Value} {B newId initId : String}
theorem new_kw (F : ExcBaseFacts B newId initId bmB) (same : ∀ X : String, bm.contains (.type X) = bmB.contains (.type X)) {us : List Value} {kw : List (Str × Value)}
    (at' : h.get? C = some (excClassObj nm q C N bs bm hd sn sub ab col dd k0 k1 k2 k3 k5 newId)) (few : us.length ≤ sizeLine)
    (done : R (.ok (.ret (.ref (h.objs.size + 1)))) ⟨(h.push (kdv_tup us)).push (excO C h.objs.size), g, dr, tk, os⟩) :
    codeAny (model prog w) A (.builtin newId ⟨.ref C :: us, kw⟩) R ⟨h, g, dr, tk, os⟩ := by
  have ends := F.ends
  have isB : (Value.ref C :: bm).contains (.type B) = true := by rw [List.contains_cons, same, F.hasB, Bool.or_true]
  have isA : (Value.ref C :: bm).contains (.type "AttributeError") = false := by rw [List.contains_cons, same, F.noAttr]; rfl
  have isN : (Value.ref C :: bm).contains (.type "NameError") = false := by rw [List.contains_cons, same, F.noName]; rfl
  refine codeAny_builtinAt F.entry ?_
  unfold Builtin.«BaseException.__new__»
  refine PySem.wpAt_bind ?_
  show PySem.wpAt _ _ _ (stack >>= _) _ _ _
  refine PySem.wpAt_bind (PySem.wpAt_stack fun p below => PySem.wpAt_of_wpAny ?_)
  wp_walk
  refine PySem.wpAt_of_wpAny ?_
  rw [F.owner]
  repeat (first
    | with_reducible refine wpAny_madeHere_exc F.canon at' ?_
    | with_reducible refine wpAny_loadPart_at at' ?_
    | (with_reducible refine wpAny_isSubtype_exc at' ?_; first | rw [isB] | rw [isA] | rw [isN])
    | wp_step)
  show R _ _
  rw [Heap.size_push]
  exact done
theorem type_kw (F : ExcBaseFacts B newId initId bmB) (same : ∀ X : String, bm.contains (.type X) = bmB.contains (.type X)) {us : List Value} {kw : List (Str × Value)} {fI : Addr} {Q : Fin → Shared → Prop}
    (at' : h.get? C = some (excClassObj nm q C N bs bm hd sn sub ab col dd k0 k1 k2 k3 k5 newId)) (few : us.length ≤ sizeLine)
    (looks : Looks (model prog w) h (typeLookup (.ref C) "__init__") (some (.ref fI))) (binds : ∀ self, Looks (model prog w) h (bindSpecial (.ref fI) self) (.ref fI, [self]))
    (done : codeAny (model prog w) A (.call (.ref fI) ⟨.ref (h.objs.size + 1) :: us, kw⟩)
      (fun r s' => match r with | .ok (.ret v) => v = .none ∧ Q (.done (.ret (.ref (h.objs.size + 1)))) s' | .ok _ => False | .error e => E e s')
      ⟨(h.push (kdv_tup us)).push (excO C h.objs.size), g, dr, tk, os⟩) :
    wpAny (model prog w) A (Builtin.«type.__call__» ⟨.ref C :: us, kw⟩) Q E ⟨h, g, dr, tk, os⟩ := by
  repeat (first
    | with_reducible refine wpAny_loadPart_at at' ?_
    | with_reducible refine wpAny_madeBy_exc at' ?_
    | wp_step)
  refine codeAny_call_builtin_code (Code.quiet_builtin _ F.quiet) (new_fine F same at' ?_)
  refine new_kw F same at' few ?_
  show wpAny _ _ _ _ _ _
  have k : ∀ b o, h.get? b = some o → ((h.push (kdv_tup us)).push (excO C h.objs.size)).get? b = some o := fun b o e => Heap.get?_push_of_some _ (Heap.get?_push_of_some _ e)
  have at1 := k _ _ at'
  have new : ((h.push (kdv_tup us)).push (excO C h.objs.size)).get? (h.objs.size + 1) = some (excO C h.objs.size) := by heap_get
  have own : (Value.ref C :: bm).contains (.ref C) = true := by simp
  have i1 := looks.keeps k
  have b1 := (binds (.ref (h.objs.size + 1))).keeps k
  unfold isInstance
  repeat (first
    | with_reducible refine wpAny_loadPart_at new ?_
    | (with_reducible refine wpAny_isSubtype_exc at1 ?_; rw [own])
    | wp_step)
  show wpAny _ _ (typeLookup (.ref C) _) _ _ _
  refine i1.at ?_
  refine wpAny_holding (wpAny_bind (b1.at ?_))
  refine wpAny_bind (wpAny_call (codeAny_mono done fun r s' z => ?_))
  rcases r with e | (v | _ | _ | _) <;> first | exact z | exact z.elim | skip
  obtain ⟨rfl, z⟩ := z
  first
    | exact wpAny_pure (wpAny_pure z)
    | (wp_walk; exact z)
theorem call_kw (F : ExcBaseFacts B newId initId bmB) (same : ∀ X : String, bm.contains (.type X) = bmB.contains (.type X)) {us : List Value} {kw : List (Str × Value)} {fI : Addr}
    (at' : h.get? C = some (excClassObj nm q C N bs bm hd sn sub ab col dd k0 k1 k2 k3 k5 newId)) (few : us.length ≤ sizeLine)
    (looks : Looks (model prog w) h (typeLookup (.ref C) "__init__") (some (.ref fI))) (binds : ∀ self, Looks (model prog w) h (bindSpecial (.ref fI) self) (.ref fI, [self]))
    (done : codeAny (model prog w) (A.under (.builtin "type.__call__" ⟨.ref C :: us, kw⟩)) (.call (.ref fI) ⟨.ref (h.objs.size + 1) :: us, kw⟩) (InitBack (h.objs.size + 1) R)
      ⟨(h.push (kdv_tup us)).push (excO C h.objs.size), g, dr, tk, os⟩) :
    codeAny (model prog w) A (.call (.ref C) ⟨us, kw⟩) R ⟨h, g, dr, tk, os⟩ := by
  have f1 := tc_lookup
  have f2 := tc_bind (.ref C)
  have isT : (⟨h, g, dr, tk, os⟩ : Shared).TypeIs (.ref C) "type" := ⟨_, at', rfl⟩
  refine codeAny_of_tree ?_
  show wpAny _ _ (callAny (.ref C) _) _ _ _
  repeat (any_goals (first
    | assumption
    | with_reducible refine wpAny_loadPart_at at' ?_
    | wp_step))
  refine ⟨rfl, ?_⟩
  refine codeAny_call_builtin_at (Code.quiet_builtin _ (by decide +kernel)) entry_typeCall (wpAny_check_type_call_sub at' (type_kw F same at' few looks binds ?_))
  refine codeAny_mono done fun r s' z => ?_
  rcases r with e | (v | _ | _ | _) <;> exact z
end
end Mq

namespace Mq
open PySem PySem.Spec PyProof.Rows L2
open PySem.W (Frag)
open PySem.Builtin.ObjectAttr
/-! ### a second field -/
section
variable {prog : Program} {w : World} {A : Around} {E : Value → Shared → Prop} {R : Result → Shared → Prop}
  {hp : Heap} {g : Array GenState} {d : Drawn} {t : Nat} {os : OsState} {K : Frag}
theorem osa_next {name n0 : Str} {tk : Tok} {v v0 : Value} {x C t1 dx : Addr} (X : K.In hp)
    (hx : hp.get? x = some (PySem.W.excObj C t1 (some dx) .none)) (hn : hp.Ns1 dx (fun y => if y = n0 then some v0 else none)) (ho : PySem.W.excOver K C exTail = true)
    (hh : PySem.W.hasDictIn K C = true) (ht : PySem.W.takerIn K C name = some none)
    (hq : ∀ h' tk', (∀ b o, b ≠ dx → hp.get? b = some o → h'.get? b = some o) →
      h'.Ns1 dx (fun y => if y = name then some v else if y = n0 then some v0 else none) → R (.ok (.ret .none)) ⟨h', g, d, tk', os⟩) :
    codeAny (model prog w) A (.call (.builtin "object.__setattr__") ⟨[.ref x, .str name tk, v], []⟩) R ⟨hp, g, d, t, os⟩ := by
  obtain ⟨od, hod, _⟩ := lookIn_ns hn
  refine PySem.W.osa_openX (od := some od) (s := ⟨hp, g, d, t, os⟩) F.store_Exception X ⟨hx, rfl, rfl, hod⟩ ho ht (fun b => ?_)
  obtain ⟨cd, hc, hd'⟩ := PySem.W.any_some hh
  have Lc : PySem.W.Looks (model prog w) hp (classData C) cd := PySem.W.looks_clsIn X hc
  refine wpAny_bind (wpAny_pure (wpAny_bind ?_))
  unfold ownDictForStores
  show wpAny _ _ (instanceDict x true) _ _ _
  unfold instanceDict
  refine wpAny_bind (wpAny_loadPart hx ?_)
  dsimp only
  refine wpAny_bind (Lc.here ?_)
  rw [hd']
  rw [if_neg (by decide)]
  refine wpAny_pure ?_
  show wpAny _ _ (storeInDict dx (.str name tk) name v) _ _ _
  unfold storeInDict newKeyGuard
  refine wpAny_bind (wpAny_pure (wpAny_bind (wpAny_nsSet1 hn fun h' hn' hs => ?_)))
  have hw : PySem.Within (fun y => if y = name then some v else if y = n0 then some v0 else none) [name, n0] := by
    have h1 := PySem.Within.cons name v (PySem.Within.cons n0 v0 PySem.Within.nil)
    exact h1
  obtain ⟨oD, esD, epD, hoD, hdD, hcD⟩ := hn'.count hw
  refine wpAny_bind (wpAny_lookBehind hoD (by rw [hdD]; exact pastItsLine_dict (Nat.le_trans hcD (by rw [sizeLine_eq]; show 2 ≤ 16777216 + 1; decide))) ?_)
  wp_walk
  exact hq h' _ (fun b o hb ho => (hs.2 b hb).trans ho) hn'
end
/-! ### errors as values -/
def ExF (C : Addr) (d : Option Addr) (a : Addr) : HO := .ext fun h => ∃ (oe : Obj) (vs : Array Value), h.get? a = some oe ∧ Zc (.ref C) d oe ∧ oe.data = .fields vs
theorem exF_ok {P : Program} {w : World} {H : Hp} {h : Heap} {a C : Addr} {d : Option Addr} {oe : Obj} {vs : Array Value} (e : h.get? a = some oe) (z : Zc (.ref C) d oe) (f : oe.data = .fields vs) : ObjOk P w H h a (ExF C d a) :=
  ⟨⟨oe, vs, e, z, f⟩, ⟨oe, e⟩, fun _ _ ⟨o, v, q, r⟩ k => ⟨o, v, k o q, r⟩⟩
/-- the error at e, of the class C, its field's dict at d -/
structure ErrAt (H : Hp) (C e d : Addr) (fs : List (Str × V)) : Prop where
  ex : H e = some (ExF C (some d) e)
  fd : H d = some (.xd fs)
theorem ErrAt.same {H H' : Hp} {C e d : Addr} {fs : List (Str × V)} (h : ErrAt H C e d fs) (s : ∀ b o, H b = some o → H' b = some o) : ErrAt H' C e d fs := ⟨s _ _ h.ex, s _ _ h.fd⟩
section
variable {X : Cx} {pins : List (Addr × Obj)} {σ : L2.St} {H : Hp} {s : Shared}
/-- e.n, e an error that is a value -/
def tXv (C : Addr) (n : Str) (te : TE) : TE := fun σ H Q => te σ H fun x H1 => ∃ (a d : Addr) (fs : List (Str × V)) (v : V), x = .ref a ∧ ErrAt H1 C a d fs ∧ fs.lookup n = some v ∧ Q v H1
theorem pe_xv {C : Addr} {e : Expr} {te : TE} {pos : Pos} {n : Str} (T : XfC X.K C) (hno : PySem.W.findIn X.K (.ref C) n = some none)
    (he : PE X e te) (hb : attributeBase e n X.env (eval e X.env) = eval e X.env := by rfl) : PE X (.Attribute e n pos) (tXv C n te) := by
  refine ⟨fun pins s σ H Q I h => ?_⟩
  refine attr_of hb (thn (he.run pins s σ H _ I h) fun u s1 hh => ?_)
  obtain ⟨x, H1, I1, rx, a, dd, fs, v, ex, er, l, q⟩ := hh
  subst ex
  obtain rfl : u = Value.ref a := rx
  obtain ⟨⟨oe, vs, ha, hz, hd⟩, _, _⟩ := (show ObjOk X.prog X.w H1 s1.heap a (ExF C (some dd) a) from I1.hok a _ er.ex)
  obtain ⟨mA, hns, hr⟩ := (show ObjOk X.prog X.w H1 s1.heap dd (.xd fs) from I1.hok dd _ er.fd)
  obtain ⟨od, ho, hl⟩ := lookIn_ns hns
  obtain ⟨u, hu, ru⟩ := RelO.some_of (v := v) (o := mA n) (by rw [← l]; exact hr n)
  have J : PySem.W.InstAt s1.heap a oe C (some od) := by
    refine ⟨ha, hz.1, ?_, ?_⟩
    · unfold PySem.W.notCls
      rw [hd]
    · rw [hz.2]
      exact ho
  exact HandSPX.exc_get I1.kIn J T.ga T.gg T.exC (PySem.W.findObj_own T.hdC hno rfl (by rw [hl, hu])) (handed_of ru) ⟨v, H1, I1.tok _, ru, q⟩
/-- isinstance(e, c), e an error that is a value -/
def rIsE (K : PySem.W.Frag) : List V → Hp → VK → Prop := fun xs H Q => ∃ (a D : Addr) (d : Option Addr) (c : V) (u : Value) (b : Bool), xs = [.ref a, c] ∧ ClsV c u ∧ H a = some (ExF D d a) ∧
  (∀ x, d = some x → ∃ fs, H x = some (.xd fs)) ∧ HeldC K D ∧ PySem.W.kitOne K (.ref D) u = some b ∧ Q (.bl b) H
theorem call_isE : CallR X (.builtin "isinstance") (rIsE X.K) := by
  intro pins s σ H xs us Q I r h
  obtain ⟨a, D, d, c, u, b, rfl, k, ha, hdx, C, e, q⟩ := h
  obtain ⟨u1, u2, rfl, r1, r2⟩ := vals2 r
  have e2 := k.eq r2
  subst e2
  cases r1
  obtain ⟨⟨oe, vs, hget, hz, hv⟩, _, _⟩ := (show ObjOk X.prog X.w H s.heap a (ExF D d a) from I.hok a _ ha)
  obtain ⟨od, J⟩ : ∃ od, PySem.W.InstAt s.heap a oe D od := by
    cases d with
    | none =>
      refine ⟨none, hget, hz.1, ?_, ?_⟩
      · unfold PySem.W.notCls
        rw [hv]
      · rw [hz.2]
        trivial
    | some dd =>
      obtain ⟨fs, hf⟩ := hdx dd rfl
      obtain ⟨mA, ⟨od, es, ep, ho, _⟩, _⟩ := (show ObjOk X.prog X.w H s.heap dd (.xd fs) from I.hok dd _ hf)
      refine ⟨some od, hget, hz.1, ?_, ?_⟩
      · unfold PySem.W.notCls
        rw [hv]
      · rw [hz.2]
        exact ho
  refine PySem.W.kia_one (PySem.W.kitx_exc C.cl C.ga C.gg C.sb C.ca C.sp C.tk C.mo) I.kIn J e (fun z => by cases z) (fun tk => ?_)
  exact ⟨.bl b, H, I.kept (t' := tk) (fun _ _ z => z), rfl, q⟩
/-- C(), a bare one -/
theorem pe_exB {C : Addr} {bmB : List Value} {B newId initId : String} {x : Str} {p pos : Pos} (F : ExcBaseFacts B newId initId bmB) (q : PySem.W.excIn X.K C bmB newId = true) (gC : X.mg x = some (.ref C)) (kC : PySem.W.keepIn X.K (.ref C) = true) (hg : Gl X x)
    (hdb : (x == ("__debug__" : Str)) = false := by decide) :
    PE X (.Call (.Name x p) [] [] pos) (fun _ H Q => ∀ a, H a = none → Q (.ref a) (upd H a (ExF C none a))) := by
  refine ⟨fun pins s σ H Q I h => ?_⟩
  refine wpAny_Call_Name_kw (ld_glob I hg gC ?_ hdb)
  refine PySem.W.callWith_K0 I.kIn kC ?_
  obtain ⟨bm, N, nm, qn, bs, hdct, sn, sub, ab, col, dd, k0, k1, k2, k3, k5, mN, hC, hN, hni, T⟩ := exc_obj I.kIn q
  refine wpAny_call_exc_subT F T hC hN hni (fun h' a hm => ?_) (by show 0 ≤ sizeLine; exact Nat.zero_le _)
  have hn : H a = none := I.hok.gone hm.new
  obtain ⟨t, ht, _, _⟩ := hm.there
  exact ⟨.ref a, upd H a (ExF C none a), I.laidN hm.keeps hm.new hn (exF_ok ht ⟨rfl, rfl⟩ rfl), rfl, h a hn⟩
end
end Mq

namespace Mq
open PySem PySem.Spec PyProof.Rows L2
open PySem.W (Frag)
/-! ### the call of an error's class as a value -/
/-- a made error, its fields by m -/
structure MadeM (h h' : Heap) (e C d : Addr) (m : Str → Option Value) : Prop where
  keep : ∀ b o, h.get? b = some o → h'.get? b = some o
  new : h.objs.size ≤ e
  obj : ∃ oe vs, h'.get? e = some oe ∧ oe.cls = .ref C ∧ oe.dict = some d ∧ oe.data = .fields vs ∧ vs[1]? = some .none
  big : h.objs.size ≤ d
  ne : d ≠ e
  ns : h'.Ns1 d m
/-- what the written part says of an error's class -/
structure ErrC (K : Frag) (mg : Str → Option Value) (x : Str) (C fI : Addr) : Prop where
  gC : mg x = some (.ref C)
  kC : PySem.W.keepIn K (.ref C) = true
  ex : PySem.W.excInitIn K C exTail "Exception.__new__" = true
  ov : PySem.W.excOver K C exTail = true
  hdC : PySem.W.hasDictIn K C = true
  sa : PySem.W.findIn K (.ref C) "__setattr__" = some (some (.builtin "object.__setattr__"))
  iC : PySem.W.findIn K (.ref C) "__init__" = some (some (.ref fI))
  tC : PySem.W.typeIn K (.ref fI) = some (.type "function")
  exC : PySem.W.subIn K (.ref C) (.type "BaseException") = some true
  tyC : PySem.W.typeIn K (.ref C) = some (.type "type")
/-- calls of C with these arguments make an error with fields by m -/
def Makes (K : Frag) (C : Addr) (us : List Value) (kw : List (Str × Value)) (m : Str → Option Value) : Prop :=
  ∀ (prog : Program) (w : World) (A : Around) (R : Result → Shared → Prop) (s : Shared), K.In s.heap → s.heap.NoLimit → A.depth + 1 < recursionLimit →
    (∀ h' tk e d, MadeM s.heap h' e C d m → R (.ok (.ret (.ref e))) { s with heap := h', toks := tk }) → codeAny (model prog w) A (.call (.ref C) ⟨us, kw⟩) R s
theorem zip_rel : ∀ {ks : List Str} {vs : List V} {us : List Value}, Vals vs us → ∀ f : Str, RelO ((ks.zip vs).lookup f) ((ks.zip us).lookup f)
  | [], _, _, _, f => by simp [RelO]
  | _ :: _, _, _, .nil, f => by simp [RelO]
  | k :: ks, _, _, .cons r t, f => by
    rw [List.zip_cons_cons, List.zip_cons_cons, List.lookup_cons, List.lookup_cons]
    cases f == k with
    | true => exact r
    | false => exact zip_rel t f
section
variable {X : Cx} {pins : List (Addr × Obj)} {σ : L2.St} {H : Hp}
theorem laid_exc {hp h' : Heap} {g : Array GenState} {dr : Drawn} {tk tk' : Nat} {os : OsState} {e C d : Addr} {m : Str → Option Value} {fs : List (Str × V)}
    (I : L2.Inv X pins σ H ⟨hp, g, dr, tk, os⟩) (M : MadeM hp h' e C d m) (hr : ∀ f, RelO (fs.lookup f) (m f)) :
    H d = none ∧ H e = none ∧ L2.Inv X pins σ (upd (upd H d (.xd fs)) e (ExF C (some d) e)) ⟨h', g, dr, tk', os⟩ := by
  obtain ⟨oe, fv, hoe, hc, hd, hdat, h1⟩ := M.obj
  have hns := M.ns
  obtain ⟨G', g1, g2⟩ := restrict h' fun b => decide (b ≠ e)
  have gk : ∀ b, b ≠ e → G'.get? b = h'.get? b := fun b hb => g1 b (decide_eq_true hb)
  have ge : G'.get? e = none := g2 e (by simp)
  have old : ∀ b o, hp.get? b = some o → G'.get? b = some o := fun b o q => (gk b (Nat.ne_of_lt (Nat.lt_of_lt_of_le (Heap.lt_size q) M.new))).trans (M.keep b o q)
  have ob : ObjOk X.prog X.w (upd H d (.xd fs)) G' d (.xd fs) := ⟨m, hns.at (fun o q => (gk d M.ne).trans q), hr⟩
  have J : L2.Inv X pins σ (upd H d (.xd fs)) ⟨G', g, dr, tk', os⟩ := I.laid (t' := tk') old M.big ob
  have ne : upd H d (.xd fs) e = none := by
    rw [upd_ne (Ne.symm M.ne)]
    exact I.hok.fresh M.new
  have up : ∀ b o, G'.get? b = some o → h'.get? b = some o := fun b o q => by
    by_cases hb : b = e
    · rw [hb, ge] at q
      cases q
    · exact (gk b hb).symm.trans q
  exact ⟨I.hok.fresh M.big, I.hok.fresh M.new, J.laidN (s := ⟨G', g, dr, tk', os⟩) (t' := tk') up ge ne (exF_ok hoe ⟨hc, hd⟩ hdat)⟩
end
section
variable {X : Cx} {C fI : Addr} {x : Str} {k : Nat} {p pos : Pos} {e : Expr} {es : List Expr} {kws : List Keyword} {t tk : TA} {ks kks : List Str}
/-- C(e, ..) -/
def tMkP (C : Addr) (ks : List Str) (t : TA) : TE := fun σ H Q => t σ H fun vs H1 => vs.length = ks.length ∧ ∀ e d, H1 d = none → H1 e = none → d ≠ e → Q (.ref e) (upd (upd H1 d (.xd (ks.zip vs))) e (ExF C (some d) e))
theorem pe_mkP (T : ErrC X.K X.mg x C fI) (hr : Room k X.A) (M : ∀ us : List Value, us.length = ks.length → Makes X.K C us [] fun y => (ks.zip us).lookup y) (ha : PA X (e :: es) t) (hg : Gl X x := by rfl)
    (hdb : (x == ("__debug__" : Str)) = false := by decide) (he : starEach (e :: es) X.env = (false, eval e X.env) :: starEach es X.env := by rfl) (hpl : (backTo pos (starEach es X.env)).any (·.1) = false := by rfl) :
    PE X (.Call (.Name x p) (e :: es) [] pos) (tMkP C ks t) := by
  refine ⟨fun pins s σ H Q I h => ?_⟩
  refine wpAny_Call_Name_kw (ld_glob I hg T.gC ?_ hdb)
  refine PySem.W.callWith_K (h₀ := X.base) I.ok.mod.kin T.kC (thn (ha.run pos pins s σ H _ I h) fun us s1 hh => ?_) he hpl
  obtain ⟨vs, H1, I1, r1, hl, q1⟩ := hh
  refine ⟨I1.kIn, ?_⟩
  have hlim := I1.nolimit
  obtain ⟨hp, g, dr, tk, os⟩ := s1
  have hus : us.length = ks.length := r1.length.symm.trans hl
  show wpAny _ _ (call (.ref C) us) _ _ _
  refine wpAny_call (M us hus X.prog X.w _ _ _ I1.kIn hlim (by have := hr.dp; omega) (fun h' tk' e d MM => ?_))
  obtain ⟨n1, n2, J⟩ := laid_exc (tk' := tk') I1 MM (zip_rel r1)
  exact ⟨.ref e, _, J, rfl, q1 e d n1 n2 MM.ne⟩
/-- C(k = e, ..): the fields' values by g -/
def tMkK (C : Addr) (ks : List Str) (n : Nat) (g : {α : Type} → List α → List α) (tk : TA) : TE := fun σ H Q => tk σ H fun zs H1 => zs.length = n ∧ ∀ e d, H1 d = none → H1 e = none → d ≠ e → Q (.ref e) (upd (upd H1 d (.xd (ks.zip (g zs)))) e (ExF C (some d) e))
theorem pe_mkK {g : {α : Type} → List α → List α} (T : ErrC X.K X.mg x C fI) (hr : Room k X.A) (hg2 : ∀ {vs : List V} {us : List Value}, Vals vs us → Vals (g vs) (g us))
    (M : ∀ ws : List Value, ws.length = kks.length → Makes X.K C [] (kks.zip ws) fun y => (ks.zip (g ws)).lookup y) (hkw : PK X kws tk) (hg : Gl X x := by rfl)
    (hall : (backToKw pos (keywordEach kws X.env)).all (·.1.isSome) = true := by rfl) (hks : (backToKw pos (keywordEach kws X.env)).filterMap (·.1) = kks := by rfl)
    (hdb : (x == ("__debug__" : Str)) = false := by decide)
    (hpl : ((backTo pos (starEach [] X.env)).any (·.1) || (backToKw pos (keywordEach kws X.env)).any (·.1.isNone)) = false := by rfl) :
    PE X (.Call (.Name x p) [] kws pos) (tMkK C ks kks.length g tk) := by
  refine ⟨fun pins s σ H Q I h => ?_⟩
  refine wpAny_Call_Name_kw (ld_glob I hg T.gC ?_ hdb)
  refine PySem.W.callWith_KW0 (h₀ := X.base) I.ok.mod.kin T.kC hall ?_ hpl
  refine thn (hkw.run pos pins s σ H _ I h) fun ws s2 ⟨zs, H2, I2, rz, hl, q2⟩ => ⟨I2.kIn, ?_⟩
  rw [hks]
  have hlim := I2.nolimit
  have hws : ws.length = kks.length := rz.length.symm.trans hl
  obtain ⟨hp, gg, dr, tk, os⟩ := s2
  refine wpAny_call (M ws hws X.prog X.w _ _ _ I2.kIn hlim (by have := hr.dp; omega) (fun h' tk' e d MM => ?_))
  obtain ⟨n1, n2, J⟩ := laid_exc (tk' := tk') I2 MM (zip_rel (hg2 rz))
  exact ⟨.ref e, _, J, rfl, q2 e d n1 n2 MM.ne⟩
end
end Mq

namespace Mq
open PySem PySem.Spec PyProof.Rows L2
/-! ### such a call behind raise -/
section
variable {X : Cx} {pins : List (Addr × Obj)} {σ : L2.St} {H : Hp}
theorem flown {hp h' : Heap} {g : Array GenState} {dr : Drawn} {tk tk' : Nat} {os : OsState} {e C d : Addr} {m : Str → Option Value} {fs : List (Str × V)} {Q : XK}
    (I : L2.Inv X pins σ H ⟨hp, g, dr, tk, os⟩) (M : MadeM hp h' e C d m) (hr : ∀ f, RelO (fs.lookup f) (m f)) (rs : Raises X (.ref C)) (q : Q (.ref C) (some d) (upd H d (.xd fs))) (hd : H d = none) :
    MkP X pins σ Q (.ref e) ⟨h', g, dr, tk', os⟩ := by
  obtain ⟨oe, fv, hoe, hc, hd', hdat, h1⟩ := M.obj
  have hns := M.ns
  obtain ⟨G', g1, g2⟩ := restrict h' fun b => decide (b ≠ e)
  have gk : ∀ b, b ≠ e → G'.get? b = h'.get? b := fun b hb => g1 b (decide_eq_true hb)
  have ge : G'.get? e = none := g2 e (by simp)
  have old : ∀ b o, hp.get? b = some o → G'.get? b = some o := fun b o q => (gk b (Nat.ne_of_lt (Nat.lt_of_lt_of_le (Heap.lt_size q) M.new))).trans (M.keep b o q)
  have ob : ObjOk X.prog X.w (upd H d (.xd fs)) G' d (.xd fs) := ⟨m, hns.at (fun o q => (gk d M.ne).trans q), hr⟩
  have J : L2.Inv X pins σ (upd H d (.xd fs)) ⟨G', g, dr, tk', os⟩ := I.laid (t' := tk') old M.big ob
  refine ⟨e, oe, fv, ⟨G', g, dr, tk', os⟩, _, .ref C, some d, rfl, J, (fun b o q => ?_), ge, hoe, ⟨hc, hd'⟩, hdat, h1, ?_, rfl, I.bare, rs, q⟩
  · by_cases hb : b = e
    · have q' : G'.get? b = some o := q
      rw [hb, ge] at q'
      cases q'
    · exact (gk b hb).symm.trans q
  · rw [upd_ne (Ne.symm M.ne)]
    exact I.hok.fresh M.new
end
section
variable {X : Cx} {C fI : Addr} {x : Str} {k : Nat} {p pos : Pos} {e : Expr} {es : List Expr} {kws : List Keyword} {t tk : TA} {ks kks : List Str}
def tFlP (C : Addr) (ks : List Str) (t : TA) : L2.St → Hp → XK → Prop := fun σ H Q => t σ H fun vs H1 => vs.length = ks.length ∧ ∀ d, H1 d = none → Q (.ref C) (some d) (upd H1 d (.xd (ks.zip vs)))
theorem pmkP (T : ErrC X.K X.mg x C fI) (hr : Room k X.A) (M : ∀ us : List Value, us.length = ks.length → Makes X.K C us [] fun y => (ks.zip us).lookup y) (ha : PA X (e :: es) t) (hg : Gl X x := by rfl)
    (hdb : (x == ("__debug__" : Str)) = false := by decide) (he : starEach (e :: es) X.env = (false, eval e X.env) :: starEach es X.env := by rfl) (hpl : (backTo pos (starEach es X.env)).any (·.1) = false := by rfl) :
    PMk X (.Call (.Name x p) (e :: es) [] pos) (tFlP C ks t) := by
  intro pins s σ H Q I h
  refine wpAny_Call_Name_kw (ld_glob I hg T.gC ?_ hdb)
  refine PySem.W.callWith_K (h₀ := X.base) I.ok.mod.kin T.kC (thn (ha.run pos pins s σ H _ I h) fun us s1 hh => ?_) he hpl
  obtain ⟨vs, H1, I1, r1, hl, q1⟩ := hh
  refine ⟨I1.kIn, ?_⟩
  have hlim := I1.nolimit
  obtain ⟨hp, g, dr, tk, os⟩ := s1
  have hus : us.length = ks.length := r1.length.symm.trans hl
  show wpAny _ _ (call (.ref C) us) _ _ _
  refine wpAny_call (M us hus X.prog X.w _ _ _ I1.kIn hlim (by have := hr.dp; omega) (fun h' tk' e d MM => ?_))
  exact flown I1 MM (zip_rel r1) (raises_own T.exC T.tyC) (q1 d (I1.hok.fresh MM.big)) (I1.hok.fresh MM.big)
def tFlK (C : Addr) (ks : List Str) (n : Nat) (g : {α : Type} → List α → List α) (tk : TA) : L2.St → Hp → XK → Prop := fun σ H Q => tk σ H fun zs H1 => zs.length = n ∧ ∀ d, H1 d = none → Q (.ref C) (some d) (upd H1 d (.xd (ks.zip (g zs))))
theorem pmkK {g : {α : Type} → List α → List α} (T : ErrC X.K X.mg x C fI) (hr : Room k X.A) (hg2 : ∀ {vs : List V} {us : List Value}, Vals vs us → Vals (g vs) (g us))
    (M : ∀ ws : List Value, ws.length = kks.length → Makes X.K C [] (kks.zip ws) fun y => (ks.zip (g ws)).lookup y) (hkw : PK X kws tk) (hg : Gl X x := by rfl)
    (hall : (backToKw pos (keywordEach kws X.env)).all (·.1.isSome) = true := by rfl) (hks : (backToKw pos (keywordEach kws X.env)).filterMap (·.1) = kks := by rfl)
    (hdb : (x == ("__debug__" : Str)) = false := by decide)
    (hpl : ((backTo pos (starEach [] X.env)).any (·.1) || (backToKw pos (keywordEach kws X.env)).any (·.1.isNone)) = false := by rfl) :
    PMk X (.Call (.Name x p) [] kws pos) (tFlK C ks kks.length g tk) := by
  intro pins s σ H Q I h
  refine wpAny_Call_Name_kw (ld_glob I hg T.gC ?_ hdb)
  refine PySem.W.callWith_KW0 (h₀ := X.base) I.ok.mod.kin T.kC hall ?_ hpl
  refine thn (hkw.run pos pins s σ H _ I h) fun ws s2 ⟨zs, H2, I2, rz, hl, q2⟩ => ⟨I2.kIn, ?_⟩
  rw [hks]
  have hlim := I2.nolimit
  have hws : ws.length = kks.length := rz.length.symm.trans hl
  obtain ⟨hp, gg, dr, tk, os⟩ := s2
  refine wpAny_call (M ws hws X.prog X.w _ _ _ I2.kIn hlim (by have := hr.dp; omega) (fun h' tk' e d MM => ?_))
  exact flown I2 MM (zip_rel (hg2 rz)) (raises_own T.exC T.tyC) (q2 d (I2.hok.fresh MM.big)) (I2.hok.fresh MM.big)
end
end Mq

namespace Mq
open PySem PySem.Spec PyProof.Rows L2
section
variable {X : Cx} {pins : List (Addr × Obj)} {σ : L2.St} {H : Hp} {s : Shared}
/-- repr where an error is held: only the room below counts -/
theorem call_repU' (hu : X.A.units + 200 < cLine) (gA : Still X.A) : CallR X (.builtin "repr") (rRep X.K) := by
  intro pins s σ H xs us Q I r h
  obtain ⟨v, d, rfl, hd, hs, hz, hl, q⟩ := h
  cases r with
  | cons rx rr =>
    cases rr
    obtain ⟨as, rd, hn⟩ := Dg.rd I hd rx
    have leaf : ∀ {d : PyData} {t : Tok}, Q (.str d.shown) H → EP X pins σ Q (.str d.shown t) { s with toks := s.toks + 1 } :=
      fun {d t} q => ⟨.str d.shown, H, I.tok _, ⟨_, rfl⟩, q⟩
    cases hd with
    | non =>
      cases rx
      exact PySem.P.repr_of_none (leaf (d := .none) q)
    | bl b =>
      cases rx
      exact PySem.P.repr_of_bool (leaf (d := .bool b) q)
    | int i =>
      obtain ⟨t, rfl⟩ := rx
      exact PySem.P.repr_of_int (by simpa [PyData.showable] using hs) (leaf (d := .int i) q)
    | str x =>
      obtain ⟨t, rfl⟩ := rx
      refine PySem.P.repr_of_str (leaf (d := .str x) q) ?_
      simpa only [PyData.shown] using hl
    | lst ne h1 h2 =>
      cases rx
      exact repr_of_reads' rd hs (fun _ => hn) gA (by omega) (fun _ _ e => e) (fun h' u tk k => ⟨.str _, H, I.kept k, ⟨_, rfl⟩, q⟩) hl
    | tup h1 h2 =>
      cases rx
      exact repr_of_reads' rd hs (fun _ => hn) gA (by omega) (fun _ _ e => e) (fun h' u tk k => ⟨.str _, H, I.kept k, ⟨_, rfl⟩, q⟩) hl
    | dct h1 h2 =>
      cases rx
      exact repr_of_reads' rd hs (fun _ => hn) gA (by omega) (fun _ _ e => e) (fun h' u tk k => ⟨.str _, H, I.kept k, ⟨_, rfl⟩, q⟩) hl
/-- the same, the written part named -/
theorem call_repU {K0 : PySem.W.Frag} (hK : X.K = K0) (hu : X.A.units + 200 < cLine) (gA : Still X.A) : CallR X (.builtin "repr") (rRep K0) := hK ▸ call_repU' hu gA
theorem pe_bmK {K0 : PySem.W.Frag} {e : Expr} {T : String} {r : V → List V → Hp → VK → Prop} {to : TE} {t : TA} (hK : X.K = K0) (h : PE X e (tBM X.K T r to t)) : PE X e (tBM K0 T r to t) := hK ▸ h
end
end Mq

namespace Mq
open PySem PySem.Spec PyProof.Rows L2
/-! ### own objects: a field as a target among others; len and == by methods of their own -/
def gFld (K : PySem.W.Frag) (ta : TE) (f : Str) : TG := fun v σ H Q => ta σ H fun x H1 => ∃ a C dx fs, x = .ref a ∧ H1 a = some (.ins C dx fs) ∧ Cls K C ∧ NoAttr K C f ∧ fs.length < 1000 ∧ Q σ (upd H1 a (.ins C dx (putF f v fs)))
theorem pg_fld {X : Cx} {o : Expr} {f : Str} {pos : Pos} {ta : TE} (ho : PE X o ta) : PG X (.Attribute o f pos) (gFld X.K ta f) := by
  refine ⟨fun pins s σ H v u Q I r h => PySem.W.kas_attr (thn (ho.run pins s σ H _ I h) ?_)⟩
  rintro ov s1 ⟨x, H1, I1, rx, a, C, dx, fs, rfl, ea, c, n, hl, q⟩
  cases rx
  exact setattr_ok I1 ea c n hl r fun s' I2 => ⟨σ, _, I2, q⟩
section
variable {X : Cx} {pins : List (Addr × Obj)} {σ : L2.St} {H : Hp} {s : Shared} {a C dx : Addr} {fs : List (Str × V)}
theorem inst_of (I : L2.Inv X pins σ H s) (ea : H a = some (.ins C dx fs)) : ∃ o, PySem.W.InstAt s.heap a (PySem.W.instObj C dx) C (some o) := by
  have o := I.hok a _ ea
  unfold ObjOk at o
  obtain ⟨_, _, _, hget, mA, ⟨od, es, ep, ho, _⟩, _⟩ := o
  exact ⟨od, hget, rfl, rfl, ho⟩
end
/-- len(o) by the class's own def -/
def rLenO (C : Addr) (sp : Sp) (E : XK) : List V → Hp → VK → Prop := fun xs H Q => ∃ a dx fs, xs = [.ref a] ∧ H a = some (.ins C dx fs) ∧ sp [.ref a] H (fun v H' => ∃ n : Nat, v = .int (n : Nat) ∧ n ≤ 1000000 ∧ Q (.int (n : Nat)) H') E
theorem call_lenO {X : Cx} {CX : CXT} {k : Nat} {f C : Addr} {fd : FuncData} {ps : List Str} {sp : Sp} {E : XK} (hm : Meth X.K C "__len__" f)
    (F : FnOk X.prog X.w X.K X.mg X.base CX k f fd ps sp) (hr : Room (k + 1) X.A) (hb : Binds X.K fd ps []) (hx : Passes CX X E) : CallR X (.builtin "len") (rLenO C sp E) := by
  intro pins s σ H xs us Q I r h
  obtain ⟨a, dx, fs, rfl, ea, q⟩ := h
  cases r with
  | cons rx rr =>
    cases rr
    cases rx
    obtain ⟨o, J⟩ := inst_of I ea
    obtain ⟨m, fr⟩ := I.fr
    refine PySem.W.len_K fr I.ok.mod.kin J hm.at_ hm.fn ?_
    have rv : Vals [V.ref a] [Value.ref a] := .cons rfl .nil
    have hl : [Value.ref a].length = ps.length := F.len _ _ _ _ q
    have b := hb s [.ref a] I.kIn (by rw [List.append_nil]; exact hl)
    rw [List.append_nil] at b
    refine wpAny_call (codeAny_mono (F.run X.A.in1 X.stack s H ⟨[.ref a], []⟩ [.ref a] [.ref a] _ E hr.in1 I.env0.in1 b rv q) (fun r s' hq => ?_))
    match r, hq with
    | .error er, hq => exact hx pins σ H s er s' I hq
    | .ok (.ret u), hq =>
      obtain ⟨v, H', I', rv', n, rfl, hn, q'⟩ := I.after hq
      obtain ⟨t, rfl⟩ := rv'
      refine ⟨⟨by omega, by omega⟩, .int (n : Nat), H', ?_, ⟨_, rfl⟩, q'⟩
      exact I'.kept (h' := s'.heap) (t' := s'.toks + 1) (fun _ _ z => z)
    | .ok .next, hq => exact hq.elim
    | .ok .brk, hq => exact hq.elim
    | .ok .cont, hq => exact hq.elim
/-- o == p, both of one class, by the class's own def -/
def rEqO (K : PySem.W.Frag) (C : Addr) (sp : Sp) (E : XK) : R2 := fun x y H Q => ∃ a b dx dy fs gs, x = .ref a ∧ y = .ref b ∧ H a = some (.ins C dx fs) ∧ H b = some (.ins C dy gs) ∧ sp [.ref a, .ref b] H (fun v H' => ∃ r : Bool, v = .bl r ∧ Q (.bl r) H') E
theorem op_eqO {X : Cx} {CX : CXT} {k : Nat} {f C : Addr} {fd : FuncData} {ps : List Str} {sp : Sp} {E : XK} (hm : Meth X.K C "__eq__" f)
    (F : FnOk X.prog X.w X.K X.mg X.base CX k f fd ps sp) (hr : Room k X.A) (hb : Binds X.K fd ps []) (hx : Passes CX X E) : OpR X (compareOp .Eq) (rEqO X.K C sp E) := by
  intro pins s σ H x y v u Q I rx ry h
  obtain ⟨a, b, dx, dy, fs, gs, rfl, rfl, ea, eb, q⟩ := h
  cases rx
  cases ry
  obtain ⟨o, J⟩ := inst_of I ea
  obtain ⟨o2, J2⟩ := inst_of I eb
  obtain ⟨m, fr⟩ := I.fr
  refine PySem.W.cmp_ofEq (PySem.W.cmp_K (tb := .ref C) (by have := hr.un; omega) fr I.ok.mod.kin J ?_ ?_ hm.at_ hm.fn ?_)
  · exact J2.type
  · show (_ || _) = true
    rw [show ((Value.ref C == Value.ref C) = true) by simp]
    rfl
  · have rv : Vals [V.ref a, V.ref b] [Value.ref a, Value.ref b] := .cons rfl (.cons rfl .nil)
    have hl : [Value.ref a, Value.ref b].length = ps.length := F.len _ _ _ _ q
    have bd := hb s [.ref a, .ref b] I.kIn (by rw [List.append_nil]; exact hl)
    rw [List.append_nil] at bd
    refine wpAny_call (codeAny_mono (F.run X.A X.stack s H ⟨[.ref a, .ref b], []⟩ [.ref a, .ref b] [.ref a, .ref b] _ E hr I.env0 bd rv q) (fun r s' hq => ?_))
    match r, hq with
    | .error er, hq => exact hx pins σ H s er s' I hq
    | .ok (.ret u), hq =>
      obtain ⟨v, H', I', rv', r, rfl, q'⟩ := I.after hq
      cases rv'
      exact ⟨.bl r, H', I', rfl, q'⟩
    | .ok .next, hq => exact hq.elim
    | .ok .brk, hq => exact hq.elim
    | .ok .cont, hq => exact hq.elim
end Mq

namespace Mq
open PySem PySem.Spec PyProof.Rows L2
/-! ### str(o) by the class's own def -/
def rStrO (C : Addr) (sp : Sp) (E : XK) : List V → Hp → VK → Prop := fun xs H Q => ∃ a dx fs, xs = [.ref a] ∧ H a = some (.ins C dx fs) ∧ sp [.ref a] H (fun v H' => ∃ y : Str, v = .str y ∧ Q (.str y) H') E
theorem call_strO {X : Cx} {CX : CXT} {k : Nat} {f C : Addr} {fd : FuncData} {ps : List Str} {sp : Sp} {E : XK} (hm : Meth X.K C "__str__" f)
    (F : FnOk X.prog X.w X.K X.mg X.base CX k f fd ps sp) (hr : Room (k + 2) X.A) (hb : Binds X.K fd ps []) (hx : Passes CX X E) : CallR X (.type "str") (rStrO C sp E) := by
  intro pins s σ H xs us Q I r h
  obtain ⟨a, dx, fs, rfl, ea, q⟩ := h
  cases r with
  | cons rx rr =>
    cases rr
    cases rx
    obtain ⟨o, J⟩ := inst_of I ea
    have hu : X.A.in1.in1.units < cLine := by
      have := hr.in1.in1.units
      omega
    refine PySem.W.kso_call hu I.kIn J hm.at_ hm.fn ?_
    have rv : Vals [V.ref a] [Value.ref a] := .cons rfl .nil
    have hl : [Value.ref a].length = ps.length := F.len _ _ _ _ q
    have b := hb s [.ref a] I.kIn (by rw [List.append_nil]; exact hl)
    rw [List.append_nil] at b
    refine wpAny_call (codeAny_mono (F.run X.A.in1.in1 X.stack s H ⟨[.ref a], []⟩ [.ref a] [.ref a] _ E hr.in1.in1 I.env0.in1.in1 b rv q) (fun r s' hq => ?_))
    match r, hq with
    | .error er, hq => exact hx pins σ H s er s' I hq
    | .ok (.ret u), hq =>
      obtain ⟨v, H', I', rv', y, rfl, q'⟩ := I.after hq
      obtain ⟨t, rfl⟩ := rv'
      exact ⟨.str y, H', I', ⟨_, rfl⟩, q'⟩
    | .ok .next, hq => exact hq.elim
    | .ok .brk, hq => exact hq.elim
    | .ok .cont, hq => exact hq.elim
end Mq

namespace Mq
open PySem PySem.Spec PyProof.Rows L2
/-! ### an own object made within a try -/
section
variable {X : Cx} {CX : CXT} {k n : Nat} {f C : Addr} {fd : FuncData} {ps ks : List Str} {sp : Sp} {E : XK} {ES : L2.St → XK}
  {g : List Value → List Value → List Value} {gV : List V → List V → List V} {pins : List (Addr × Obj)} {σ : L2.St} {H : Hp} {s : Shared} {Q : VK} {us ws : List Value} {vs zs : List V}
  {x : Str} {p pos : Pos} {kws : List Keyword} {tk t : TA} {e : Expr} {es : List Expr}
theorem run_makeS (M : Mk X.K C f) (F : FnOk X.prog X.w X.K X.mg X.base CX k f fd ps sp) (hr : Room (k + 1) X.A) (hb : KBn X.K fd ps (n + 1) ks g gV) (hx : PassesAt CX X σ E)
    (I : Inv X pins σ H s) (ru : Vals vs us) (rz : Vals zs ws) (hn : vs.length = n) (hm : zs.length = ks.length)
    (h : ∀ x dx, H x = none → H dx = none → dx ≠ x → sp (gV (.ref x :: vs) zs) (upd (upd H dx (.own x)) x (.ins C dx [])) (fun v H2 => v = .non ∧ Q (.ref x) H2) E) :
    wpAny (model X.prog X.w) X.A (call (.ref C) us (ks.zip ws)) (EP X pins σ Q) X.xe s := by
  have I1 := I.made (C := C)
  have lt : ∀ {b : Addr} {o : HO}, H b = some o → b < s.heap.objs.size := fun {b o} e => I.hok.lt e
  have n0 : H s.heap.objs.size = none := by
    cases e : H s.heap.objs.size with
    | none => rfl
    | some o => exact absurd (lt e) (Nat.lt_irrefl _)
  have n1 : H (s.heap.objs.size + 1) = none := by
    cases e : H (s.heap.objs.size + 1) with
    | none => rfl
    | some o => exact absurd (Nat.lt_trans (Nat.lt_succ_self _) (lt e)) (Nat.lt_irrefl _)
  refine wpAny_call (Att.make_obj I.kIn M.makes M.init M.fn ?_)
  refine codeAny_mono (F.run _ X.stack _ _ ⟨.ref (s.heap.objs.size + 1) :: us, ks.zip ws⟩ (g (.ref (s.heap.objs.size + 1) :: us) ws) (gV (.ref (s.heap.objs.size + 1) :: vs) zs) _ E (hr.make _ _ _) (I1.env0.make _ _ _)
    (hb.to _ (.ref (s.heap.objs.size + 1) :: us) ws I1.kIn (by rw [List.length_cons, ← ru.length, hn]) (rz.length.symm.trans hm)) (hb.rel (.cons rfl ru) rz) (h _ _ n1 n0 (Nat.ne_of_lt (Nat.lt_succ_self _)))) (fun r s' hq => ?_)
  match r, hq with
  | .error er, hq => exact hx pins _ _ er s' I1 hq
  | .ok (.ret u), hq =>
    obtain ⟨v, H', I', rv', rfl, q'⟩ := I1.after hq
    cases rv'
    exact ⟨rfl, .ref _, H', I', rfl, q'⟩
  | .ok .next, hq => exact hq.elim
  | .ok .brk, hq => exact hq.elim
  | .ok .cont, hq => exact hq.elim
def tMakeS (C : Addr) (m : Nat) (sp : Sp) (gV : List V → List V → List V) (ES : L2.St → XK) (tk : TA) : TE := fun σ H Q => tk σ H fun zs H2 => zs.length = m ∧ ∀ x dx, H2 x = none → H2 dx = none → dx ≠ x → sp (gV [.ref x] zs) (upd (upd H2 dx (.own x)) x (.ins C dx [])) (fun v H3 => v = .non ∧ Q (.ref x) H3) (ES σ)
/-- x(k = v, ..), what is raised being wished for at the slots as they stand -/
theorem pe_makeKS (M : Mk X.K C f) (F : FnOk X.prog X.w X.K X.mg X.base CX k f fd ps sp) (hr : Room (k + 1) X.A) (hg : Gl X x) (hm : X.mg x = some (.ref C)) (hb : KBn X.K fd ps 1 ks g gV)
    (hx : ∀ σ, PassesAt CX X σ (ES σ)) (hkw : PK X kws tk)
    (hall : (backToKw pos (keywordEach kws X.env)).all (·.1.isSome) = true := by rfl)
    (hks : (backToKw pos (keywordEach kws X.env)).filterMap (·.1) = ks := by rfl)
    (hdb : (x == ("__debug__" : Str)) = false := by decide)
    (hpl : ((backTo pos (starEach [] X.env)).any (·.1) || (backToKw pos (keywordEach kws X.env)).any (·.1.isNone)) = false := by rfl) :
    PE X (.Call (.Name x p) [] kws pos) (tMakeS C ks.length sp gV ES tk) := by
  refine ⟨fun pins s σ H Q I h => ?_⟩
  refine wpAny_Call_Name_kw (ld_glob I hg hm ?_ hdb)
  refine PySem.W.callWith_KW0 (h₀ := X.base) I.ok.mod.kin M.kp hall ?_ hpl
  refine thn (hkw.run pos pins s σ H _ I h) fun ws s2 ⟨zs, H2, I2, rz, hl, q2⟩ => ⟨I2.kIn, ?_⟩
  rw [hks]
  exact run_makeS (n := 0) (vs := []) (us := []) M F hr hb (hx σ) I2 .nil rz rfl hl q2
def tMakeP (C : Addr) (m : Nat) (sp : Sp) (ES : L2.St → XK) (t : TA) : TE := fun σ H Q => t σ H fun vs H2 => vs.length = m ∧ ∀ x dx, H2 x = none → H2 dx = none → dx ≠ x → sp (.ref x :: vs) (upd (upd H2 dx (.own x)) x (.ins C dx [])) (fun v H3 => v = .non ∧ Q (.ref x) H3) (ES σ)
/-- x(e, ..), so too -/
theorem pe_makeS {m : Nat} (M : Mk X.K C f) (F : FnOk X.prog X.w X.K X.mg X.base CX k f fd ps sp) (hr : Room (k + 1) X.A) (hg : Gl X x) (hm : X.mg x = some (.ref C)) (hb : Binds X.K fd ps []) (hps : ps.length = m + 1)
    (hx : ∀ σ, PassesAt CX X σ (ES σ)) (ha : PA X (e :: es) t) (hdb : (x == ("__debug__" : Str)) = false := by decide)
    (he : starEach (e :: es) X.env = (false, eval e X.env) :: starEach es X.env := by rfl) (hpl : (backTo pos (starEach es X.env)).any (·.1) = false := by rfl) :
    PE X (.Call (.Name x p) (e :: es) [] pos) (tMakeP C m sp ES t) := by
  refine ⟨fun pins s σ H Q I h => ?_⟩
  refine wpAny_Call_Name_kw (ld_glob I hg hm ?_ hdb)
  refine PySem.W.callWith_K (h₀ := X.base) I.ok.mod.kin M.kp (thn (ha.run pos pins s σ H _ I h) fun us s1 ⟨vs, H1, I1, r, hl, q⟩ => ⟨I1.kIn, ?_⟩) he hpl
  have kb : KBn X.K fd ps (m + 1) [] (fun us _ => us) (fun vs _ => vs) := by
    refine ⟨fun s us ws kin h1 h2 => ?_, fun a _ => a⟩
    have b := hb s us kin (by rw [List.append_nil, hps, h1])
    rw [List.append_nil] at b
    exact b
  exact run_makeS (n := m) (zs := []) (ws := []) (ks := []) M F hr kb (hx σ) I1 r .nil hl rfl q
end
end Mq

namespace Mq
open PySem PySem.Spec PyProof.Rows L2
/-! ### data that stays is what it is -/
mutual
theorem eqv_td {K : PySem.W.Frag} {H : Hp} : ∀ {v : V} {d : PyData}, Td K H v d → PyData.eqv d d = true
  | _, _, .int i => by simp [PyData.eqv]
  | _, _, .str x => by simp [PyData.eqv]
  | _, _, .tup _ a => by
    simp only [PyData.eqv]
    exact eqv_tds a
theorem eqv_tds {K : PySem.W.Frag} {H : Hp} : ∀ {vs : List V} {ds : List PyData}, TdAll K H vs ds → PyData.eqvAll ds ds = true
  | _, _, .nil => by simp [PyData.eqvAll]
  | _, _, .cons a b => by
    simp only [PyData.eqvAll]
    rw [eqv_td a, eqv_tds b]
    rfl
end
theorem shaped_gd {w n : Nat} {d : PyData} (h : Gd w n d) (hn : n ≤ 64) : SeqAt.shaped d = true := by
  unfold SeqAt.shaped
  rw [h.cl, decide_eq_true (Nat.le_trans h.de hn)]
  rfl
end Mq

namespace Mq
open PySem PySem.Spec PyProof.Rows L2
/-! ### a dict beside a whole number -/
theorem dsa_eq (a : Addr) (b : Int) (u : Tok) : Builtin.Dict.dictSlotArgs "__eq__" ⟨[.ref a, .int b u], []⟩ = pure (.ref a, .int b u) := by rfl
theorem isa_eq (a : Addr) (b : Int) (u : Tok) : slotArgs "__eq__" 1 ⟨[.int b u, .ref a], []⟩ = pure (.int b u, [.ref a]) := by rfl
theorem sub_id : isSubtype (Value.type "int") (Value.type "dict") = pure false := by rfl
theorem dict_not_int (a : Addr) (b : Int) (u : Tok) : Meets (Builtin.«dict.__eq__» ⟨[.ref a, .int b u], []⟩) (fun _ R s => R (.ok (.ret .notImplemented)) s) := by
  intro prog w A R s hr
  unfold Builtin.«dict.__eq__»
  refine wpAny_bind ?_
  rw [dsa_eq]
  refine wpAny_pure ?_
  refine wpAny_bind ?_
  show wpAny _ _ (isSubtype (Value.type "int") (Value.type "dict")) _ _ _
  rw [sub_id]
  refine wpAny_pure ?_
  refine wpAny_bind (wpAny_rule ?_)
  exact wpAny_pure hr
theorem int_not_dict (a : Addr) (b : Int) (u : Tok) : Meets (Builtin.«int.__eq__» ⟨[.int b u, .ref a], []⟩) (fun _ R s => (∃ o es ep, s.heap.get? a = some o ∧ o.data = .dict es ep) ∧ R (.ok (.ret .notImplemented)) s) := by
  rintro prog w A R s ⟨⟨o, es, ep, ho, hd⟩, hr⟩
  unfold Builtin.«int.__eq__»
  refine wpAny_bind ?_
  rw [isa_eq]
  refine wpAny_pure ?_
  refine wpAny_bind (Q := _) ?_
  show wpAny _ _ (Builtin.Int.intOfSelf (.int b u)) _ _ _
  unfold Builtin.Int.intOfSelf
  refine wpAny_bind (wpAny_pure (wpAny_pure ?_))
  refine wpAny_bind ?_
  show wpAny _ _ (asInt? (.ref a)) _ _ _
  unfold asInt?
  refine wpAny_bind (wpAny_load ho ?_)
  rw [hd]
  refine wpAny_pure ?_
  refine wpAny_bind (wpAny_rule ?_)
  exact wpAny_pure hr
theorem op_eqDI {X : Cx} (hu : X.A.units < cLine) : OpR X (compareOp .Eq) (fun x y H Q => ∃ a kvs i, x = .ref a ∧ y = .int i ∧ H a = some (.dK kvs) ∧ Q (.bl false) H) := by
  intro pins s σ H x y v u Q I rx ry h
  obtain ⟨a, kvs, i, rfl, rfl, ha, q⟩ := h
  cases rx
  obtain ⟨t, rfl⟩ := ry
  have ok := I.hok a _ ha
  unfold ObjOk at ok
  obtain ⟨_, _, vs, _, dk⟩ := ok
  obtain ⟨o, es, ep, ho, hd, hcl⟩ : ∃ o es ep, s.heap.get? a = some o ∧ o.data = .dict es ep ∧ o.cls = .type "dict" := by
    obtain ⟨o, es, ep, h1, h2, h3, _⟩ := dk
    exact ⟨o, es, ep, h1, h3, h2.1⟩
  refine PySem.W.cmp_ofEq (SeqAt.rc_eq_decline_or (k := false) (Ta := "dict") (Tb := "int") ⟨o, ho, hcl⟩ (rfl : typeOf (.int i t) = _) (by decide) sub_id PySem.F.slot_dict_eq PySem.F.slot_int_eq_refl (fun Q' hq => ?_) (fun Q' hq => ?_) (fun Q' hq => ?_) (Or.inr hu) ⟨.bl false, H, I, rfl, q⟩)
  · exact call_meets PySem.F.slot_dict_eq ⟨o, ho, hcl⟩ PySem.F.entry_dict_eq (PySem.F.args_dict_eq_2 _ _) (dict_not_int a i t) hq
  · exact call_meets PySem.F.slot_int_eq_refl (rfl : typeOf (.int i t) = _) PySem.F.entry_int_eq (PySem.F.args_int_eq_2 _ _) (int_not_dict a i t) ⟨⟨o, es, ep, ho, hd⟩, hq⟩
  · exact wpAny_pure hq
theorem op_or {X : Cx} {f : Value → Value → Sem Value} {r1 r2 : R2} (h1 : OpR X f r1) (h2 : OpR X f r2) : OpR X f (fun x y H Q => r1 x y H Q ∨ r2 x y H Q) := by
  intro pins s σ H x y v u Q I rx ry h
  rcases h with h | h
  · exact h1 pins s σ H x y v u Q I rx ry h
  · exact h2 pins s σ H x y v u Q I rx ry h
end Mq

namespace Mq
open PySem PySem.Spec PyProof.Rows L2
/-! ### own objects with an `__eq__` of their own beside values of other kinds -/
section
variable {prog : Program} {w : World} {A : Around} {E : Value → Shared → Prop} {s : Shared} {K : PySem.W.Frag} {x C f : Addr} {ox : Obj} {od : Option Obj} {b tb : Value}
theorem try_own {op : Str} {Q : Value → Shared → Prop} (X : K.In s.heap) (I : PySem.W.InstAt s.heap x ox C od) (hs : PySem.W.findIn K (.ref C) op = some (some (.ref f))) (hf : PySem.W.isFn K (.ref f) = true)
    (h : wpAny (model prog w) A (call (.ref f) [.ref x, b]) (PySem.W.CmpBack Q) E s) : wpAny (model prog w) A (tryCompare (.ref x) op b) (fun r s' => ∃ v, r = some v ∧ Q v s') E s := by
  unfold tryCompare
  refine wpAny_bind (PySem.W.ifBound_K X I hs hf (wpAny_mono h (fun v s' hv => ?_) fun _ _ e => e))
  cases v <;> first | exact hv.elim | exact wpAny_pure ⟨_, rfl, hv⟩
/-- o == v, v of another kind -/
theorem rc_eqOV {T : String} {Q : Value → Shared → Prop} (hu : A.units < cLine) (X : K.In s.heap) (I : PySem.W.InstAt s.heap x ox C od) (hT : s.TypeIs b T) (hsub : PySem.W.subIn K (.type T) (.ref C) = some false)
    (hs : PySem.W.findIn K (.ref C) "__eq__" = some (some (.ref f))) (hf : PySem.W.isFn K (.ref f) = true)
    (h : wpAny (model prog w) A (call (.ref f) [.ref x, b]) (PySem.W.CmpBack Q) E s) : wpAny (model prog w) A (richCompare .Eq (.ref x) b) Q E s := by
  have one := try_own X I hs hf h
  simp only [richCompare, cmpInfo_Eq, oneThing_ref]
  refine wpAny_holding (wpAny_bind (wpAny_cRoomFor hu ?_))
  refine wpAny_bind (I.type.here ?_)
  refine wpAny_bind (wpAny_typeOf hT ?_)
  split
  · refine wpAny_bind ((PySem.W.looks_subIn X hsub).here ?_)
    simp only [Bool.false_eq_true, if_false, Bool.not_false, if_true]
    refine wpAny_bind (wpAny_mono one (fun r s' z => ?_) fun _ _ e => e)
    obtain ⟨v, rfl, hq⟩ := z
    exact wpAny_pure hq
  · rename_i q
    exact absurd (by simp) q
/-- v == o, v of another kind, whose own == declines -/
theorem rc_eqVO {T id : String} {Q : Value → Shared → Prop} (hu : A.units < cLine) (X : K.In s.heap) (I : PySem.W.InstAt s.heap x ox C od) (hT : s.TypeIs b T) (hsub : PySem.W.subIn K (.ref C) (.type T) = some false)
    (sl : Slot T "__eq__" id) (hc : ∀ Q' : Value → Shared → Prop, Q' .notImplemented s → wpAny (model prog w) A (call (.builtin id) [b, .ref x]) Q' E s)
    (hs : PySem.W.findIn K (.ref C) "__eq__" = some (some (.ref f))) (hf : PySem.W.isFn K (.ref f) = true)
    (h : wpAny (model prog w) A (call (.ref f) [.ref x, b]) (PySem.W.CmpBack Q) E s) : wpAny (model prog w) A (richCompare .Eq b (.ref x)) Q E s := by
  have one := try_own X I hs hf h
  have two : wpAny (model prog w) A (tryCompare b "__eq__" (.ref x)) (fun r s' => r = none ∧ s' = s) E s := wpAny_tryCompare_declines hT sl (hc _ ⟨rfl, rfl, rfl⟩)
  simp only [richCompare, cmpInfo_Eq, hT.oneThing_none]
  refine wpAny_holding (wpAny_bind (wpAny_cRoomFor hu ?_))
  refine wpAny_bind (wpAny_typeOf hT ?_)
  refine wpAny_bind (I.type.here ?_)
  split
  · refine wpAny_bind ((PySem.W.looks_subIn X hsub).here ?_)
    simp only [Bool.false_eq_true, if_false, Bool.not_false, if_true]
    refine wpAny_bind (m := tryCompare b _ (.ref x)) (wpAny_mono two (fun r s1 z => ?_) fun _ _ e => e)
    obtain ⟨z1, z2⟩ := z
    subst z1
    subst z2
    refine wpAny_bind (m := tryCompare (.ref x) _ b) (wpAny_mono one (fun r s' z => ?_) fun _ _ e => e)
    obtain ⟨v, rfl, hq⟩ := z
    exact wpAny_pure hq
  · rename_i q
    exact absurd (by simp) q
/-! != by the class's own == -/
theorem entry_neO {Q : Fin → Shared → Prop} (hu : A.units < cLine) (X : K.In s.heap) (I : PySem.W.InstAt s.heap x ox C od) (hs : PySem.W.findIn K (.ref C) "__eq__" = some (some (.ref f))) (hf : PySem.W.isFn K (.ref f) = true)
    (h : wpAny (model prog w) A (call (.ref f) [.ref x, b]) (fun v s' => ∃ r : Bool, v = .bool r ∧ Q (.done (.ret (.bool (!r)))) s') E s) :
    wpAny (model prog w) A (Builtin.«object.__ne__» ⟨[.ref x, b], []⟩) Q E s := by
  unfold Builtin.«object.__ne__»
  refine wpAny_bind ?_
  rw [show slotArgs "__ne__" 1 ⟨[.ref x, b], []⟩ = pure (.ref x, [b]) by rfl]
  refine wpAny_pure ?_
  refine wpAny_bind (wpAny_cRoomFor hu ?_)
  refine wpAny_bind (PySem.W.ifBound_K X I hs hf (wpAny_mono h (fun v s' hv => ?_) fun _ _ e => e))
  obtain ⟨r, rfl, q⟩ := hv
  exact wpAny_bind (wpAny_truthy_bool (wpAny_pure q))
theorem ifBound_objNe {M : Model} {args : List Value} {Q : Option Value → Shared → Prop} (X : K.In s.heap) (I : PySem.W.InstAt s.heap x ox C od) (hs : PySem.W.findIn K (.ref C) "__ne__" = some (some (.builtin "object.__ne__")))
    (h : wpAny M A (call (.builtin "object.__ne__") (.ref x :: args)) (fun v => Q (some v)) E s) : wpAny M A (callSpecialIfBound? (.ref x) "__ne__" args) Q E s := by
  simp only [callSpecialIfBound?, bindSpecialIfBound?]
  refine wpAny_holding (wpAny_bind (wpAny_bind (wpAny_bind (I.type.here ((PySem.W.looks_findIn X hs).here ?_)))))
  refine wpAny_bind (wpAny_askSetting (wpAny_ite ?_))
  have fin : wpAny M A (call (.builtin "object.__ne__") ([.ref x] ++ args) >>= fun v => pure (some v)) Q E s := wpAny_bind (wpAny_mono h (fun v s' h' => wpAny_pure h') fun _ _ h' => h')
  split
  · exact wpAny_bind (wpAny_of_eq (F.cmp_object.ne.bind _) (wpAny_pure (by exact fin)))
  · exact wpAny_tryCatch (wpAny_bind (wpAny_of_eq (F.cmp_object.ne.bind _) (wpAny_pure (by exact fin))))
/-- o != v -/
theorem rc_neO {Q : Value → Shared → Prop} (hu : A.units + 1 < cLine) (X : K.In s.heap) (I : PySem.W.InstAt s.heap x ox C od) (ht : ∀ Q : Value → Shared → Prop, Q tb s → wpAny (model prog w) A (typeOf b) Q E s)
    (hn : tb = .ref C ∨ PySem.W.subIn K tb (.ref C) = some false) (hm : PySem.W.mroIn K C (.type "object") = some true) (hne : PySem.W.findIn K (.ref C) "__ne__" = some (some (.builtin "object.__ne__")))
    (hs : PySem.W.findIn K (.ref C) "__eq__" = some (some (.ref f))) (hf : PySem.W.isFn K (.ref f) = true)
    (h : wpAny (model prog w) A.in1 (call (.ref f) [.ref x, b]) (fun v s' => ∃ r : Bool, v = .bool r ∧ Q (.bool (!r)) s') E s) : wpAny (model prog w) A (richCompare .NotEq (.ref x) b) Q E s := by
  have hu0 : A.units < cLine := Nat.lt_of_succ_lt hu
  have one : wpAny (model prog w) A (tryCompare (.ref x) "__ne__" b) (fun r s' => ∃ v, r = some v ∧ Q v s') E s := by
    unfold tryCompare
    refine wpAny_bind (ifBound_objNe X I hne (wpAny_call (codeAny_call_builtin F.cmp_object.ne.plain F.cmpEntry_ne (PySem.W.check_slot F.cmpKind_ne F.cmpSplit_ne (I.type.andThen (PySem.W.looks_mroIn X hm)) (F.cmpArgs_ne _ _)
      (entry_neO (A := A.in1) hu X I hs hf (wpAny_mono h (fun v s' hv => ?_) fun _ _ e => e))))))
    obtain ⟨r, rfl, q⟩ := hv
    exact ⟨r, rfl, wpAny_pure ⟨_, rfl, q⟩⟩
  simp only [richCompare, cmpInfo_NotEq, oneThing_ref]
  refine wpAny_holding (wpAny_bind (wpAny_cRoomFor hu0 ?_))
  refine wpAny_bind (I.type.here (wpAny_bind (ht _ ?_)))
  split
  · rename_i q
    have e : PySem.W.subIn K tb (.ref C) = some false := by
      rcases hn with e | e
      · rw [e] at q
        simp at q
      · exact e
    refine wpAny_bind ((PySem.W.looks_subIn X e).here ?_)
    simp only [Bool.false_eq_true, if_false]
    refine wpAny_bind (wpAny_mono one (fun r s' z => ?_) fun _ _ e => e)
    obtain ⟨v, rfl, hq⟩ := z
    exact wpAny_pure hq
  · refine wpAny_bind (wpAny_pure ?_)
    simp only [Bool.false_eq_true, if_false]
    refine wpAny_bind (wpAny_mono one (fun r s' z => ?_) fun _ _ e => e)
    obtain ⟨v, rfl, hq⟩ := z
    exact wpAny_pure hq
/-! the other kinds decline -/
theorem sub_of (X : K.In s.heap) (I : PySem.W.InstAt s.heap x ox C od) {T : String} (hsub : PySem.W.subIn K (.ref C) (.type T) = some false) {Q : Bool → Shared → Prop} (q : Q false s) : wpAny (model prog w) A (isInstance (.ref x) (.type T)) Q E s := by
  unfold isInstance
  exact wpAny_bind (I.type.here ((PySem.W.looks_subIn X hsub).here q))
theorem int_no (i : Int) (u : Tok) (I : PySem.W.InstAt s.heap x ox C od) (hd : ∀ p, ox.data ≠ .prim p) {R : Fin → Shared → Prop} (q : R (.done (.ret .notImplemented)) s) :
    wpAny (model prog w) A (Builtin.«int.__eq__» ⟨[.int i u, .ref x], []⟩) R E s := by
  unfold Builtin.«int.__eq__»
  refine wpAny_bind ?_
  rw [show slotArgs "__eq__" 1 ⟨[.int i u, .ref x], []⟩ = pure (.int i u, [.ref x]) by rfl]
  refine wpAny_pure ?_
  refine wpAny_bind (Q := _) ?_
  show wpAny _ _ (Builtin.Int.intOfSelf (.int i u)) _ _ _
  unfold Builtin.Int.intOfSelf
  refine wpAny_bind (wpAny_pure (wpAny_pure ?_))
  refine wpAny_bind ?_
  show wpAny _ _ (asInt? (.ref x)) _ _ _
  unfold asInt?
  refine wpAny_bind (wpAny_load I.at_ ?_)
  split
  · rename_i h
    exact (hd _ h).elim
  · refine wpAny_pure ?_
    refine wpAny_bind (wpAny_rule ?_)
    exact wpAny_pure q
theorem str_no (y : Str) (u : Tok) (I : PySem.W.InstAt s.heap x ox C od) (hd : ∀ p, ox.data ≠ .prim p) {R : Fin → Shared → Prop} (q : R (.done (.ret .notImplemented)) s) :
    wpAny (model prog w) A (Builtin.«str.__eq__» ⟨[.str y u, .ref x], []⟩) R E s := by
  unfold Builtin.«str.__eq__» Builtin.Str.strCompare
  refine wpAny_bind ?_
  rw [show Builtin.Str.strSlot "__eq__" 1 ⟨[.str y u, .ref x], []⟩ = pure (.str y u, y, [.ref x]) by rfl]
  refine wpAny_pure ?_
  refine wpAny_bind ?_
  show wpAny _ _ (asStr? (.ref x)) _ _ _
  unfold asStr?
  refine wpAny_bind (wpAny_load I.at_ ?_)
  split
  · rename_i h
    exact (hd _ h).elim
  · refine wpAny_pure ?_
    refine wpAny_bind (wpAny_rule ?_)
    exact wpAny_pure q
theorem tup_no (a : Addr) (X : K.In s.heap) (I : PySem.W.InstAt s.heap x ox C od) (hsub : PySem.W.subIn K (.ref C) (.type "tuple") = some false) {R : Fin → Shared → Prop} (q : R (.done (.ret .notImplemented)) s) :
    wpAny (model prog w) A (Builtin.«tuple.__eq__» ⟨[.ref a, .ref x], []⟩) R E s := by
  unfold Builtin.«tuple.__eq__»
  refine wpAny_bind ?_
  rw [show slotArgs "__eq__" 1 ⟨[.ref a, .ref x], []⟩ = pure (.ref a, [.ref x]) by rfl]
  refine wpAny_pure ?_
  refine wpAny_bind (sub_of X I hsub ?_)
  exact wpAny_pure q
theorem lst_no (a : Addr) (X : K.In s.heap) (I : PySem.W.InstAt s.heap x ox C od) (hsub : PySem.W.subIn K (.ref C) (.type "list") = some false) {R : Fin → Shared → Prop} (q : R (.done (.ret .notImplemented)) s) :
    wpAny (model prog w) A (Builtin.«list.__eq__» ⟨[.ref a, .ref x], []⟩) R E s := by
  unfold Builtin.«list.__eq__»
  refine wpAny_bind ?_
  rw [show slotArgs "__eq__" 1 ⟨[.ref a, .ref x], []⟩ = pure (.ref a, [.ref x]) by rfl]
  refine wpAny_pure ?_
  refine wpAny_bind (sub_of X I hsub ?_)
  exact wpAny_pure q
theorem dct_no (a : Addr) (X : K.In s.heap) (I : PySem.W.InstAt s.heap x ox C od) (hsub : PySem.W.subIn K (.ref C) (.type "dict") = some false) {R : Fin → Shared → Prop} (q : R (.done (.ret .notImplemented)) s) :
    wpAny (model prog w) A (Builtin.«dict.__eq__» ⟨[.ref a, .ref x], []⟩) R E s := by
  unfold Builtin.«dict.__eq__»
  refine wpAny_bind ?_
  rw [show Builtin.Dict.dictSlotArgs "__eq__" ⟨[.ref a, .ref x], []⟩ = pure (.ref a, .ref x) by rfl]
  refine wpAny_pure ?_
  refine wpAny_bind (sub_of X I hsub ?_)
  refine wpAny_bind (wpAny_rule ?_)
  exact wpAny_pure q
end
/-- a builtin's body, called by its slot -/
theorem call_slot {prog : Program} {w : World} {A : Around} {E : Value → Shared → Prop} {s : Shared} {T : String} {name : Str} {id : String} {B : Builtin} {self : Value} {rest : List Value} {Q : Value → Shared → Prop} (slot : Slot T name id) (hT : s.TypeIs self T)
    (entry : entryFor table id = some B) (args : argsOk id ⟨self :: rest, []⟩)
    (h : wpAny (model prog w) A.in1 (B ⟨self :: rest, []⟩) (GQ.FinOf prog w A (wants Q E)) (fun e s' => wants Q E (.error e) s') s) :
    wpAny (model prog w) A (call (.builtin id) (self :: rest)) Q E s := GQ.call_here slot hT entry args h
/-! ### the rules -/
/-- kinds that own objects are held beside -/
inductive KindV (K : PySem.W.Frag) (H : Hp) : V → String → Prop
  | non : KindV K H .non "NoneType"
  | int (i : Int) : KindV K H (.int i) "int"
  | str (y : Str) : KindV K H (.str y) "str"
  | lst {a : Addr} {xs : List V} : SqL K H a xs → KindV K H (.ref a) "list"
  | tup {a : Addr} {xs : List V} : SqT K H a xs → KindV K H (.ref a) "tuple"
  | dct {a : Addr} {kvs : List (Key × V)} : H a = some (.dK kvs) → KindV K H (.ref a) "dict"
def kinds6 : List String := ["NoneType", "int", "str", "list", "tuple", "dict"]
def isTy : Value → Bool
  | .type _ => true
  | _ => false
def tysOnly (T : String) : Bool := (fastBuiltinMro T).any fun l => l.all isTy
theorem sub_kind {K : PySem.W.Frag} {C : Addr} : ∀ T ∈ kinds6, PySem.W.subIn K (.type T) (.ref C) = some false := by
  intro T hT
  have h : kinds6.all tysOnly = true := by decide +kernel
  have h2 := List.all_eq_true.mp h T hT
  unfold tysOnly at h2
  show (fastBuiltinMro T).map (·.contains (.ref C)) = some false
  cases e : fastBuiltinMro T with
  | none =>
    rw [e] at h2
    cases h2
  | some l =>
    rw [e] at h2
    have h3 : l.all isTy = true := h2
    show some (l.contains (.ref C)) = some false
    congr 1
    rw [Bool.eq_false_iff]
    intro hc
    have hm : Value.ref C ∈ l := by simpa using hc
    have := List.all_eq_true.mp h3 _ hm
    cases this
theorem KindV.mem {K : PySem.W.Frag} {H : Hp} {y : V} {T : String} (h : KindV K H y T) : T ∈ kinds6 := by
  unfold kinds6
  cases h <;> simp
section
variable {X : Cx} {pins : List (Addr × Obj)} {σ : L2.St} {H : Hp} {s : Shared}
theorem KindV.ty (I : L2.Inv X pins σ H s) {y : V} {u : Value} {T : String} (h : KindV X.K H y T) (r : RelV y u) : s.TypeIs u T := by
  cases h with
  | non => cases r; exact (rfl : typeOf Value.none = pure (.type "NoneType"))
  | int i => obtain ⟨t, rfl⟩ := r; exact typeIs_int s i t
  | str z => obtain ⟨t, rfl⟩ := r; exact typeIs_str s z t
  | lst hs =>
    cases r
    obtain ⟨its, rv, ⟨o, n, ho, hc, _, hd⟩, _⟩ := I.list hs
    exact ⟨o, ho, hc⟩
  | tup hs =>
    cases r
    obtain ⟨its, rv, ⟨o, ho, hc, n, hd⟩, _⟩ := I.tuple hs
    exact ⟨o, ho, hc⟩
  | dct hs =>
    cases r
    obtain ⟨_, _, vs, _, o, es, ep, h1, h2, _⟩ := (show ObjOk X.prog X.w H s.heap _ (.dK _) from I.hok _ _ hs)
    exact ⟨o, h1, h2.1⟩
end
/-- what the class says -/
structure OwnEq (K : PySem.W.Frag) (C : Addr) : Prop where
  sub : ∀ T ∈ kinds6, PySem.W.subIn K (.ref C) (.type T) = some false
  ne : PySem.W.findIn K (.ref C) "__ne__" = some (some (.builtin "object.__ne__"))
  mo : PySem.W.mroIn K C (.type "object") = some true
def rOV (K : PySem.W.Frag) (C : Addr) (sp : Sp) (E : XK) : R2 := fun x y H Q => ∃ a dx fs T, x = .ref a ∧ H a = some (.ins C dx fs) ∧ KindV K H y T ∧ sp [.ref a, y] H (fun v H' => ∃ r : Bool, v = .bl r ∧ Q (.bl r) H') E
def rOO (C : Addr) (sp : Sp) (E : XK) : R2 := fun x y H Q => ∃ a b dx dy fs gs, x = .ref a ∧ y = .ref b ∧ H a = some (.ins C dx fs) ∧ H b = some (.ins C dy gs) ∧ sp [.ref a, .ref b] H (fun v H' => ∃ r : Bool, v = .bl r ∧ Q (.bl (!r)) H') E
section
variable {X : Cx} {CX : CXT} {k : Nat} {f C : Addr} {fd : FuncData} {ps : List Str} {sp : Sp} {E : XK}
theorem run_eq {A : Around} {pins : List (Addr × Obj)} {σ : L2.St} {H : Hp} {s : Shared} {v u : Value} {x y : V} {Q : Value → Shared → Prop} {P : Bool → Hp → Prop}
    (F : FnOk X.prog X.w X.K X.mg X.base CX k f fd ps sp) (hr : Room k A) (e0 : Env0 X.prog X.w X.K X.mg X.base A X.stack s H) (hb : Binds X.K fd ps []) (hx : Passes CX X E) (I : L2.Inv X pins σ H s) (rx : RelV x v) (ry : RelV y u)
    (q : sp [x, y] H (fun v H' => ∃ r : Bool, v = .bl r ∧ P r H') E) (hq : ∀ (r : Bool) s' H', L2.Inv X pins σ H' s' → P r H' → Q (.bool r) s') :
    wpAny (model X.prog X.w) A (call (.ref f) [v, u]) Q X.xe s := by
  have rv : Vals [x, y] [v, u] := .cons rx (.cons ry .nil)
  have hl : [v, u].length = ps.length := F.len _ _ _ _ q
  have bd := hb s [v, u] I.kIn (by rw [List.append_nil]; exact hl)
  rw [List.append_nil] at bd
  refine wpAny_call (codeAny_mono (F.run A X.stack s H ⟨[v, u], []⟩ [v, u] [x, y] _ E hr e0 bd rv q) (fun r s' hr' => ?_))
  match r, hr' with
  | .error er, hr' => exact hx pins σ H s er s' I hr'
  | .ok (.ret z), hr' =>
    obtain ⟨v', H', I', rv', r, rfl, q'⟩ := I.after hr'
    cases rv'
    exact hq r s' H' I' q'
  | .ok .next, hr' => exact hr'.elim
  | .ok .brk, hr' => exact hr'.elim
  | .ok .cont, hr' => exact hr'.elim
/-- o == v -/
theorem op_eqOV (hm : Meth X.K C "__eq__" f) (F : FnOk X.prog X.w X.K X.mg X.base CX k f fd ps sp) (hr : Room k X.A) (hb : Binds X.K fd ps []) (hx : Passes CX X E) : OpR X (compareOp .Eq) (rOV X.K C sp E) := by
  intro pins s σ H x y v u Q I rx ry h
  obtain ⟨a, dx, fs, T, rfl, ea, kd, q⟩ := h
  cases rx
  obtain ⟨o, J⟩ := inst_of I ea
  refine PySem.W.cmp_ofEq (rc_eqOV (by have := hr.un; omega) I.kIn J (kd.ty I ry) (sub_kind _ kd.mem) hm.at_ hm.fn ?_)
  exact run_eq (x := .ref a) (v := .ref a) F hr I.env0 hb hx I rfl ry q fun r s' H' I' q' => ⟨.bl r, H', I', rfl, q'⟩
/-- v == o -/
theorem op_eqVO (W : OwnEq X.K C) (hm : Meth X.K C "__eq__" f) (F : FnOk X.prog X.w X.K X.mg X.base CX k f fd ps sp) (hr : Room k X.A) (hb : Binds X.K fd ps []) (hx : Passes CX X E) : OpR X (compareOp .Eq) (fun y x H Q => rOV X.K C sp E x y H Q) := by
  intro pins s σ H y x u v Q I ry rx h
  obtain ⟨a, dx, fs, T, rfl, ea, kd, q⟩ := h
  cases rx
  obtain ⟨o, J⟩ := inst_of I ea
  have hd : ∀ p, (PySem.W.instObj C dx).data ≠ .prim p := fun p z => by cases z
  have fin := run_eq (x := .ref a) (v := .ref a) (Q := PySem.W.CmpBack (EP X pins σ Q)) F hr I.env0 hb hx I rfl ry q fun r s' H' I' q' => ⟨.bl r, H', I', rfl, q'⟩
  have hu : X.A.units < cLine := by have := hr.un; omega
  have hT := kd.ty I ry
  have hsub := W.sub _ kd.mem
  refine PySem.W.cmp_ofEq ?_
  cases kd with
  | non =>
    cases ry
    exact rc_eqVO hu I.kIn J hT hsub PySem.F.slot_NoneType_eq (fun Q' q => call_gives PySem.F.slot_NoneType_eq rfl PySem.F.entry_NoneType_eq (PySem.F.args_NoneType_eq_2 _ _) (SeqAt.NoneType___eq___none_ref_0 a) q) hm.at_ hm.fn fin
  | int i =>
    obtain ⟨t, rfl⟩ := ry
    exact rc_eqVO hu I.kIn J hT hsub PySem.F.slot_int_eq (fun Q' q => call_slot PySem.F.slot_int_eq hT PySem.F.entry_int_eq (PySem.F.args_int_eq_2 _ _) (int_no i t J hd q)) hm.at_ hm.fn fin
  | str z =>
    obtain ⟨t, rfl⟩ := ry
    exact rc_eqVO hu I.kIn J hT hsub PySem.F.slot_str_eq (fun Q' q => call_slot PySem.F.slot_str_eq hT PySem.F.entry_str_eq (PySem.F.args_str_eq_2 _ _) (str_no z t J hd q)) hm.at_ hm.fn fin
  | lst hs =>
    cases ry
    exact rc_eqVO hu I.kIn J hT hsub PySem.F.slot_list_eq (fun Q' q => call_slot PySem.F.slot_list_eq hT PySem.F.entry_list_eq (PySem.F.args_list_eq_2 _ _) (lst_no _ I.kIn J hsub q)) hm.at_ hm.fn fin
  | tup hs =>
    cases ry
    exact rc_eqVO hu I.kIn J hT hsub PySem.F.slot_tuple_eq (fun Q' q => call_slot PySem.F.slot_tuple_eq hT PySem.F.entry_tuple_eq (PySem.F.args_tuple_eq_2 _ _) (tup_no _ I.kIn J hsub q)) hm.at_ hm.fn fin
  | dct hs =>
    cases ry
    exact rc_eqVO hu I.kIn J hT hsub PySem.F.slot_dict_eq (fun Q' q => call_slot PySem.F.slot_dict_eq hT PySem.F.entry_dict_eq (PySem.F.args_dict_eq_2 _ _) (dct_no _ I.kIn J hsub q)) hm.at_ hm.fn fin
/-- o != v -/
def rOVn (K : PySem.W.Frag) (C : Addr) (sp : Sp) (E : XK) : R2 := fun x y H Q => ∃ a dx fs T, x = .ref a ∧ H a = some (.ins C dx fs) ∧ KindV K H y T ∧ sp [.ref a, y] H (fun v H' => ∃ r : Bool, v = .bl r ∧ Q (.bl (!r)) H') E
theorem op_neOV (W : OwnEq X.K C) (hm : Meth X.K C "__eq__" f) (F : FnOk X.prog X.w X.K X.mg X.base CX k f fd ps sp) (hr : Room (k + 1) X.A) (hb : Binds X.K fd ps []) (hx : Passes CX X E) : OpR X (compareOp .NotEq) (rOVn X.K C sp E) := by
  intro pins s σ H x y v u Q I rx ry h
  obtain ⟨a, dx, fs, T, rfl, ea, kd, q⟩ := h
  cases rx
  obtain ⟨o, J⟩ := inst_of I ea
  have hT := kd.ty I ry
  refine PySem.W.cmp_ofNotEq (rc_neO (by have := hr.un; omega) I.kIn J (fun Q q => wpAny_typeOf hT q) (Or.inr (sub_kind _ kd.mem)) W.mo W.ne hm.at_ hm.fn ?_)
  exact run_eq (x := .ref a) (v := .ref a) F hr.in1 I.env0.in1 hb hx I rfl ry q fun r s' H' I' q' => ⟨r, rfl, .bl (!r), H', I', rfl, q'⟩
/-- o != p, both of one class -/
theorem op_neOO (W : OwnEq X.K C) (hm : Meth X.K C "__eq__" f) (F : FnOk X.prog X.w X.K X.mg X.base CX k f fd ps sp) (hr : Room (k + 1) X.A) (hb : Binds X.K fd ps []) (hx : Passes CX X E) : OpR X (compareOp .NotEq) (rOO C sp E) := by
  intro pins s σ H x y v u Q I rx ry h
  obtain ⟨a, b, dx, dy, fs, gs, rfl, rfl, ea, eb, q⟩ := h
  cases rx
  cases ry
  obtain ⟨o, J⟩ := inst_of I ea
  obtain ⟨o2, J2⟩ := inst_of I eb
  refine PySem.W.cmp_ofNotEq (rc_neO (tb := .ref C) (by have := hr.un; omega) I.kIn J (fun Q q => J2.type.here q) (Or.inl rfl) W.mo W.ne hm.at_ hm.fn ?_)
  exact run_eq (x := .ref a) (v := .ref a) (y := .ref b) F hr.in1 I.env0.in1 hb hx I rfl rfl q fun r s' H' I' q' => ⟨r, rfl, .bl (!r), H', I', rfl, q'⟩
end
end Mq

namespace Mq
open PySem PySem.Spec PyProof.Rows L2
/-! ### a list of any things beside a list without things; two lists of unlike lengths -/
section
variable {X : Cx}
theorem op_neNil (hu : X.A.units < cLine) : OpR X (compareOp .NotEq) (fun x y H Q => ∃ a b xs, x = .ref a ∧ y = .ref b ∧ SqL X.K H a xs ∧ SqL X.K H b [] ∧ Q (.bl (!xs.isEmpty)) H) := by
  intro pins s σ H x y v u Q I rx ry h
  obtain ⟨a, b, xs, rfl, rfl, ha, hb, q⟩ := h
  cases rx
  cases ry
  obtain ⟨us, r1, p1, _⟩ := I.list ha
  obtain ⟨ws, r2, p2, _⟩ := I.list hb
  have hl := r1.length
  cases r2
  refine PySem.W.cmp_ofNotEq ?_
  cases xs with
  | nil =>
    cases r1
    refine SeqAt.RcNeAt.lists (e := fun _ => true) p1.isList p2.isList rfl hu (fun j h1 _ => absurd h1 (by simp)) X.prog X.w _ _ ?_
    exact ⟨.bl false, H, I, rfl, q⟩
  | cons x xs =>
    refine SeqAt.RcNeAt.lists_lengths p1.isList p2.isList ?_ hu X.prog X.w _ _ ⟨.bl true, H, I, rfl, q⟩
    rw [List.size_toArray, ← hl]
    simp
theorem op_eqNil (hu : X.A.units < cLine) : OpR X (compareOp .Eq) (fun x y H Q => ∃ a b xs, x = .ref a ∧ y = .ref b ∧ SqL X.K H a xs ∧ SqL X.K H b [] ∧ Q (.bl xs.isEmpty) H) := by
  intro pins s σ H x y v u Q I rx ry h
  obtain ⟨a, b, xs, rfl, rfl, ha, hb, q⟩ := h
  cases rx
  cases ry
  obtain ⟨us, r1, p1, _⟩ := I.list ha
  obtain ⟨ws, r2, p2, _⟩ := I.list hb
  have hl := r1.length
  cases r2
  refine PySem.W.cmp_ofEq ?_
  cases xs with
  | nil =>
    cases r1
    refine SeqAt.RcAt.lists (e := fun _ => true) p1.isList p2.isList rfl hu (fun j h1 _ => absurd h1 (by simp)) X.prog X.w _ _ ?_
    exact ⟨.bl true, H, I, rfl, q⟩
  | cons x xs =>
    refine SeqAt.RcAt.lists_lengths p1.isList p2.isList ?_ hu X.prog X.w _ _ ⟨.bl false, H, I, rfl, q⟩
    rw [List.size_toArray, ← hl]
    simp
end
end Mq

namespace Mq
open PySem PySem.Spec PyProof.Rows L2
open SX (S)
/-! ### a tuple of any things beside the empty tuple -/
section
variable {X : Cx}
theorem op_eqTup0 (hu : X.A.units < cLine) : OpR X (compareOp .Eq) (fun x y H Q => ∃ a b xs, x = .ref a ∧ y = .ref b ∧ SqT X.K H a xs ∧ SqT X.K H b [] ∧ Q (.bl xs.isEmpty) H) := by
  intro pins s σ H x y v u Q I rx ry h
  obtain ⟨a, b, xs, rfl, rfl, ha, hb, q⟩ := h
  cases rx
  cases ry
  obtain ⟨us, r1, p1, _⟩ := I.tuple ha
  obtain ⟨ws, r2, p2, _⟩ := I.tuple hb
  have hl := r1.length
  cases r2
  refine PySem.W.cmp_ofEq ?_
  refine SeqAt.RcAt.tuples (e := fun _ => true) p1 p2 hu (fun j _ h2 => absurd h2 (by simp)) X.prog X.w _ _ ?_
  refine ⟨.bl xs.isEmpty, H, I, ?_, q⟩
  have e : ((List.range (min us.toArray.size ([] : List Value).toArray.size)).all (fun _ => true) && us.toArray.size == ([] : List Value).toArray.size) = xs.isEmpty := by
    rw [List.size_toArray, List.size_toArray, ← hl]
    cases xs <;> simp
  rw [e]
  rfl
end
/-! ### data of tuples, texts, numbers and None: where tuples stay, it stays -/
mutual
inductive Tn (K : PySem.W.Frag) (H : Hp) : V → PyData → Prop
  | non : Tn K H .non .none
  | int (k : Nat) : k ≤ 1000 → Tn K H (.int (k : Nat)) (.int (k : Nat))
  | str (x : Str) : Tn K H (.str x) (.str x)
  | tup {a : Addr} {xs : List V} {ds : List PyData} : SqT K H a xs → TnAll K H xs ds → Tn K H (.ref a) (.tuple ds)
inductive TnAll (K : PySem.W.Frag) (H : Hp) : List V → List PyData → Prop
  | nil : TnAll K H [] []
  | cons {v : V} {vs : List V} {d : PyData} {ds : List PyData} : Tn K H v d → TnAll K H vs ds → TnAll K H (v :: vs) (d :: ds)
end
section
variable {K : PySem.W.Frag} {H H' : Hp}
mutual
theorem Tn.kp (e : ∀ a xs, SqT K H a xs → SqT K H' a xs) : ∀ {v : V} {d : PyData}, Tn K H v d → Tn K H' v d
  | _, _, .non => .non
  | _, _, .int i hi => .int i hi
  | _, _, .str x => .str x
  | _, _, .tup h a => .tup (e _ _ h) (TnAll.kp e a)
theorem TnAll.kp (e : ∀ a xs, SqT K H a xs → SqT K H' a xs) : ∀ {v : List V} {d : List PyData}, TnAll K H v d → TnAll K H' v d
  | _, _, .nil => .nil
  | _, _, .cons a b => .cons (Tn.kp e a) (TnAll.kp e b)
end
theorem Tn.same (e : Same H H') {v : V} {d : PyData} (h : Tn K H v d) : Tn K H' v d := h.kp fun _ _ z => Same.tup e z
theorem TnAll.same (e : Same H H') {v : List V} {d : List PyData} (h : TnAll K H v d) : TnAll K H' v d := h.kp fun _ _ z => Same.tup e z
mutual
theorem Tn.dg : ∀ {v : V} {d : PyData}, Tn K H v d → Dg K H v d
  | _, _, .non => .non
  | _, _, .int i _ => .int _
  | _, _, .str x => .str x
  | _, _, .tup h a => .tup h (TnAll.dg a)
theorem TnAll.dg : ∀ {v : List V} {d : List PyData}, TnAll K H v d → DgAll K H v d
  | _, _, .nil => .nil
  | _, _, .cons a b => .cons (Tn.dg a) (TnAll.dg b)
end
mutual
theorem Tn.dp : ∀ {v : V} {d : PyData}, Tn K H v d → Dp K H v d
  | _, _, .non => .non
  | _, _, .int i _ => .int _
  | _, _, .str x => .str x
  | _, _, .tup h a => .tup h (TnAll.dp a)
theorem TnAll.dp : ∀ {v : List V} {d : List PyData}, TnAll K H v d → DpAll K H v d
  | _, _, .nil => .nil
  | _, _, .cons a b => .cons (Tn.dp a) (TnAll.dp b)
end
mutual
theorem Tn.dv {N : Addr → Prop} : ∀ {v : V} {d : PyData}, Tn K H v d → Dv K N H v d
  | _, _, .non => .non
  | _, _, .int i _ => .int _
  | _, _, .str x => .str x
  | _, _, .tup h a => .tup h (TnAll.dv a)
theorem TnAll.dv {N : Addr → Prop} : ∀ {v : List V} {d : List PyData}, TnAll K H v d → DvAll K N H v d
  | _, _, .nil => .nil
  | _, _, .cons a b => .cons (Tn.dv a) (TnAll.dv b)
end
theorem TnAll.len : ∀ {vs : List V} {ds : List PyData}, TnAll K H vs ds → vs.length = ds.length
  | _, _, .nil => rfl
  | _, _, .cons a b => congrArg (· + 1) b.len
theorem TnAll.snoc : ∀ {vs : List V} {ds : List PyData} {v : V} {d : PyData}, TnAll K H vs ds → Tn K H v d → TnAll K H (vs ++ [v]) (ds ++ [d])
  | _, _, _, _, .nil, h => .cons h .nil
  | _, _, _, _, .cons a b, h => .cons a (b.snoc h)
theorem TnAll.at : ∀ {vs : List V} {ds : List PyData} {i : Nat} {v : V}, TnAll K H vs ds → vs[i]? = some v → ∃ d, ds[i]? = some d ∧ Tn K H v d
  | _, _, 0, _, .cons a b, h => ⟨_, rfl, by cases h; exact a⟩
  | _, _, i + 1, _, .cons a b, h => TnAll.at (i := i) b h
theorem Tn.two' {a : Addr} {x y : V} {d e : PyData} (h : SqT K H a [x, y]) (h1 : Tn K H x d) (h2 : Tn K H y e) : Tn K H (.ref a) (.tuple [d, e]) := .tup h (.cons h1 (.cons h2 .nil))
mutual
theorem tn_lay : ∀ {v : V} {d : PyData}, Tn K H v d → lowD d = true → d.canLay0 = true
  | _, _, .non, _ => rfl
  | _, _, .int i _, _ => rfl
  | _, _, .str x, h => by
    show x.cps.all (fun d => decide (d < 1114112)) = true
    rw [← Array.all_toList]
    refine List.all_eq_true.mpr fun c hc => decide_eq_true ?_
    have h1 : (x.cps.toList.all fun c => decide (c < 128)) = true := h
    have := of_decide_eq_true (List.all_eq_true.mp h1 c hc)
    omega
  | _, _, .tup _ ha, h => tnAll_lay ha h
theorem tnAll_lay : ∀ {vs : List V} {ds : List PyData}, TnAll K H vs ds → lowAll ds = true → PyData.canLayAll0 ds = true
  | _, _, .nil, _ => rfl
  | _, _, .cons (d := d) (ds := ds) a b, h => by
    have h' : (lowD d && lowAll ds) = true := h
    obtain ⟨h1, h2⟩ := Bool.and_eq_true_iff.mp h'
    show (d.canLay0 && PyData.canLayAll0 ds) = true
    rw [tn_lay a h1, tnAll_lay b h2]
    rfl
end
theorem tn_shaped {v : V} {d : PyData} {w n : Nat} (h : Tn K H v d) (k : OkD w n d) (hn : n ≤ 64) : SeqAt.shaped d = true := by
  unfold SeqAt.shaped
  rw [tn_lay h k.lo, decide_eq_true (Nat.le_trans k.gs.de hn)]
  rfl
end
end Mq

namespace Lw
open PySem PySem.Spec PyProof.Rows L2 Mq
open SX (S)
/-! ### data that are, or are not, nodes -/
def webD (sg : List Nat) : PyData → Bool
  | .str x => allB x.cps.toList sg
  | _ => false
def belowD (m : Nat) : PyData → Bool
  | .int i => decide (0 ≤ i) && decide (i < (m : Int))
  | _ => false
def noneD : PyData → Bool
  | .none => true
  | _ => false
def headD : List PyData → Option Str
  | .str x :: _ => some x
  | _ => none
def belowAllB (m : Nat) (ds : List PyData) : Bool := ((List.range (ds.length - 2)).map fun k => belowD m (ds.getD (k + 2) .none)).all id
def readB (sg : List Nat) (m : Nat) (ds : List PyData) : Bool := decide (ds.length = sg.length + 2) && (decide (headD ds = some ("reads" : Str)) && belowAllB m ds)
def nodeB (sg : List Nat) (m : Nat) (ds : List PyData) : Bool :=
  match headD ds with
  | none => false
  | some x => if decide (x = "stops") = true then decide (ds.length = 2) && webD sg (ds.getD 1 .none) else if decide (x = "none") = true then decide (ds.length = 1)
    else readB sg m ds && (noneD (ds.getD 1 .none) || webD sg (ds.getD 1 .none))
def nodeD (sg : List Nat) (m : Nat) : PyData → Bool
  | .tuple ds => nodeB sg m ds
  | _ => false
theorem webD_no {sg : List Nat} {d : PyData} (h : ∀ x, d ≠ .str x) : webD sg d = false := by
  cases d with
  | str x => exact (h x rfl).elim
  | _ => rfl
theorem nodeD_no {sg : List Nat} {m : Nat} {d : PyData} (h : ∀ x, d ≠ .tuple x) : nodeD sg m d = false := by
  cases d with
  | tuple x => exact (h x rfl).elim
  | _ => rfl
theorem kit_noT {K : PySem.W.Frag} {a : String} (m : a ∈ sevenT) (n : a ≠ "tuple") : PySem.W.kitOne K (.type a) (.type "tuple") = some false :=
  kit_ty (by rw [kit_known a "tuple" m (by simp), decide_eq_false n])
theorem dg_int {K : PySem.W.Frag} {H : Hp} {v : V} {d : PyData} (h : Dg K H v d) : (∃ i, v = .int i ∧ d = .int i) ∨ (∃ b, v = .bl b ∧ d = .bool b) ∨ ((∃ a, TyX K H v (.type a) ∧ PySem.W.kitOne K (.type a) (.type "int") = some false) ∧ ∀ m, belowD m d = false) := by
  cases h with
  | non => exact Or.inr (Or.inr ⟨⟨_, .base .non, kit_ty (by decide +kernel)⟩, fun _ => rfl⟩)
  | bl b => exact Or.inr (Or.inl ⟨b, rfl, rfl⟩)
  | int i => exact Or.inl ⟨i, rfl, rfl⟩
  | str x => exact Or.inr (Or.inr ⟨⟨_, .base (.str x), kit_ty (by decide +kernel)⟩, fun _ => rfl⟩)
  | lst _ hs _ => exact Or.inr (Or.inr ⟨⟨_, ty_list hs, kit_ty (by decide +kernel)⟩, fun _ => rfl⟩)
  | tup hs _ => exact Or.inr (Or.inr ⟨⟨_, ty_tup hs, kit_ty (by decide +kernel)⟩, fun _ => rfl⟩)
  | dct hs _ => exact Or.inr (Or.inr ⟨⟨_, .base (.dK hs), kit_ty (by decide +kernel)⟩, fun _ => rfl⟩)
theorem dg_none {K : PySem.W.Frag} {H : Hp} {v : V} {d : PyData} (h : Dg K H v d) : decide (v = .non) = noneD d := by
  cases h with
  | non => rfl
  | bl b => exact decide_eq_false fun z => nomatch z
  | int i => exact decide_eq_false fun z => nomatch z
  | str x => exact decide_eq_false fun z => nomatch z
  | lst _ hs _ => exact decide_eq_false fun z => nomatch z
  | tup hs _ => exact decide_eq_false fun z => nomatch z
  | dct hs _ => exact decide_eq_false fun z => nomatch z
def isNumB : PyData → Bool
  | .int _ => true
  | _ => false
def spNumA (K : PySem.W.Frag) : Sp := fun vs H Q _ => ∃ (v : V) (d : PyData), vs = [v] ∧ Dg K H v d ∧ Q (.bl (isNumB d)) H
def spBelowA (K : PySem.W.Frag) : Sp := fun vs H Q _ => ∃ (v : V) (d : PyData) (m : Nat), vs = [v, .int (m : Nat)] ∧ Dg K H v d ∧ Q (.bl (belowD m d)) H
def spHeadA (K : PySem.W.Frag) : Sp := fun vs H Q _ => ∃ (v : V) (d : PyData), vs = [v] ∧ Dg K H v d ∧ Q (.bl (match d with | .tuple ds => (headD ds).isSome | _ => false)) H
def spReadingA (K : PySem.W.Frag) : Sp := fun vs H Q _ => ∃ (sg : List Nat) (a : Addr) (xs : List V) (ds : List PyData) (m : Nat), vs = [.str (S sg), .ref a, .int (m : Nat)] ∧
  SqT K H a xs ∧ DgAll K H xs ds ∧ (headD ds).isSome = true ∧ xs.length ≤ 90000 ∧ sg.length ≤ 90000 ∧ ∀ H', Same H H' → Q (.bl (readB sg m ds)) H'
section
variable {P : Program} {w : World} {K : PySem.W.Frag} {mg : Str → Option Value} {base : Heap}
theorem ok_is_numberA {f : Addr} {fd : FuncData} (F : Fun K "is_number" "is_number" s_is_number f fd) (B : Blt mg) : FnOk P w K mg base CX0 1 f fd ["thing"] (spNumA K) := by
  refine F.ok sc_is_number (fun vs H Q E h => ?_) (fun cdv A outer s H vs Q E hr h => ?_)
  · obtain ⟨v, _, rfl, _⟩ := h
    rfl
  · obtain ⟨v, d, rfl, hd, q⟩ := h
    refine ⟨_, pss_one (ps_ret (pe_and (pe_callB call_isi (by rfl) B.isi (by decide +kernel) (pa_cons (pv 0) (pa_cons (pe_bltn (v := .ty "int") (by rfl) B.int (by decide +kernel) rfl) pa_nil))) (pe_one (pe_not (pe_callB call_isi (by rfl) B.isi (by decide +kernel) (pa_cons (pv 0) (pa_cons (pe_bltn (v := .ty "bool") (by rfl) B.bool (by decide +kernel) rfl) pa_nil))))))), ?_⟩
    rcases dg_int hd with ⟨i, rfl, rfl⟩ | ⟨b, rfl, rfl⟩ | ⟨⟨a, t, k⟩, nx⟩
    · exact ⟨.int i, rfl, .int i, .ty "int", _, _, true, rfl, .ty _, .base (.int _), kit_ty (by decide +kernel), true, rfl, iteT ⟨.int i, rfl, .int i, .ty "bool", _, _, false, rfl, .ty _, .base (.int _), kit_ty (by decide +kernel), false, rfl, q⟩⟩
    · exact ⟨.bl b, rfl, .bl b, .ty "int", _, _, true, rfl, .ty _, .base (.bl _), kit_ty (by decide +kernel), true, rfl, iteT ⟨.bl b, rfl, .bl b, .ty "bool", _, _, true, rfl, .ty _, .base (.bl _), kit_ty (by decide +kernel), true, rfl, q⟩⟩
    · refine ⟨_, rfl, _, .ty "int", _, _, false, rfl, .ty _, t, k, false, rfl, iteF ?_⟩
      have e : isNumB d = false := by
        cases d with
        | int i =>
          have := nx (i.toNat + 1)
          cases hd
          cases t with
          | base t => cases t; exact absurd k (by rw [kit_ty (a := "int") (b := "int") (r := true) (by decide +kernel)]; simp)
        | _ => rfl
      rw [e] at q
      exact q
end
end Lw

namespace Lw
open PySem PySem.Spec PyProof.Rows L2 Mq
open SX (S)
theorem head_some {ds : List PyData} {x : Str} (h : headD ds = some x) : ∃ es, ds = .str x :: es := by
  unfold headD at h
  split at h
  · cases h
    exact ⟨_, rfl⟩
  · cases h
/-- the head of what is a tuple with a text ahead -/
theorem head_at {K : PySem.W.Frag} {H : Hp} {xs : List V} {ds : List PyData} {x : Str} (h : headD ds = some x) (ha : DgAll K H xs ds) : ∃ ys, xs = .str x :: ys := by
  obtain ⟨es, rfl⟩ := head_some h
  cases ha with
  | cons a b =>
    cases a
    exact ⟨_, rfl⟩
theorem dgall_at {K : PySem.W.Frag} {H : Hp} {xs : List V} {ds : List PyData} {i : Nat} (ha : DgAll K H xs ds) (hi : i < xs.length) : Dg K H xs[i] (ds.getD i .none) := by
  obtain ⟨d, hd, hg⟩ := ha.at (List.getElem?_eq_getElem hi)
  rw [List.getD_eq_getElem?_getD, hd]
  exact hg
section
variable {P : Program} {w : World} {K : PySem.W.Frag} {mg : Str → Option Value} {base : Heap}
theorem ok_is_belowA {f fN : Addr} {fd fdN : FuncData} (F : Fun K "is_below" "is_below" s_is_below f fd) (B : Blt mg)
    (FN : Fun K "is_number" "is_number" s_is_number fN fdN) (gN : mg "is_number" = some (.ref fN)) (bN : Binds K fdN ["thing"] []) : FnOk P w K mg base CX0 2 f fd ["thing", "many"] (spBelowA K) := by
  have GN : FnOk P w K mg base CX0 1 fN fdN ["thing"] (spNumA K) := ok_is_numberA FN B
  refine F.ok sc_is_below (fun vs H Q E h => ?_) (fun cdv A outer s H vs Q E hr h => ?_)
  · obtain ⟨v, d, m, rfl, _⟩ := h
    rfl
  · obtain ⟨v, d, m, rfl, hd, q⟩ := h
    refine ⟨_, pss_one (ps_ret (pe_and (pe_call GN (hr.mono (by decide)) (by rfl) gN FN.kp bN .nil pass0 (pa_cons (pv 0) pa_nil)) (pe_one (pe_chain op_le op_lt pe_int (pv 0) (pv 1))))), ?_⟩
    cases e : isNumB d with
    | false =>
      refine ⟨_, rfl, v, d, rfl, hd, ?_⟩
      rw [e]
      refine ⟨false, rfl, iteF ?_⟩
      have e2 : belowD m d = false := by
        cases d with
        | int i => cases e
        | _ => rfl
      rw [e2] at q
      exact q
    | true =>
      cases d with
      | int i =>
        cases hd
        refine ⟨_, rfl, _, _, rfl, .int i, true, rfl, iteT ⟨_, rfl, 0, i, rfl, rfl, _, rfl, ?_⟩⟩
        have q : Q (.bl (decide (0 ≤ i) && decide (i < (m : Int)))) H := q
        cases e0 : decide (0 ≤ i) with
        | false =>
          rw [e0] at q
          exact iteF q
        | true =>
          rw [e0] at q
          exact iteT ⟨_, rfl, i, _, rfl, rfl, q⟩
      | _ => cases e
theorem ok_has_headA {f : Addr} {fd : FuncData} (F : Fun K "has_head" "has_head" s_has_head f fd) (B : Blt mg) : FnOk P w K mg base CX0 1 f fd ["thing"] (spHeadA K) := by
  refine F.ok sc_has_head (fun vs H Q E h => ?_) (fun cdv A outer s H vs Q E hr h => ?_)
  · obtain ⟨v, m, rfl, _⟩ := h
    rfl
  · obtain ⟨v, d, rfl, hd, q⟩ := h
    refine ⟨_, pss_one (ps_ret (pe_and (pe_callB call_isi (by rfl) B.isi (by decide +kernel) (pa_cons (pv 0) (pa_cons (pe_bltn (v := .ty "tuple") (by rfl) B.tuple (by decide +kernel) rfl) pa_nil))) (pe_and (pe_cmpR op_gt (pe_callB call_len (by rfl) B.len (by decide +kernel) (pa_cons (pv 0) pa_nil)) pe_int (nomark _)) (pe_one (pe_callB call_isi (by rfl) B.isi (by decide +kernel) (pa_cons (pe_ix ix_tup (pv 0) pe_int (fun _ _ => rfl)) (pa_cons (pe_bltn (v := .ty "str") (by rfl) B.str (by decide +kernel) rfl) pa_nil))))))), ?_⟩
    rcases dg_tup hd with ⟨p, xs, ds, rfl, rfl, hp, ha⟩ | ⟨⟨a, t, m, n⟩, nx⟩
    · refine ⟨_, rfl, _, .ty "tuple", _, _, true, rfl, .ty _, ty_tup hp, kit_ty (by decide +kernel), true, rfl, iteT ⟨_, rfl, _, _, rfl, len_tup hp, _, _, rfl, rfl, ?_⟩⟩
      cases ha with
      | nil => exact ⟨false, rfl, iteF q⟩
      | @cons v xs d ds h1 ha =>
        refine ⟨true, congrArg V.bl (decide_eq_true (by show (0 : Int) < ((v :: xs).length : Nat); rw [List.length_cons]; omega)), iteT ⟨_, rfl, p, _, 0, v, rfl, rfl, hp, atI_nat (j := 0) rfl, v, .ty "str", ?_⟩⟩
        rcases dg_str h1 with ⟨l, rfl, rfl⟩ | ⟨⟨a, t, m, n⟩, nx⟩
        · exact ⟨_, _, true, rfl, .ty _, .base (.str _), kit_self, q⟩
        · have e : headD (d :: ds) = none := by
            cases d with
            | str x => exact (nx x rfl).elim
            | _ => rfl
          refine ⟨_, _, false, rfl, .ty _, t, kit_no m n, ?_⟩
          dsimp only at q
          rw [e] at q
          exact q
    · refine ⟨_, rfl, _, .ty "tuple", _, _, false, rfl, .ty _, t, kit_noT m n, false, rfl, iteF ?_⟩
      cases d with
      | tuple x => exact (nx x rfl).elim
      | _ => exact q
end
end Lw


namespace MqE_part
open PySem PySem.Spec PyProof.Rows L2 Mq PySem.W PySem.Calls
/-! ### errors whose one parameter is thing -/
def iA (p1 p2 : Pos) : Arguments := { posonlyargs := [], args := [{ arg := "self", annotation := none, pos := p1 }, { arg := "part", annotation := none, pos := p2 }], vararg := none, kwonlyargs := [], kw_defaults := [], kwarg := none, defaults := [] }
def iB (q1 q2 q3 q4 : Pos) : List Stmt := [.Assign [.Attribute (.Name "self" q1) "part" q2] (.Name "part" q3) q4]
def iS : Scope := { kind := .function, names := [(PySem.Str.ofString "self", .local), (PySem.Str.ofString "part", .local)], isGenerator := false, isCoroutine := false, more := [] }
/-- what the written part says of the class x at C, and of its __init__ at fI -/
structure Txt (K : Frag) (mg : Str → Option Value) (x qual : Str) (C fI : Addr) : Prop where
  gC : mg x = some (.ref C)
  kC : keepIn K (.ref C) = true
  ex : excInitIn K C exTail "Exception.__new__" = true
  ov : excOver K C exTail = true
  hdC : hasDictIn K C = true
  tk : takerIn K C "part" = some none
  sa : findIn K (.ref C) "__setattr__" = some (some (.builtin "object.__setattr__"))
  iC : findIn K (.ref C) "__init__" = some (some (.ref fI))
  tC : typeIn K (.ref fI) = some (.type "function")
  exC : subIn K (.ref C) (.type "BaseException") = some true
  tyC : typeIn K (.ref C) = some (.type "type")
  fn : ∃ (oc : Value) (od : Option Addr) (doc pm : Value) (an : Option Addr) (cdv ct : Value) (osl : Array (Option Value)) (p1 p2 q1 q2 q3 q4 : Pos),
    K.lookup fI = some ⟨oc, od, .func (fnOf "__init__" qual (iA p1 p2) (iB q1 q2 q3 q4) iS .none .none doc pm an cdv ct), osl⟩ ∧ codeIn K cdv qual = true
theorem ld_loc {M : Model} {s : Shared} {name : Str} {scope : Scope} {L a : Addr} {cd : Value} {m : Str → Option Value} {y : Str} {pos : Pos} {v : Value}
    {Q : Value → Shared → Prop} {A : Around} {E : Value → Shared → Prop} (hn : s.heap.Ns L m) (hv : m y = some v) (h : Q v s)
    (hk : scope.kind = .function := by rfl) (hl : (envOfC name scope L a cd).kindOf y = some .local := by rfl) (hd : (y == ("__debug__" : Str)) = false := by decide) :
    wpAny M A (eval (.Name y pos) (envOfC name scope L a cd)) Q E s := wpAny_Name (wpAny_loadName_local hk hl hn hv h) hd
/-- what __init__ leaves of a new error at e -/
structure Filled (h h' : Heap) (e C dx t1 : Addr) (v : Value) : Prop where
  keep : ∀ b o, b ≠ e → h.get? b = some o → h'.get? b = some o
  obj : h'.get? e = some (excObj C t1 (some dx) .none)
  big : h.objs.size ≤ dx
  ne : dx ≠ e
  ns : h'.Ns1 dx (fun y => if y = "part" then some v else none)
/-- a made error -/
structure Made (h h' : Heap) (e C d : Addr) (v : Value) : Prop where
  keep : ∀ b o, h.get? b = some o → h'.get? b = some o
  new : h.objs.size ≤ e
  obj : ∃ oe vs, h'.get? e = some oe ∧ oe.cls = .ref C ∧ oe.dict = some d ∧ oe.data = .fields vs ∧ vs[1]? = some .none
  big : h.objs.size ≤ d
  ne : d ≠ e
  ns : h'.Ns1 d (fun y => if y = "part" then some v else none)
section
variable {prog : Program} {w : World} {A : Around} {E : Value → Shared → Prop} {R : Result → Shared → Prop} {s : Shared} {K : Frag} {mg : Str → Option Value} {x qual : Str} {C fI : Addr}
theorem init_run (T : Txt K mg x qual C fI) {e t0 : Addr} {v : Value} (X : K.In s.heap) (lim : s.heap.NoLimit) (he : s.heap.get? e = some (excObj C t0 none .none)) (room : A.depth < recursionLimit)
    (hq : ∀ h' tk dx, Filled s.heap h' e C dx t0 v → R (.ok (.ret .none)) { s with heap := h', toks := tk }) :
    codeAny (model prog w) A (.call (.ref fI) ⟨[.ref e, v], []⟩) R s := by
  obtain ⟨oc, od, doc, pm, an, cdv, ct, osl, p1, p2, q1, q2, q3, q4, ho, hcd⟩ := T.fn
  refine Att.call_fn (binds := [("self", .ref e), ("part", v)]) X lim ho hcd room (BindsTo.of_eq (by first | rfl | with_unfolding_all rfl)) (by first | rfl | decide | with_unfolding_all rfl) (fun s₁ IC => ?_) rfl rfl rfl
  obtain ⟨h₁, tk₁, rfl⟩ := IC.toInCall.same
  have k : ∀ b o, s.heap.get? b = some o → h₁.get? b = some o := IC.toInCall.keep
  have hn := IC.toInCall.ns
  have X₁ : K.In h₁ := X.keeps k
  have he₁ := k _ _ he
  show wpAny _ _ (execs _ _) _ _ _
  refine wpAny_execs_cons (plainObj_wpAny_Assign_Attribute ?_)
  refine ld_loc (v := v) hn (by first | rfl | with_unfolding_all rfl | kernel_rfl) (ld_loc (v := .ref e) hn (by first | rfl | with_unfolding_all rfl | kernel_rfl) ?_)
  refine set_plain X₁ (ox := excObj C t0 none .none) (od := none) ⟨he₁, rfl, rfl, trivial⟩ T.sa ?_
  refine osa_first X₁ he₁ T.ov T.hdC T.tk (fun h₃ tk₃ dx k₃ dn dne he₃ hn₃ => ?_)
  show wpAny _ _ (execs _ _) _ _ _
  have z : s.heap.objs.size < h₁.objs.size := hn.lt
  exact wpAny_execs_nil (hq h₃ tk₃ dx ⟨fun b o hb e => k₃ b o hb (k b o e), he₃, Nat.le_of_lt (Nat.lt_of_lt_of_le z dn), dne, hn₃⟩)
theorem made_run (T : Txt K mg x qual C fI) {v : Value} (X : K.In s.heap) (lim : s.heap.NoLimit) (room : A.depth + 1 < recursionLimit)
    (hq : ∀ h' tk e d, Made s.heap h' e C d v → R (.ok (.ret (.ref e))) { s with heap := h', toks := tk }) :
    codeAny (model prog w) A (.call (.ref C) ⟨[v], []⟩) R s := by
  obtain ⟨nm, N, qn, bs, bm, hdct, sn, sub, ab, col, dd, k0, k1, k2, k3, k5, hC, hT⟩ := excInit_of X T.ex
  obtain ⟨hp, g, dr, tk, os⟩ := s
  have k : ∀ b o, hp.get? b = some o → ((hp.push (kdv_tup [v])).push (HandSPX.excO C hp.objs.size)).get? b = some o := fun b o e => Heap.get?_push_of_some _ (Heap.get?_push_of_some _ e)
  have hget : ((hp.push (kdv_tup [v])).push (HandSPX.excO C hp.objs.size)).get? (hp.objs.size + 1) = some (excObj C hp.objs.size none .none) := by heap_get
  refine HandSPX.call_own F.excBase_Exception hT hC (looks_findIn X T.iC) (fun self => bind_fn X self T.tC) (by rw [sizeLine_eq]; exact (by decide : 1 ≤ 16777216)) ?_
  refine init_run (s := ⟨(hp.push (kdv_tup [v])).push (HandSPX.excO C hp.objs.size), g, dr, tk, os⟩) T (X.keeps k) (lim.keeps k) hget ?_ (fun h' tk' dx M => ?_)
  · show A.depth + 1 < recursionLimit
    exact room
  · obtain ⟨k', hx, dn, dne, hns⟩ := M
    have old : ∀ b o, hp.get? b = some o → h'.get? b = some o := fun b o e => k' b o (Nat.ne_of_lt (Nat.lt_succ_of_lt (Heap.lt_size e))) (k b o e)
    have z : hp.objs.size + 1 + 1 ≤ dx := by
      have q := dn
      rw [Heap.size_push, Heap.size_push] at q
      exact q
    exact ⟨rfl, hq h' tk' (hp.objs.size + 1) dx ⟨old, Nat.le_succ _, ⟨_, _, hx, rfl, rfl, rfl, rfl⟩, Nat.le_trans (Nat.le_trans (Nat.le_succ _) (Nat.le_succ _)) z, dne, hns⟩⟩
end
theorem relO_f {v : V} {v' : Value} (r : RelV v v') (f : Str) : RelO (List.lookup f [(("part" : Str), v)]) (if f = "part" then some v' else none) := by
  by_cases hw : f = "part"
  · subst hw
    rw [if_pos rfl]
    have q : List.lookup ("part" : Str) [(("part" : Str), v)] = some v := by simp [List.lookup]
    rw [q]
    exact r
  · rw [if_neg hw]
    have qw : (f == ("part" : Str)) = false := by simpa using hw
    have q2 : List.lookup f [(("part" : Str), v)] = none := by simp [List.lookup, qw]
    rw [q2]
    trivial
section
variable {X : Cx} {C fI : Addr} {x qual : Str}
/-- x(e) -/
def tMk (C : Addr) (ta : TA) : L2.St → Hp → XK → Prop := fun σ H Q => ta σ H fun vs H1 => ∃ v, vs = [v] ∧ ∀ d, H1 d = none → Q (.ref C) (some d) (upd H1 d (.xd [(("part" : Str), v)]))
theorem pmk {a : Expr} {ta : TA} {p pos : Pos} {k : Nat} (T : Txt X.K X.mg x qual C fI) (hr : Room k X.A) (ha : PA X [a] ta) (hg : Gl X x := by rfl) (hdb : (x == ("__debug__" : Str)) = false := by decide)
    (he : starEach (a :: []) X.env = (false, eval a X.env) :: starEach [] X.env := by rfl) (hpl : (backTo pos (starEach [] X.env)).any (·.1) = false := by rfl) :
    PMk X (.Call (.Name x p) [a] [] pos) (tMk C ta) := by
  intro pins s σ H Q I h
  refine wpAny_Call_Name_kw (ld_glob I hg T.gC ?_ hdb)
  refine callWith_K (h₀ := X.base) I.ok.mod.kin T.kC (thn (ha.run pos pins s σ H _ I h) fun us s1 hh => ?_) he hpl
  obtain ⟨vs, H1, I1, r1, v, ev, q1⟩ := hh
  subst ev
  refine ⟨I1.kIn, ?_⟩
  cases r1 with
  | cons rv rn =>
    rename_i v' us'
    cases rn
    show wpAny _ _ (call (.ref C) [v']) _ _ _
    have hlim := I1.nolimit
    obtain ⟨hp, g, dr, tk, os⟩ := s1
    refine wpAny_call (made_run T I1.kIn hlim (by have := hr.dp; omega) (fun h' tk' e d M => ?_))
    show MkP X pins σ Q (.ref e) ⟨h', g, dr, tk', os⟩
    obtain ⟨oe, fv, hoe, hc, hd, hdat, h1⟩ := M.obj
    have hns := M.ns
    obtain ⟨G', g1, g2⟩ := restrict h' fun b => decide (b ≠ e)
    have gk : ∀ b, b ≠ e → G'.get? b = h'.get? b := fun b hb => g1 b (decide_eq_true hb)
    have ge : G'.get? e = none := g2 e (by simp)
    have old : ∀ b o, hp.get? b = some o → G'.get? b = some o := fun b o q => (gk b (Nat.ne_of_lt (Nat.lt_of_lt_of_le (Heap.lt_size q) M.new))).trans (M.keep b o q)
    have ob : ObjOk X.prog X.w (upd H1 d (.xd [(("part" : Str), v)])) G' d (.xd [(("part" : Str), v)]) :=
      ⟨_, hns.at (fun o q => (gk d M.ne).trans q), fun f => relO_f rv f⟩
    have J : L2.Inv X pins σ (upd H1 d (.xd [(("part" : Str), v)])) ⟨G', g, dr, tk', os⟩ := I1.laid (t' := tk') old M.big ob
    refine ⟨e, oe, fv, ⟨G', g, dr, tk', os⟩, _, .ref C, some d, rfl, J, (fun b o q => ?_), ge, hoe, ⟨hc, hd⟩, hdat, h1, ?_, rfl, I1.bare, raises_own T.exC T.tyC, q1 d (I1.hok.fresh M.big)⟩
    · by_cases hb : b = e
      · have q' : G'.get? b = some o := q
        rw [hb, ge] at q'
        cases q'
      · exact (gk b hb).symm.trans q
    · rw [upd_ne (Ne.symm M.ne)]
      exact I1.hok.fresh M.new
/-- raise x(e) -/
def tRaise (C : Addr) (W : WX) (ta : TA) : TS := fun _ σ H => tMk C ta σ H fun cls d H' => W cls d σ H'
theorem ps_raise {a : Expr} {ta : TA} {W : WX} {p pos pos2 : Pos} {k : Nat} (hc : X.calm = true) (T : Txt X.K X.mg x qual C fI) (hr : Room k X.A) (tk : Takes X W) (ha : PA X [a] ta) (hg : Gl X x := by rfl) (hdb : (x == ("__debug__" : Str)) = false := by decide)
    (he : starEach (a :: []) X.env = (false, eval a X.env) :: starEach [] X.env := by rfl) (hpl : (backTo pos (starEach [] X.env)).any (·.1) = false := by rfl) :
    PS X (.Raise (some (.Call (.Name x p) [a] [] pos)) none pos2) (tRaise C W ta) := L2.ps_raise hc tk (pmk T hr ha hg hdb he hpl)
end
end MqE_part

namespace Lw
open PySem PySem.Spec PyProof.Rows L2 Mq
open SX (S)
/-! ### data that are, or are not, deeds -/
def letD (sg : List Nat) : PyData → Bool
  | .str x => letB sg x.cps.toList
  | _ => false
theorem letD_one {sg : List Nat} {d : PyData} (h : letD sg d = true) : ∃ c ∈ sg, d = .str (S [c]) := by
  cases d with
  | str x =>
    obtain ⟨c, e, hc⟩ := letB_one (show letB sg x.cps.toList = true from h)
    exact ⟨c, hc, by rw [← e, S_of]⟩
  | _ => cases h
theorem letD_no {sg : List Nat} {d : PyData} (h : ∀ x, d ≠ .str x) : letD sg d = false := by
  cases d with
  | str x => exact (h x rfl).elim
  | _ => rfl
def allBelow (m : Nat) (ds : List PyData) : Bool := ((List.range ds.length).map fun k => belowD m (ds.getD k .none)).all id
def placesD (n m : Nat) : PyData → Bool
  | .tuple ds => decide (ds.length = n) && allBelow m ds
  | _ => false
theorem placesD_no {n m : Nat} {d : PyData} (h : ∀ x, d ≠ .tuple x) : placesD n m d = false := by
  cases d with
  | tuple x => exact (h x rfl).elim
  | _ => rfl
def deedB (sg : List Nat) (m : Nat) (ds : List PyData) : Bool :=
  match headD ds with
  | none => false
  | some x => if decide (x = "lay") = true then decide (ds.length = 3) && (letD sg (ds.getD 1 .none) && belowD m (ds.getD 2 .none))
    else if decide (x = "look") = true then decide (ds.length = 2) && placesD (sg.length + 1) m (ds.getD 1 .none)
    else decide (x = "stop") && decide (ds.length = 1)
def deedD (sg : List Nat) (m : Nat) : PyData → Bool
  | .tuple ds => deedB sg m ds
  | _ => false
theorem deedD_no {sg : List Nat} {m : Nat} {d : PyData} (h : ∀ x, d ≠ .tuple x) : deedD sg m d = false := by
  cases d with
  | tuple x => exact (h x rfl).elim
  | _ => rfl
theorem weight_mem : ∀ {ds : List PyData} {d : PyData}, d ∈ ds → d.weight ≤ PyData.weightAll ds
  | e :: ds, d, h => by
    show d.weight ≤ e.weight + 1 + PyData.weightAll ds
    rcases List.mem_cons.mp h with rfl | h
    · omega
    · have := weight_mem h
      omega
theorem weight_len : ∀ ds : List PyData, ds.length ≤ PyData.weightAll ds
  | [] => Nat.zero_le _
  | e :: ds => by
    show ds.length + 1 ≤ e.weight + 1 + PyData.weightAll ds
    have := weight_len ds
    omega
theorem weight_at {ds : List PyData} {i : Nat} : (ds.getD i .none).weight ≤ PyData.weightAll ds + 10 := by
  rw [List.getD_eq_getElem?_getD]
  cases h : ds[i]? with
  | none =>
    show PyData.weight .none ≤ _
    have : PyData.weight .none ≤ 10 := by decide +kernel
    omega
  | some d =>
    have := weight_mem (List.mem_of_getElem? h)
    show d.weight ≤ _
    omega
def spLetterA (K : PySem.W.Frag) : Sp := fun vs H Q _ => ∃ (sg : List Nat) (v : V) (d : PyData), vs = [.str (S sg), v] ∧ Dg K H v d ∧ d.weight ≤ 100000 ∧ Q (.bl (letD sg d)) H
def spPlacesA (K : PySem.W.Frag) : Sp := fun vs H Q _ => ∃ (v : V) (d : PyData) (n m : Nat), vs = [v, .int (n : Nat), .int (m : Nat)] ∧ Dg K H v d ∧ d.weight ≤ 90000 ∧ ∀ H', Same H H' → Q (.bl (placesD n m d)) H'
def spDeedA (K : PySem.W.Frag) : Sp := fun vs H Q _ => ∃ (sg : List Nat) (v : V) (d : PyData) (m : Nat), vs = [.str (S sg), v, .int (m : Nat)] ∧ Dg K H v d ∧ d.weight ≤ 80000 ∧ sg.length ≤ 90000 ∧ ∀ H', Same H H' → Q (.bl (deedD sg m d)) H'
section
variable {P : Program} {w : World} {K : PySem.W.Frag} {mg : Str → Option Value} {base : Heap}
theorem ok_letterA {f : Addr} {fd : FuncData} (F : Fun K "is_letter" "is_letter" s_is_letter f fd) (B : Blt mg) : FnOk P w K mg base CX0 1 f fd ["letters", "thing"] (spLetterA K) := by
  refine F.ok sc_is_letter (fun vs H Q E h => ?_) (fun cdv A outer s H vs Q E hr h => ?_)
  · obtain ⟨_, _, _, rfl, _⟩ := h
    rfl
  · obtain ⟨sg, v, d, rfl, hd, hw, q⟩ := h
    refine ⟨_, pss_one (ps_ret (pe_and (pe_callB call_isi (by rfl) B.isi (by decide +kernel) (pa_cons (pv 1) (pa_cons (pe_bltn (v := .ty "str") (by rfl) B.str (by decide +kernel) rfl) pa_nil))) (pe_and (pe_cmpR op_eq (pe_callB call_len (by rfl) B.len (by decide +kernel) (pa_cons (pv 1) pa_nil)) pe_int (nomark _)) (pe_one (pe_cmpR op_in_sign (pv 1) (pv 0) rfl))))), ?_⟩
    rcases dg_str hd with ⟨z, rfl, rfl⟩ | ⟨⟨a, t, m, n⟩, nx⟩
    · have hz : z.length ≤ 100000 := hw
      have q : Q (.bl (letB sg z)) H := q
      refine ⟨_, rfl, _, .ty "str", _, _, true, rfl, .ty _, .base (.str _), kit_self, true, rfl, iteT ⟨_, rfl, _, _, rfl, len_S hz, rfl, _, rfl, ?_⟩⟩
      clear hd hw
      match z, q with
      | [], q => exact ifF rfl q
      | [c], q =>
        refine ifT rfl ⟨_, rfl, _, rfl, c, S sg, rfl, rfl, ?_⟩
        exact q
      | a :: b :: r, q =>
        refine ifF (decide_eq_false fun e => ?_) q
        have e1 := V.int.inj e
        have e2 : ((a :: b :: r).length : Int) = 1 := e1
        rw [List.length_cons, List.length_cons] at e2
        omega
    · rw [letD_no nx] at q
      exact ⟨_, rfl, _, .ty "str", _, _, false, rfl, .ty _, t, kit_no m n, false, rfl, iteF q⟩
theorem ok_are_placesA {f fB : Addr} {fd fdB : FuncData} (F : Fun K "are_places" "are_places" s_are_places f fd) (B : Blt mg)
    (FB : Fun K "is_below" "is_below" s_is_below fB fdB) (gB : mg "is_below" = some (.ref fB)) (bB : Binds K fdB ["thing", "many"] [])
    (GB : FnOk P w K mg base CX0 2 fB fdB ["thing", "many"] (spBelowA K)) : FnOk P w K mg base CX0 3 f fd ["thing", "length", "many"] (spPlacesA K) := by
  refine F.ok sc_are_places (fun vs H Q E h => ?_) (fun cdv A outer s H vs Q E hr h => ?_)
  · obtain ⟨_, _, _, _, rfl, _⟩ := h
    rfl
  · obtain ⟨v, d, n, m, rfl, hd, hw, q⟩ := h
    refine ⟨_, (pss_one (ps_ret (pe_and (pe_callB call_isi (by rfl) B.isi (by decide +kernel) (pa_cons (pv 0) (pa_cons (pe_bltn (v := .ty "tuple") (by rfl) B.tuple (by decide +kernel) rfl) pa_nil))) (pe_and (pe_cmpR op_eq (pe_callB call_len (by rfl) B.len (by decide +kernel) (pa_cons (pv 0) pa_nil)) (pv 1) (nomark _)) (pe_one (pe_callB (cr_all rfl) (by rfl) B.all (by decide +kernel) (pa_cons (pe_lc (own := [("place", 3)]) (g := gName 3) (tt := tYes) rfl sc_are_places.nd (pi_tup (pv 0)) (blkOk_by (own := [("place", 3)]) (N := ["thing", "length", "many", "place"]) (sc := defScope s_are_places) (by decide +kernel)) (fun _ _ _ _ _ => pg_name (i := 3) sc_are_places.nd rfl (Or.inl rfl)) (fun _ _ _ _ _ => pts_nil) (fun _ _ _ _ _ => (pe_call GB (hr.mono (by decide)) (by rfl) gB FB.kp bB .nil pass0 (pa_cons (pv 3) (pa_cons (pv 2) pa_nil))))) pa_nil))))))), ?_⟩
    rcases dg_tup hd with ⟨p, xs, ds, rfl, rfl, hp, ha⟩ | ⟨⟨a, t, m', n'⟩, nx⟩
    · have hl := ha.len
      have hlw : ds.length ≤ 90000 := Nat.le_trans (weight_len ds) hw
      have q : ∀ H', Same H H' → Q (.bl (decide (ds.length = n) && allBelow m ds)) H' := q
      refine ⟨_, rfl, _, .ty "tuple", _, _, true, rfl, .ty _, ty_tup hp, kit_ty (by decide +kernel), true, rfl, iteT ⟨_, rfl, _, _, rfl, len_tup hp, _, rfl, rfl, ?_⟩⟩
      have e1 : decide (V.int (xs.length : Nat) = V.int (n : Nat)) = decide (ds.length = n) := by
        rw [dec_int, hl]
        exact decide_eq_decide.mpr ⟨fun h => by omega, fun h => by omega⟩
      rw [e1]
      refine ⟨_, rfl, ?_⟩
      cases e2 : decide (ds.length = n) with
      | false =>
        rw [e2] at q
        exact iteF (q H (Same.refl H))
      | true =>
        rw [e2] at q
        have q : ∀ H', Same H H' → Q (.bl (allBelow m ds)) H' := q
        refine iteT ?_
        unfold tCB tCons
        dsimp only
        refine lc_mapJ (n := ds.length) (Y := YAt xs) (fun k => .bl (belowD m (ds.getD k .none))) (by omega) (fun R k => ?_) ?_ ?_
        · refine ⟨.ref p, rfl, ?_⟩
          have hw := walk_tup (K := K) (a := p) (xs := xs)
          rw [hl] at hw
          exact ⟨p, rfl, ⟨_, hp⟩, k _ _ _ hw (fun H' g e => Same.tup e g) (Same.refl H) hp⟩
        · rintro i v H' H'' R hi sm ⟨rfl, hv⟩ k
          have hi2 : i < xs.length := by omega
          have hv' : v = xs[i] := by
            have h1 : xs[i]? = some v := hv
            rw [List.getElem?_eq_getElem hi2] at h1
            exact (Option.some.inj h1).symm
          have hg : Dg K H'' v (ds.getD i .none) := by
            rw [hv']
            exact (dgall_at ha hi2).same sm
          exact ⟨rfl, _, rfl, _, rfl, v, _, m, rfl, hg, k _ (Same.refl _)⟩
        · intro D H' hD sm hl'
          refine ⟨D, (List.range ds.length).map fun k => belowD m (ds.getD k .none), rfl, SqL.of ?_, ?_⟩
          · rw [List.map_map]
            exact hl'
          · exact q H' sm
    · rw [placesD_no nx] at q
      exact ⟨_, rfl, _, .ty "tuple", _, _, false, rfl, .ty _, t, kit_noT m' n', false, rfl, iteF (q H (Same.refl H))⟩
end
end Lw

namespace Lw
open PySem PySem.Spec PyProof.Rows L2 Mq
open SX (S)
section
variable {P : Program} {w : World} {K : PySem.W.Frag} {mg : Str → Option Value} {base : Heap}
theorem ok_is_deedA {f fH fL fB fP : Addr} {fd fdH fdL fdB fdP : FuncData} (F : Fun K "is_deed" "is_deed" s_is_deed f fd) (B : Blt mg)
    (FH : Fun K "has_head" "has_head" s_has_head fH fdH) (gH : mg "has_head" = some (.ref fH)) (bH : Binds K fdH ["thing"] [])
    (FL : Fun K "is_letter" "is_letter" s_is_letter fL fdL) (gL : mg "is_letter" = some (.ref fL)) (bL : Binds K fdL ["letters", "thing"] [])
    (FB : Fun K "is_below" "is_below" s_is_below fB fdB) (gB : mg "is_below" = some (.ref fB)) (bB : Binds K fdB ["thing", "many"] [])
    (FP : Fun K "are_places" "are_places" s_are_places fP fdP) (gP : mg "are_places" = some (.ref fP)) (bP : Binds K fdP ["thing", "length", "many"] [])
    (GB : FnOk P w K mg base CX0 2 fB fdB ["thing", "many"] (spBelowA K)) : FnOk P w K mg base CX0 4 f fd ["letters", "deed", "many"] (spDeedA K) := by
  have GH : FnOk P w K mg base CX0 1 fH fdH ["thing"] (spHeadA K) := ok_has_headA FH B
  have GL : FnOk P w K mg base CX0 1 fL fdL ["letters", "thing"] (spLetterA K) := ok_letterA FL B
  have GP : FnOk P w K mg base CX0 3 fP fdP ["thing", "length", "many"] (spPlacesA K) := ok_are_placesA FP B FB gB bB GB
  refine F.ok sc_is_deed (fun vs H Q E h => ?_) (fun cdv A outer s H vs Q E hr h => ?_)
  · obtain ⟨_, _, _, _, rfl, _⟩ := h
    rfl
  · obtain ⟨sg, v, d, m, rfl, hd, hw, hsl, q⟩ := h
    refine ⟨_, (pss_cons (ps_if (pt_not (pt_val (pe_call GH (hr.mono (by decide)) (by rfl) gH FH.kp bH .nil pass0 (pa_cons (pv 1) pa_nil)))) (pss_one (ps_ret pe_bl)) pss_nil)
      (pss_cons (ps_if (pt_cmpR op_eq (pe_ix ix_tup (pv 1) pe_int (fun _ _ => rfl)) pe_str (nomark _)) (pss_one (ps_ret (pe_and (pe_cmpR op_eq (pe_callB call_len (by rfl) B.len (by decide +kernel) (pa_cons (pv 1) pa_nil)) pe_int (nomark _)) (pe_and (pe_call GL (hr.mono (by decide)) (by rfl) gL FL.kp bL .nil pass0 (pa_cons (pv 0) (pa_cons (pe_ix ix_tup (pv 1) pe_int (fun _ _ => rfl)) pa_nil))) (pe_one (pe_call GB (hr.mono (by decide)) (by rfl) gB FB.kp bB .nil pass0 (pa_cons (pe_ix ix_tup (pv 1) pe_int (fun _ _ => rfl)) (pa_cons (pv 2) pa_nil)))))))) pss_nil)
      (pss_cons (ps_if (pt_cmpR op_eq (pe_ix ix_tup (pv 1) pe_int (fun _ _ => rfl)) pe_str (nomark _)) (pss_one (ps_ret (pe_and (pe_cmpR op_eq (pe_callB call_len (by rfl) B.len (by decide +kernel) (pa_cons (pv 1) pa_nil)) pe_int (nomark _)) (pe_one (pe_call GP (hr.mono (by decide)) (by rfl) gP FP.kp bP .nil pass0 (pa_cons (pe_ix ix_tup (pv 1) pe_int (fun _ _ => rfl)) (pa_cons (pe_op op_add (pe_callB call_len (by rfl) B.len (by decide +kernel) (pa_cons (pv 0) pa_nil)) pe_int) (pa_cons (pv 2) pa_nil)))))))) pss_nil)
      (pss_one (ps_ret (pe_and (pe_cmpR op_eq (pe_ix ix_tup (pv 1) pe_int (fun _ _ => rfl)) pe_str (nomark _)) (pe_one (pe_cmpR op_eq (pe_callB call_len (by rfl) B.len (by decide +kernel) (pa_cons (pv 1) pa_nil)) pe_int (nomark _))))))))), ?_⟩
    refine ⟨_, rfl, v, d, rfl, hd, _, rfl, ?_⟩
    rcases dg_tup hd with ⟨p, xs, ds, rfl, rfl, hp, ha⟩ | ⟨_, nx⟩
    rotate_left
    · rw [deedD_no nx] at q
      cases d with
      | tuple x => exact (nx x rfl).elim
      | _ => exact ifT rfl (q H (Same.refl H))
    have q : ∀ H', Same H H' → Q (.bl (deedB sg m ds)) H' := q
    have hwd : PyData.weightAll ds ≤ 80000 := hw
    unfold deedB at q
    rcases Option.eq_none_or_eq_some (headD ds) with hx | ⟨x, hx⟩
    · rw [hx] at q
      exact ifT (by dsimp only; rw [hx]; rfl) (q H (Same.refl H))
    · rw [hx] at q
      dsimp only at q
      refine ifF (by dsimp only; rw [hx]; rfl) ?_
      obtain ⟨ys, rfl⟩ := head_at hx ha
      have hl := ha.len
      have hlx : (V.str x :: ys).length ≤ 80000 := by
        rw [hl]
        exact Nat.le_trans (weight_len ds) hwd
      have a0 : atI (V.str x :: ys) 0 = some (.str x) := atI_nat (j := 0) rfl
      have eS : ∀ z : Str, decide (V.str x = V.str z) = decide (x = z) := fun z => decide_eq_decide.mpr ⟨V.str.inj, fun e => by rw [e]⟩
      have eL : ∀ k : Nat, decide (V.int ((V.str x :: ys).length : Nat) = V.int (k : Nat)) = decide (ds.length = k) := fun k => by
        rw [dec_int, hl]
        exact decide_eq_decide.mpr ⟨fun h => by omega, fun h => by omega⟩
      refine ⟨_, rfl, p, _, 0, .str x, rfl, rfl, hp, a0, rfl, _, rfl, ?_⟩
      rw [eS]
      cases e1 : decide (x = "lay") with
      | true =>
        rw [e1, if_pos rfl] at q
        refine ifT rfl ⟨_, rfl, _, _, rfl, len_tup hp, rfl, ?_⟩
        rw [show decide (V.int ((V.str x :: ys).length : Nat) = V.int 3) = decide (ds.length = 3) from eL 3]
        refine ⟨_, rfl, ?_⟩
        cases e2 : decide (ds.length = 3) with
        | false =>
          rw [e2] at q
          exact ifF rfl (q H (Same.refl H))
        | true =>
          rw [e2] at q
          have h3 : ds.length = 3 := of_decide_eq_true e2
          have h1 : 1 < (V.str x :: ys).length := by omega
          have h2 : 2 < (V.str x :: ys).length := by omega
          have hw1 := weight_at (ds := ds) (i := 1)
          refine ifT rfl ⟨_, rfl, _, rfl, p, _, 1, _, rfl, rfl, hp, atI_nat (j := 1) (List.getElem?_eq_getElem h1), ?_⟩
          refine ⟨sg, _, _, rfl, dgall_at ha h1, by omega, _, rfl, ?_⟩
          cases e3 : letD sg (ds.getD 1 .none) with
          | false =>
            rw [e3] at q
            exact ifF rfl (q H (Same.refl H))
          | true =>
            rw [e3] at q
            exact ifT rfl ⟨_, rfl, p, _, 2, _, rfl, rfl, hp, atI_nat (j := 2) (List.getElem?_eq_getElem h2), _, rfl, _, _, m, rfl, dgall_at ha h2, q H (Same.refl H)⟩
      | false =>
        rw [e1, if_neg (by decide)] at q
        refine ifF rfl ?_
        refine ⟨_, rfl, p, _, 0, .str x, rfl, rfl, hp, a0, rfl, _, rfl, ?_⟩
        rw [eS]
        cases e2 : decide (x = "look") with
        | true =>
          rw [e2, if_pos rfl] at q
          refine ifT rfl ⟨_, rfl, _, _, rfl, len_tup hp, rfl, ?_⟩
          rw [show decide (V.int ((V.str x :: ys).length : Nat) = V.int 2) = decide (ds.length = 2) from eL 2]
          refine ⟨_, rfl, ?_⟩
          cases e3 : decide (ds.length = 2) with
          | false =>
            rw [e3] at q
            exact ifF rfl (q H (Same.refl H))
          | true =>
            rw [e3] at q
            have h3 : ds.length = 2 := of_decide_eq_true e3
            have h1 : 1 < (V.str x :: ys).length := by omega
            have hw1 := weight_at (ds := ds) (i := 1)
            refine ifT rfl ⟨_, rfl, p, _, 1, _, rfl, rfl, hp, atI_nat (j := 1) (List.getElem?_eq_getElem h1), _, rfl, _, _, rfl, len_S (by omega), _, _, rfl, rfl, _, rfl, ?_⟩
            exact ⟨_, _, sg.length + 1, m, rfl, dgall_at ha h1, by omega, q⟩
        | false =>
          rw [e2, if_neg (by decide)] at q
          refine ifF rfl ?_
          refine ⟨_, rfl, p, _, 0, .str x, rfl, rfl, hp, a0, rfl, ?_⟩
          rw [eS]
          refine ⟨_, rfl, ?_⟩
          cases e3 : decide (x = "stop") with
          | false =>
            rw [e3] at q
            exact ifF rfl (q H (Same.refl H))
          | true =>
            rw [e3] at q
            refine ifT rfl ⟨_, rfl, _, _, rfl, len_tup hp, rfl, ?_⟩
            rw [show decide (V.int ((V.str x :: ys).length : Nat) = V.int 1) = decide (ds.length = 1) from eL 1]
            exact q H (Same.refl H)
end
end Lw

namespace Lw
open PySem PySem.Spec PyProof.Rows L2 Mq
open SX (S)
/-! ### what is wrong of two values -/
inductive Wr
  | letters
  | deeds
  | num (k : Nat)
def Wr.v : Wr → V
  | .letters => .str "letters"
  | .deeds => .str "deeds"
  | .num k => .int (k : Nat)
def Wr.d : Wr → PyData
  | .letters => .str "letters"
  | .deeds => .str "deeds"
  | .num k => .int (k : Nat)
def lettersD : PyData → Bool
  | .str x => lettersB x.cps.toList
  | _ => false
theorem lettersD_no {d : PyData} (h : ∀ x, d ≠ .str x) : lettersD d = false := by
  cases d with
  | str x => exact (h x rfl).elim
  | _ => rfl
def firstBad (p : PyData → Bool) : List PyData → Nat → Option Nat
  | [], _ => none
  | d :: ds, k => if p d = true then firstBad p ds (k + 1) else some k
theorem first_step {p : PyData → Bool} {ds : List PyData} {i : Nat} {d : PyData} (h : ds[i]? = some d) : firstBad p (ds.drop i) i = if p d = true then firstBad p (ds.drop (i + 1)) (i + 1) else some i := by
  have hi : i < ds.length := by
    rcases Nat.lt_or_ge i ds.length with h2 | h2
    · exact h2
    · rw [List.getElem?_eq_none h2] at h
      cases h
  have e : ds[i] = d := by
    rw [List.getElem?_eq_getElem hi] at h
    exact Option.some.inj h
  rw [List.drop_eq_getElem_cons hi, e]
  rfl
def bodyN (sg : List Nat) : PyData → Option Wr
  | .tuple ds => if (ds.isEmpty || decide (999 < ds.length)) = true then some .deeds else (firstBad (deedD sg ds.length) ds 0).map .num
  | _ => some .deeds
def dueM (l f : PyData) : Option Wr :=
  match l with
  | .str x => if lettersB x.cps.toList = true then bodyN x.cps.toList f else some .letters
  | _ => some .letters
theorem due_str (sg : List Nat) (f : PyData) : dueM (.str (S sg)) f = if lettersB sg = true then bodyN sg f else some .letters := rfl
theorem due_no {l f : PyData} (h : ∀ x, l ≠ .str x) : dueM l f = some .letters := by
  cases l with
  | str x => exact (h x rfl).elim
  | _ => rfl
theorem bodyN_no {sg : List Nat} {f : PyData} (h : ∀ x, f ≠ .tuple x) : bodyN sg f = some .deeds := by
  cases f with
  | tuple x => exact (h x rfl).elim
  | _ => rfl
def optW : Option Wr → V
  | none => .non
  | some p => p.v
def optWD : Option Wr → PyData
  | none => .none
  | some p => p.d
theorem walk_enumT {K : PySem.W.Frag} {a : Addr} {xs : List V} : Walk (Iee K a) xs.length (fun H => SqT K H a xs) (YPair (fun i => some (.int (i : Nat))) (fun i => xs[i]?)) := by
  refine ⟨fun i _ hi q => ⟨xs, xs[i], q, by simp [hi]⟩, fun _ q => ⟨xs, q, Nat.le_refl _⟩, fun i H v H' _ q y => ?_⟩
  obtain ⟨T, x, h1, h2, h3, h4⟩ := y
  exact ⟨T, .int (i : Nat), x, h1, h2, h3, rfl, h4 xs q⟩
theorem empty_len {xs : List V} {ds : List PyData} (h : xs.length = ds.length) : xs.isEmpty = ds.isEmpty := by
  cases xs <;> cases ds <;> first | rfl | cases h
def spWrongA (K : PySem.W.Frag) (fn : Addr) : Sp := fun vs H Q _ => ∃ (v1 v2 : V) (d1 d2 : PyData), vs = [v1, v2, .ref fn, .str "deeds", .int 999] ∧ Dg K H v1 d1 ∧ Dg K H v2 d2 ∧ d1.weight ≤ 80000 ∧ d2.weight ≤ 80000 ∧ ∀ H', Same H H' → Q (optW (dueM d1 d2)) H'
section
variable {P : Program} {w : World} {K : PySem.W.Frag} {mg : Str → Option Value} {base : Heap}
theorem ok_wrong_partA {f fL fN : Addr} {fd fdL fdN : FuncData} (F : FunD K "wrong_part" "wrong_part" (defArgs s_wrong_part) (defBody s_wrong_part) (defScope s_wrong_part) [.str "nodes", .non] [] f fd) (B : Blt mg)
    (FL : Fun K "is_letters" "is_letters" s_is_letters fL fdL) (gL : mg "is_letters" = some (.ref fL)) (bL : Binds K fdL ["thing"] [])
    (GL : FnOk P w K mg base CX0 2 fL fdL ["thing"] (spLetters K))
    (FN : Fun K "is_deed" "is_deed" s_is_deed fN fdN) (bN : Binds K fdN ["letters", "deed", "many"] [])
    (GN : FnOk P w K mg base CX0 4 fN fdN ["letters", "deed", "many"] (spDeedA K)) :
    FnOk P w K mg base CX0 5 f fd ["letters", "nodes", "is_node", "word", "most"] (spWrongA K fN) := by
  refine F.ok sc_wrong_part (fun vs H Q E h => ?_) (fun cdv A outer s H vs Q E hr h => ?_)
  · obtain ⟨_, _, _, _, rfl, _⟩ := h
    rfl
  · obtain ⟨v1, v2, d1, d2, rfl, g1, g2, hw1, hw2, q⟩ := h
    have hu : (A.deeper (envOfC "wrong_part" (defScope s_wrong_part) s.heap.objs.size f cdv)).units + 64 < cLine := by
      have := hr.units
      omega
    have hu0 : (A.deeper (envOfC "wrong_part" (defScope s_wrong_part) s.heap.objs.size f cdv)).units < cLine := by omega
    refine ⟨_, (pss_cons (ps_if (pt_not (pt_val (pe_call GL (hr.mono (by decide)) (by rfl) gL FL.kp bL .nil pass0 (pa_cons (pv 0) pa_nil)))) (pss_one (ps_ret pe_str)) pss_nil)
      (pss_cons (ps_if (PW.pt (pw_or (pt_not (pt_val (pe_callB call_isi (by rfl) B.isi (by decide +kernel) (pa_cons (pv 1) (pa_cons (pe_bltn (v := .ty "tuple") (by rfl) B.tuple (by decide +kernel) rfl) pa_nil))))) (pw_or (pt_cmpR (op_eqTup0 hu0) (pv 1) (pe_tup pa_nil) (nomark _)) (pw_or1 (PW.pt (pw_and (pt_cmpR op_notN (pv 4) pe_non (nomark _)) (pw_and1 (pt_cmpR op_gt (pe_callB call_len (by rfl) B.len (by decide +kernel) (pa_cons (pv 1) pa_nil)) (pv 4) (nomark _))))))))) (pss_one (ps_ret (pv 3))) pss_nil)
      (pss_cons (ps_for (passes_of rfl) rfl (pi_enumT (by rfl) B.enumerate (pa_cons (pv 1) pa_nil)) (pg_tup rfl (pgs_cons (pg_name (i := 5) sc_wrong_part.nd rfl (Or.inl rfl)) (pgs_cons (pg_name (i := 6) sc_wrong_part.nd rfl (Or.inl rfl)) pgs_nil)))
        (pss_one (ps_if (pt_not (pt_val (pe_callL (i := 2) GN (hr.mono (by decide)) rfl (Or.inl rfl) FN.kp bN .nil pass0 (pa_cons (pv 0) (pa_cons (pv 6) (pa_cons (pe_callB call_len (by rfl) B.len (by decide +kernel) (pa_cons (pv 1) pa_nil)) pa_nil)))))) (pss_one (ps_ret (pv 5))) pss_nil)))
      (pss_one (ps_ret pe_non))))), ?_⟩
    refine ⟨_, rfl, _, rfl, ?_⟩
    rcases dg_str g1 with ⟨sg, rfl, rfl⟩ | ⟨⟨a, t, m, n⟩, nx⟩
    rotate_left
    · rw [due_no nx] at q
      exact Or.inr ⟨⟨a, t, m, n⟩, fun H1 s1 => ⟨_, rfl, ifT rfl (q H1 s1)⟩⟩
    have hsl : sg.length ≤ 80000 := hw1
    rw [due_str] at q
    refine Or.inl ⟨sg, rfl, by omega, fun H1 s1 => ⟨_, rfl, ?_⟩⟩
    cases hlet : lettersB sg with
    | false =>
      rw [hlet] at q
      exact ifT rfl (q H1 s1)
    | true =>
      rw [hlet, if_pos rfl] at q
      refine ifF rfl ?_
      rcases dg_tup g2 with ⟨fa, xs, ds, rfl, rfl, hfa, ha⟩ | ⟨_, nx⟩
      rotate_left
      · rw [bodyN_no nx] at q
        have t1 : TyX K H1 v2 (.type (Mq.kindOf d2)) := (g2.same s1).ty
        have n1 : Mq.kindOf d2 ≠ "tuple" := by
          cases d2 with
          | tuple x => exact (nx x rfl).elim
          | _ => simp [Mq.kindOf]
        exact ⟨_, rfl, _, .ty "tuple", _, _, false, rfl, .ty _, t1, kit_noT (kind_in d2) n1, false, rfl, iteT (ifT rfl ⟨_, rfl, q H1 s1⟩)⟩
      have hfa1 := Same.tup s1 hfa
      have hl := ha.len
      have hwd : PyData.weightAll ds ≤ 80000 := hw2
      have hlx : xs.length ≤ 80000 := by
        rw [hl]
        exact Nat.le_trans (weight_len ds) hwd
      refine ⟨_, rfl, _, .ty "tuple", _, _, true, rfl, .ty _, ty_tup hfa1, kit_ty (by decide +kernel), true, rfl, iteF ⟨_, rfl, sz_le (n := 0) (by decide), fun p hp => ?_⟩⟩
      have s2 : Same H (upd H1 p (.tup [])) := s1.trans (same_new hp)
      refine ⟨fa, p, xs, rfl, rfl, Same.tup s2 hfa, Or.inl (Or.inl upd_same), _, rfl, ?_⟩
      rw [empty_len hl]
      unfold bodyN at q
      dsimp only at q
      cases e0 : ds.isEmpty with
      | true =>
        rw [e0, Bool.true_or, if_pos rfl] at q
        exact ifT rfl (ifT rfl ⟨_, rfl, q _ s2⟩)
      | false =>
        rw [e0, Bool.false_or] at q
        refine ifF rfl ⟨_, rfl, rfl, _, rfl, ifT rfl ⟨_, rfl, _, _, rfl, len_tup (Same.tup s2 hfa), _, rfl, _, _, rfl, rfl, _, rfl, ?_⟩⟩
        have e9 : decide ((999 : Int) < (xs.length : Nat)) = decide (999 < ds.length) := decide_eq_decide.mpr ⟨fun h => by omega, fun h => by omega⟩
        rw [e9]
        cases h9 : decide (999 < ds.length) with
        | true =>
          rw [h9, if_pos rfl] at q
          exact ifT rfl ⟨_, rfl, q _ s2⟩
        | false =>
        rw [h9, if_neg (by decide)] at q
        refine ifF rfl ?_
        generalize upd H1 p (.tup []) = H2 at s2 ⊢
        refine ⟨_, rfl, fa, xs, rfl, Same.tup s2 hfa, ?_⟩
        refine for_it (walk_enumT (K := K) (a := fa) (xs := xs)) (fun i σ H' => Same H H' ∧ firstBad (deedD sg ds.length) (ds.drop i) i = firstBad (deedD sg ds.length) ds 0 ∧ ∃ o1 o2, σ = [some (.str (S sg)), some (.ref fa), some (.ref fN), some (.str "deeds"), some (.int 999), o1, o2]) ⟨s2, rfl, _, _, rfl⟩ (fun i σ H' hi p => Same.tup p.1 hfa) ?_ ?_
        · rintro i x σ H4 H5 hi ⟨s4, hb, o1, o2, rfl⟩ ⟨T1, y1, y2, rfl, hT, rfl, hy1, hy2⟩
          cases hy1
          obtain ⟨d, hd, hdg⟩ := ha.at hy2
          rw [first_step hd] at hb
          have s5 := same_new (o := HO.tup [V.int (i : Nat), y2]) hT
          have t5 := Same.trans s4 s5
          refine ⟨T1, _, rfl, Or.inl (Or.inl upd_same), rfl, _, _, rfl, _, _, rfl, rfl, ?_⟩
          generalize upd H4 T1 (.tup [V.int (i : Nat), y2]) = H5 at t5 ⊢
          have hwm := weight_mem (List.mem_of_getElem? hd)
          refine ⟨rfl, _, rfl, _, rfl, _, rfl, _, _, rfl, len_tup (Same.tup t5 hfa), sg, y2, d, ds.length, by rw [hl]; rfl, hdg.same t5, by omega, by omega, fun H6 s6 => ⟨_, rfl, ?_⟩⟩
          have t6 := t5.trans s6
          cases hn : deedD sg ds.length d with
          | false =>
            rw [hn, if_neg (by decide)] at hb
            rw [← hb] at q
            exact ifT rfl ⟨_, rfl, q H6 t6⟩
          | true =>
            rw [hn, if_pos rfl] at hb
            exact ifF rfl ⟨t6, hb, _, _, rfl⟩
        · rintro σ H4 ⟨s4, hb, o1, o2, rfl⟩
          rw [hl, List.drop_of_length_le (Nat.le_refl _)] at hb
          rw [← hb] at q
          exact q H4 s4
end
end Lw

namespace Lw
open PySem PySem.Spec PyProof.Rows L2 Mq
open SX (S)
/-! ### a program is made of right parts, or the part is told -/
structure PgC (K : PySem.W.Frag) (C : Addr) : Prop where
  cls : Cls K C
  nL : NoAttr K C "letters"
  nN : NoAttr K C "deeds"
def pgF (sg : List Nat) (na : Addr) : List (Str × V) := [("letters", .str (S sg)), ("deeds", .ref na)]
def PgAt (H : Hp) (C r : Addr) (sg : List Nat) (na : Addr) : Prop := ∃ dx, H r = some (.ins C dx (pgF sg na))
theorem PgAt.same {H H' : Hp} {C r na : Addr} {sg : List Nat} (h : PgAt H C r sg na) (e : Same H H') : PgAt H' C r sg na := let ⟨d, x⟩ := h; ⟨d, e _ _ x⟩
def spInitA (K : PySem.W.Frag) (C CT : Addr) : Sp := fun vs H Q E => ∃ (r dx : Addr) (v1 v2 : V) (d1 d2 : PyData), vs = [.ref r, v1, v2] ∧ H r = some (.ins C dx []) ∧ Dg K H v1 d1 ∧ Dg K H v2 d2 ∧ d1.weight ≤ 80000 ∧ d2.weight ≤ 80000 ∧
  match dueM d1 d2 with
  | some p => ∀ H' d, Same H H' → H' d = none → E (.ref CT) (some d) (upd H' d (.xd [("part", p.v)]))
  | none => ∀ H' sg na, v1 = .str (S sg) → d1 = .str (S sg) → v2 = .ref na → PgAt H' C r sg na → (∀ b o, H b = some o → b ≠ r → H' b = some o) → Q .non H'
theorem due_none {d1 d2 : PyData} (h : dueM d1 d2 = none) : ∃ sg ds, d1 = .str (S sg) ∧ d2 = .tuple ds ∧ lettersB sg = true ∧ ds ≠ [] ∧ ds.length ≤ 999 ∧ firstBad (deedD sg ds.length) ds 0 = none := by
  cases d1 with
  | str x =>
    rw [← S_of x, due_str] at h
    cases hl : lettersB x.cps.toList with
    | false =>
      rw [hl] at h
      cases h
    | true =>
      rw [hl, if_pos rfl] at h
      cases d2 with
      | tuple ds =>
        unfold bodyN at h
        dsimp only at h
        cases h0 : ds.isEmpty with
        | true =>
          rw [h0, Bool.true_or, if_pos rfl] at h
          cases h
        | false =>
          rw [h0, Bool.false_or] at h
          cases h9 : decide (999 < ds.length) with
          | true =>
            rw [h9, if_pos rfl] at h
            cases h
          | false =>
            rw [h9, if_neg (by decide)] at h
            have := of_decide_eq_false h9
            refine ⟨x.cps.toList, ds, by rw [S_of], rfl, hl, ?_, by omega, ?_⟩
            · rintro rfl
              cases h0
            · cases h1 : firstBad (deedD x.cps.toList ds.length) ds 0 with
              | none => rfl
              | some k =>
                rw [h1] at h
                cases h
      | _ => cases h
  | _ => cases h
theorem wr_non (p : Wr) : decide (p.v = .non) = false := by cases p <;> exact decide_eq_false fun z => nomatch z
section
variable {P : Program} {w : World} {K : PySem.W.Frag} {mg : Str → Option Value} {base : Heap} {C CT : Addr}
theorem ok_initA {f fW fN fE : Addr} {fd fdW : FuncData} (F : Fun K "__init__" "Program.__init__" s_Program___init__ f fd) (R : PgC K C)
    (kW : PySem.W.keepIn K (.ref fW) = true) (gW : mg "wrong_part" = some (.ref fW)) (bW : Binds K fdW ["letters", "nodes", "is_node", "word", "most"] [])
    (gN : mg "is_deed" = some (.ref fN)) (mp : ∃ t, mg "MOST_PLACES" = some (.int 999 t))
    (GW : FnOk P w K mg base CX0 5 fW fdW ["letters", "nodes", "is_node", "word", "most"] (spWrongA K fN)) (T : MqE_part.Txt K mg "BadProgram" "BadProgram.__init__" CT fE) :
    FnOk P w K mg base (L2.CX P w) 6 f fd ["self", "letters", "deeds"] (spInitA K C CT) := by
  obtain ⟨tm, mp⟩ := mp
  refine F.okX sc_Program___init__ (fun vs H Q E h => ?_) (fun cdv A outer s H vs Q E hr h => ?_)
  · obtain ⟨_, _, _, _, _, _, rfl, _⟩ := h
    rfl
  · obtain ⟨r, dx, v1, v2, d1, d2, rfl, hr0, g1, g2, hw1, hw2, q⟩ := h
    refine ⟨_, (pss_cons (ps_set (i := 3) sc_Program___init__.nd rfl (Or.inl rfl) (pe_call GW (hr.mono (by decide)) (by rfl) gW kW bW .nil pass0 (pa_cons (pv 1) (pa_cons (pv 2) (pa_cons (pe_glob (v := .ref fN) (by rfl) gN rfl) (pa_cons pe_str (pa_cons (pe_glob (v := .int 999) (by rfl) mp ⟨_, rfl⟩) pa_nil)))))))
      (pss_cons (ps_if (pt_cmpR op_notN (pv 3) pe_non (nomark _)) (pss_one (MqE_part.ps_raise rfl T hr (takes_of rfl rfl rfl rfl) (pa_cons (pv 3) pa_nil))) pss_nil)
      (pss_cons (ps_fld (pv 0) (pv 1) rfl)
      (pss_one (ps_fld (pv 0) (pv 2) rfl))))), ?_⟩
    refine ⟨_, rfl, _, rfl, ?_⟩
    refine ⟨v1, v2, d1, d2, rfl, g1, g2, hw1, hw2, fun H1 s1 => ?_⟩
    refine ⟨_, rfl, rfl, _, rfl, ?_⟩
    cases e : dueM d1 d2 with
    | some p =>
      rw [e] at q
      exact ifT (by show (!decide (p.v = .non)) = true; rw [wr_non]; rfl) ⟨_, rfl, _, rfl, fun d hd => q H1 d s1 hd⟩
    | none =>
      rw [e] at q
      obtain ⟨sg, ds, rfl, rfl, _⟩ := due_none e
      cases g1
      rcases dg_tup g2 with ⟨na, xs, ds', rfl, e', hp, ha⟩ | ⟨_, nx⟩
      rotate_left
      · exact (nx ds rfl).elim
      refine ifF rfl ?_
      have h1 := s1 _ _ hr0
      refine ⟨_, rfl, _, rfl, r, C, dx, [], rfl, h1, R.cls, R.nL, (by show 0 < 1000; decide), ?_⟩
      refine ⟨_, rfl, _, rfl, r, C, dx, _, rfl, upd_same, R.cls, R.nN, (by show 1 < 1000; decide), ?_⟩
      refine q _ sg na rfl rfl rfl ⟨dx, upd_same.trans ?_⟩ (fun b o e hb => ?_)
      · exact congrArg (fun z => some (HO.ins C dx z)) rfl
      · rw [upd_ne hb, upd_ne hb]
        exact s1 b o e
end
end Lw

namespace Lw
open PySem PySem.Spec PyProof.Rows L2 Mq
open SX (S)
/-! ### deeds, as values and as data -/
inductive Dd where
  | stop
  | lay (c t : Nat)
  | look (ts : List Nat)
def intsV (ts : List Nat) : List V := ts.map fun t => V.int (t : Nat)
theorem intsV_len (ts : List Nat) : (intsV ts).length = ts.length := by simp [intsV]
theorem intsV_get {ts : List Nat} {i : Nat} (h : i < ts.length) : (intsV ts)[i]? = some (.int (ts.getD i 0 : Nat)) := by
  unfold intsV
  rw [List.getElem?_map, List.getElem?_eq_getElem h, List.getD_eq_getElem?_getD, List.getElem?_eq_getElem h]
  rfl
def DdAt (K : PySem.W.Frag) (H : Hp) (v : V) : Dd → Prop
  | .stop => ∃ a, v = .ref a ∧ SqT K H a [.str "stop"]
  | .lay c t => ∃ a, v = .ref a ∧ SqT K H a [.str "lay", .str (S [c]), .int (t : Nat)]
  | .look ts => ∃ a b, v = .ref a ∧ SqT K H a [.str "look", .ref b] ∧ SqT K H b (intsV ts)
def ddOk (sg : List Nat) (m : Nat) : Dd → Prop
  | .stop => True
  | .lay c t => c ∈ sg ∧ t < m
  | .look ts => ts.length = sg.length + 1 ∧ ∀ t ∈ ts, t < m
theorem DdAt.kp {K : PySem.W.Frag} {H H' : Hp} {v : V} {n : Dd} (h : DdAt K H v n) (e : KpT K H H') : DdAt K H' v n := by
  cases n with
  | stop => obtain ⟨a, x, y⟩ := h; exact ⟨a, x, e _ _ y⟩
  | lay c t => obtain ⟨a, x, y⟩ := h; exact ⟨a, x, e _ _ y⟩
  | look ts => obtain ⟨a, b, x, y, z⟩ := h; exact ⟨a, b, x, e _ _ y, e _ _ z⟩
theorem DdAt.same {K : PySem.W.Frag} {H H' : Hp} {v : V} {n : Dd} (h : DdAt K H v n) (e : Same H H') : DdAt K H' v n := h.kp (KpT.same e)
inductive DdAll (K : PySem.W.Frag) (H : Hp) : List V → List Dd → Prop
  | nil : DdAll K H [] []
  | cons {v : V} {n : Dd} {vs : List V} {ns : List Dd} : DdAt K H v n → DdAll K H vs ns → DdAll K H (v :: vs) (n :: ns)
theorem DdAll.same {K : PySem.W.Frag} {H H' : Hp} (e : Same H H') : ∀ {vs : List V} {ns : List Dd}, DdAll K H vs ns → DdAll K H' vs ns
  | _, _, .nil => .nil
  | _, _, .cons a b => .cons (a.same e) (DdAll.same e b)
theorem DdAll.len {K : PySem.W.Frag} {H : Hp} : ∀ {vs : List V} {ns : List Dd}, DdAll K H vs ns → vs.length = ns.length
  | _, _, .nil => rfl
  | _, _, .cons a b => congrArg (· + 1) b.len
theorem DdAll.snoc {K : PySem.W.Frag} {H : Hp} {v : V} {n : Dd} (h : DdAt K H v n) : ∀ {vs : List V} {ns : List Dd}, DdAll K H vs ns → DdAll K H (vs ++ [v]) (ns ++ [n])
  | _, _, .nil => .cons h .nil
  | _, _, .cons a b => .cons a (DdAll.snoc h b)
theorem DdAll.get {K : PySem.W.Frag} {H : Hp} : ∀ {vs : List V} {ns : List Dd} {i : Nat} {n : Dd}, DdAll K H vs ns → ns[i]? = some n → ∃ v, vs[i]? = some v ∧ DdAt K H v n
  | _, _, 0, _, .cons a b, h => ⟨_, rfl, by cases h; exact a⟩
  | _, _, i + 1, _, .cons a b, h => DdAll.get (i := i) b h
theorem DdAll.at {K : PySem.W.Frag} {H : Hp} : ∀ {vs : List V} {ns : List Dd} {i : Nat} {v : V}, DdAll K H vs ns → vs[i]? = some v → ∃ n, ns[i]? = some n ∧ DdAt K H v n
  | _, _, 0, _, .cons a b, h => ⟨_, rfl, by cases h; exact a⟩
  | _, _, i + 1, _, .cons a b, h => DdAll.at (i := i) b h
def DeedsAt (K : PySem.W.Frag) (H : Hp) (a : Addr) (ns : List Dd) : Prop := ∃ vs, SqT K H a vs ∧ DdAll K H vs ns
theorem DeedsAt.same {K : PySem.W.Frag} {H H' : Hp} {a : Addr} {ns : List Dd} (h : DeedsAt K H a ns) (e : Same H H') : DeedsAt K H' a ns := let ⟨vs, x, y⟩ := h; ⟨vs, Same.tup e x, y.same e⟩
/-- letters, as they have to be -/
structure SgOk (sg : List Nat) : Prop where
  pos : 0 < sg.length
  few : sg.length ≤ 26
  low : ∀ c ∈ sg, c < 128
  ok : lettersB sg = true
def DeedsOk (sg : List Nat) (ns : List Dd) : Prop := ns ≠ [] ∧ ns.length ≤ 999 ∧ ∀ n ∈ ns, ddOk sg ns.length n
def ddD : Dd → PyData
  | .stop => .tuple [.str "stop"]
  | .lay c t => .tuple [.str "lay", .str (S [c]), .int (t : Nat)]
  | .look ts => .tuple [.str "look", .tuple (ts.map fun t => .int (t : Nat))]
theorem dp_ints {K : PySem.W.Frag} {H : Hp} : ∀ ts : List Nat, DpAll K H (intsV ts) (ts.map fun t => .int (t : Nat))
  | [] => .nil
  | t :: ts => .cons (.int _) (dp_ints ts)
theorem DdAt.dp {K : PySem.W.Frag} {H : Hp} {v : V} {n : Dd} (h : DdAt K H v n) : Dp K H v (ddD n) := by
  cases n with
  | stop => obtain ⟨a, rfl, ha⟩ := h; exact .tup ha (.cons (.str _) .nil)
  | lay c t => obtain ⟨a, rfl, ha⟩ := h; exact .tup ha (.cons (.str _) (.cons (.str _) (.cons (.int _) .nil)))
  | look ts => obtain ⟨a, b, rfl, ha, hb⟩ := h; exact .tup ha (.cons (.str _) (.cons (.tup hb (dp_ints ts)) .nil))
theorem DdAll.dp {K : PySem.W.Frag} {H : Hp} : ∀ {vs : List V} {ns : List Dd}, DdAll K H vs ns → DpAll K H vs (ns.map ddD)
  | _, _, .nil => .nil
  | _, _, .cons a b => .cons a.dp (DdAll.dp b)
theorem DdAll.kp {K : PySem.W.Frag} {H H' : Hp} (e : KpT K H H') : ∀ {vs : List V} {ns : List Dd}, DdAll K H vs ns → DdAll K H' vs ns
  | _, _, .nil => .nil
  | _, _, .cons a b => .cons (a.kp e) (DdAll.kp e b)
theorem DeedsAt.kp {K : PySem.W.Frag} {H H' : Hp} {a : Addr} {ns : List Dd} (h : DeedsAt K H a ns) (e : KpT K H H') : DeedsAt K H' a ns := let ⟨vs, x, y⟩ := h; ⟨vs, e _ _ x, y.kp e⟩
end Lw

namespace Lw
open PySem PySem.Spec PyProof.Rows L2 Mq
open SX (S)
/-! ### numbers in a text -/
def digs : List Nat := [48, 49, 50, 51, 52, 53, 54, 55, 56, 57]
def digB (w : List Nat) : Bool := ((List.range w.length).filter fun k => !inB (w.getD k 0) digs).isEmpty
def numB (w : List Nat) : Bool := !decide (w = []) && (digB w && !(decide (w.getD 0 0 = 48) && !decide (w = [48])))
def numM (w : List Nat) : Option Nat := if numB w = true then some (NumText.digitsVal w) else none
def optN : Option Nat → V
  | none => .non
  | some n => .int ((n : Nat) : Int)
theorem in_digs (c : Nat) : inB c digs = (decide (48 ≤ c) && decide (c ≤ 57)) := by
  unfold inB digs
  rw [Bool.eq_iff_iff]
  simp only [decide_eq_true_eq, Bool.and_eq_true, List.mem_cons, List.not_mem_nil, or_false]
  omega
theorem dig_all {w : List Nat} (h : digB w = true) : w.all (fun c => decide (48 ≤ c) && decide (c ≤ 57)) = true := by
  unfold digB at h
  have h1 : ((List.range w.length).map fun k => inB (w.getD k 0) digs).all id = true := by
    rw [all_filter]
    exact h
  rw [List.all_map, List.all_eq_true] at h1
  rw [List.all_eq_true]
  intro c hc
  obtain ⟨i, hi, rfl⟩ := List.mem_iff_getElem.mp hc
  have h2 : inB (w.getD i 0) digs = true := h1 i (List.mem_range.mpr hi)
  rw [List.getD_eq_getElem?_getD, List.getElem?_eq_getElem hi, in_digs] at h2
  exact h2
theorem num_int {w : List Nat} (h : numB w = true) (hl : w.length ≤ 4300) : intText? (S w) = some ((NumText.digitsVal w : Nat) : Int) := by
  unfold numB at h
  obtain ⟨h1, h⟩ := Bool.and_eq_true_iff.mp h
  obtain ⟨h2, _⟩ := Bool.and_eq_true_iff.mp h
  refine SX.int_S (dig_all h2) (fun e => ?_) hl
  rw [decide_eq_true e] at h1
  cases h1
def spNum : Sp := fun vs H Q _ => ∃ w : List Nat, vs = [.str (S w)] ∧ w.length ≤ 100000 ∧ (numB w = true → w.length ≤ 640) ∧ ∀ H', Same H H' → Q (optN (numM w)) H'
def tBadNum : TT := fun σ H Q => ∃ w o, σ = [some (.str (S w)), o] ∧ w.length ≤ 100000 ∧ ∀ H', Same H H' → Q (!numB w) H'
theorem flat_opt (m : Option Nat) : flatV (optN m) = true := by cases m <;> rfl
theorem inV_none (ms : List (Option Nat)) : inV .non (ms.map optN) = !ms.all Option.isSome := by
  unfold inV
  rw [List.any_map]
  induction ms with
  | nil => rfl
  | cons m ms ih =>
    rw [List.any_cons, List.all_cons, ih]
    cases m with
    | none => rfl
    | some n => rfl
theorem flat_opts (ms : List (Option Nat)) : (ms.map optN).all flatV = true := by
  rw [List.all_map, List.all_eq_true]
  intro m _
  exact flat_opt m
def rdN (m : Nat) (w : List Nat) : Option Nat :=
  if decide (w.length ≤ 12) = true then (match numM w with
    | some n => if decide (n < m) = true then some n else none
    | none => none) else none
def rdNs (m : Nat) (ws : List (List Nat)) : Option (List Nat) := if (ws.map (rdN m)).all Option.isSome = true then some (ws.map fun w => (rdN m w).getD 0) else none
theorem rdN_lt {m n : Nat} {w : List Nat} (h : rdN m w = some n) : n < m := by
  unfold rdN at h
  split at h
  · split at h
    · split at h
      · rename_i h2
        cases h
        exact of_decide_eq_true h2
      · cases h
    · cases h
  · cases h
theorem rdNs_lt {m : Nat} {ws : List (List Nat)} {ts : List Nat} (h : rdNs m ws = some ts) : ts.length = ws.length ∧ ∀ t ∈ ts, t < m := by
  unfold rdNs at h
  split at h
  · rename_i h2
    cases h
    refine ⟨List.length_map _, fun t ht => ?_⟩
    obtain ⟨w, hw, rfl⟩ := List.mem_map.mp ht
    have h3 := List.all_eq_true.mp h2 _ (List.mem_map.mpr ⟨w, hw, rfl⟩)
    cases h4 : rdN m w with
    | none =>
      rw [h4] at h3
      cases h3
    | some n => exact rdN_lt h4
  · cases h
theorem opts_vals {m : Nat} {ws : List (List Nat)} (h : (ws.map (rdN m)).all Option.isSome = true) : (ws.map (rdN m)).map optN = intsV (ws.map fun w => (rdN m w).getD 0) := by
  unfold intsV
  rw [List.map_map, List.map_map]
  refine List.map_congr_left fun w hw => ?_
  have h3 := List.all_eq_true.mp h _ (List.mem_map.mpr ⟨w, hw, rfl⟩)
  show optN (rdN m w) = V.int (((rdN m w).getD 0 : Nat) : Int)
  cases h4 : rdN m w with
  | none =>
    rw [h4] at h3
    cases h3
  | some n => rfl
def NumsR (K : PySem.W.Frag) (H : Hp) : Option (List Nat) → V → Prop
  | none, v => v = .non
  | some ts, v => ∃ p, v = .ref p ∧ SqT K H p (intsV ts)
def spNumRd : Sp := fun vs H Q _ => ∃ (w : List Nat) (m : Nat), vs = [.str (S w), .int (m : Nat)] ∧ w.length ≤ 100000 ∧ ∀ H', Same H H' → Q (optN (rdN m w)) H'
def spNumsRd (K : PySem.W.Frag) : Sp := fun vs H Q _ => ∃ (L : Addr) (ws : List (List Nat)) (m : Nat), vs = [.ref L, .int (m : Nat)] ∧ SqL K H L (txs ws) ∧ ws.length ≤ 90000 ∧ (∀ w ∈ ws, w.length ≤ 100000) ∧ ∀ H' v, Same H H' → NumsR K H' (rdNs m ws) v → Q v H'
theorem digs_is : ("0123456789" : Str) = S digs := by decide +kernel
theorem ix_tupK {X : Cx} {K : PySem.W.Frag} (h : X.K = K) : IxR X (rIxT K) := h ▸ ix_tup
theorem ix_listK {X : Cx} {K : PySem.W.Frag} (h : X.K = K) : IxR X (rIxL K) := h ▸ ix_list
theorem any_filter (n : Nat) (q : Nat → Bool) : ((List.range n).map q).any id = !((List.range n).filter q).isEmpty := by
  rw [Bool.eq_iff_iff]
  simp [List.filter_eq_nil_iff]
theorem getD_at {l : List Nat} {i : Nat} (h : i < l.length) : l[i]? = some (l.getD i 0) := by rw [List.getD_eq_getElem?_getD, List.getElem?_eq_getElem h]; rfl
section
variable {P : Program} {w : World} {K : PySem.W.Frag} {mg : Str → Option Value} {base : Heap}
theorem ok_integer {f : Addr} {fd : FuncData} (F : Fun K "integer_read" "integer_read" s_integer_read f fd) (B : Blt mg) (dg : ∃ t, mg "DIGITS" = some (.str "0123456789" t)) (mf : ∃ t, mg "MOST_FIGURES" = some (.int 4300 t)) :
    FnOk P w K mg base CX0 1 f fd ["text"] spNum := by
  obtain ⟨tD, dg⟩ := dg
  obtain ⟨tM, mf⟩ := mf
  refine F.ok sc_integer_read (fun vs H Q E h => ?_) (fun cdv A outer s H vs Q E hr h => ?_)
  · obtain ⟨_, rfl, _⟩ := h
    rfl
  · obtain ⟨w, rfl, hw, hw6, q⟩ := h
    refine ⟨_, (pss_cons (ps_if (PT_imp (t' := tBadNum) (PW.pt (pw_or (pt_cmpR op_eq (pv 0) pe_str (nomark _)) (pw_or (pt_val (pe_callB (cr_any rfl) (by rfl) B.any (by decide +kernel) (pa_cons (pe_lc (own := [("figure", 1)]) (g := gName 1) (tt := tYes) rfl sc_integer_read.nd (pi_str (pv 0)) (blkOk_by (own := [("figure", 1)]) (N := ["text", "figure"]) (sc := defScope s_integer_read) (by decide +kernel)) (fun _ _ _ _ _ => pg_name (i := 1) sc_integer_read.nd rfl (Or.inl rfl)) (fun _ _ _ _ _ => pts_nil) (fun _ _ _ _ _ => (pe_cmpR op_notIn_sign (pv 1) (pe_glob (v := .str "0123456789") rfl dg ⟨_, rfl⟩) rfl))) pa_nil))) (pw_or1 (PW.pt (pw_and (pt_cmpR op_eq (pe_ix ix_str (pv 0) pe_int (fun _ _ => rfl)) pe_str (nomark _)) (pw_and1 (pt_cmpR op_ne (pv 0) pe_str (nomark _))))))))) (fun σ H Q h => by
        obtain ⟨w, o, rfl, hw, q⟩ := h
        unfold numB at q
        refine ⟨_, rfl, rfl, _, rfl, ?_⟩
        rw [str_is_nil]
        cases e0 : decide (w = []) with
        | true =>
          rw [e0] at q
          exact ifT rfl (q H (Same.refl H))
        | false =>
          rw [e0] at q
          have hpos : 0 < w.length := pos_of (of_decide_eq_false e0)
          refine ifF rfl ?_
          refine ⟨_, rfl, S w, rfl, fun L hL => ?_⟩
          refine lc_yes (walk_S w) (fun i H' => Same H H' ∧ H' L = some (.lst (((List.range i).map fun k => !inB (w.getD k 0) digs).map V.bl))) ⟨same_new hL, upd_same⟩ (fun _ _ _ _ => trivial) ?_ ?_
          · rintro i x H2 H3 hi ⟨s2, zL⟩ ⟨rfl, rfl⟩
            refine ⟨rfl, _, rfl, ?_⟩
            rw [digs_is]
            refine ⟨w.getD i 0, S digs, rfl, rfl, _, zL, sz_lt (by rw [List.length_map, List.length_map, List.length_range]; omega), push_same hL s2, ?_⟩
            rw [upd_same, List.range_succ, List.map_append, List.map_append]
            rfl
          · rintro H2 ⟨s2, zL⟩
            refine ⟨L, (List.range w.length).map fun k => !inB (w.getD k 0) digs, rfl, SqL.of zL, _, rfl, ?_⟩
            rw [any_filter]
            have ed : digB w = ((List.range w.length).filter fun k => !inB (w.getD k 0) digs).isEmpty := rfl
            rw [← ed]
            cases e1 : digB w with
            | false =>
              rw [e1] at q
              exact ifT rfl (q H2 s2)
            | true =>
              rw [e1] at q
              refine ifF rfl ⟨_, rfl, S w, 0, w.getD 0 0, rfl, rfl, sz_le (by rw [SX.S_len]; omega), at_get (l := w) (k := 0) hpos, rfl, _, rfl, ?_⟩
              rw [show decide (V.str (S [w.getD 0 0]) = V.str "0") = decide (w.getD 0 0 = 48) from (S_dec [w.getD 0 0] [48]).trans (decide_eq_decide.mpr ⟨fun h => by injection h, fun h => by rw [h]⟩)]
              cases e2 : decide (w.getD 0 0 = 48) with
              | false =>
                rw [e2] at q
                exact ifF rfl (q H2 s2)
              | true =>
                rw [e2] at q
                refine ifT rfl ⟨_, rfl, rfl, _, rfl, ?_⟩
                rw [show decide (V.str (S w) = V.str "0") = decide (w = [48]) from S_dec w [48]]
                have q1 := q H2 s2
                rw [show (!(!false && (true && !(true && !decide (w = [48]))))) = (!decide (w = [48])) by cases decide (w = [48]) <;> rfl] at q1
                exact q1)) (pss_one (ps_ret pe_non)) pss_nil)
      (pss_one (ps_ret (pe_ifExp (pt_cmpR op_le (pe_callB call_len (by rfl) B.len (by decide +kernel) (pa_cons (pv 0) pa_nil)) (pe_glob (v := .int 4300) rfl mf ⟨_, rfl⟩) (nomark _)) (pe_callTy call_int_str (by rfl) B.int (by decide +kernel) (pa_cons (pv 0) pa_nil)) pe_non)))), ?_⟩
    refine ⟨w, _, rfl, hw, fun H1 s1 => ?_⟩
    unfold numM at q
    cases e : numB w with
    | false =>
      rw [e] at q
      exact ifT rfl (q H1 s1)
    | true =>
      rw [e] at q
      have hw := hw6 e
      refine ifF rfl ⟨_, rfl, _, _, rfl, len_S (by omega), ?_⟩
      refine ⟨_, _, rfl, rfl, _, rfl, ifT (decide_eq_true (by omega)) ⟨_, rfl, S w, _, rfl, num_int e (by omega), ?_, q H1 s1⟩⟩
      rw [SX.S_len]
      exact hw
theorem ok_number_read {f fI : Addr} {fd fdI : FuncData} (F : Fun K "number_read" "number_read" s_number_read f fd) (B : Blt mg)
    (FI : Fun K "integer_read" "integer_read" s_integer_read fI fdI) (gI : mg "integer_read" = some (.ref fI)) (bI : Binds K fdI ["text"] []) (GI : FnOk P w K mg base CX0 1 fI fdI ["text"] spNum) :
    FnOk P w K mg base CX0 2 f fd ["text", "many"] spNumRd := by
  refine F.ok sc_number_read (fun vs H Q E h => ?_) (fun cdv A outer s H vs Q E hr h => ?_)
  · obtain ⟨_, _, rfl, _⟩ := h
    rfl
  · obtain ⟨w, m, rfl, hw, q⟩ := h
    refine ⟨_, (pss_cons (ps_set (i := 2) sc_number_read.nd rfl (Or.inl rfl) (pe_ifExp (pt_cmpR op_le (pe_callB call_len (by rfl) B.len (by decide +kernel) (pa_cons (pv 0) pa_nil)) pe_int (nomark _)) (pe_call GI (hr.mono (by decide)) (by rfl) gI FI.kp bI .nil pass0 (pa_cons (pv 0) pa_nil)) pe_non))
      (pss_one (ps_ret (pe_ifExp (PW.pt (pw_and (pt_cmpR op_notN (pv 2) pe_non (nomark _)) (pw_and1 (pt_cmpR op_lt (pv 2) (pv 1) (nomark _))))) (pv 2) pe_non)))), ?_⟩
    refine ⟨_, rfl, _, _, rfl, len_S hw, _, _, rfl, rfl, _, rfl, ?_⟩
    unfold rdN at q
    by_cases h : w.length ≤ 12
    · rw [decide_eq_true h, if_pos rfl] at q
      refine ifT (decide_eq_true (by omega)) ⟨_, rfl, w, rfl, hw, (fun _ => by omega), fun H1 s1 => ⟨_, rfl, rfl, _, rfl, ?_⟩⟩
      cases e : numM w with
      | none =>
        rw [e] at q
        exact ifF rfl (ifF rfl (q H1 s1))
      | some n =>
        rw [e] at q
        dsimp only at q
        refine ifT rfl ⟨_, rfl, _, rfl, _, _, rfl, rfl, _, rfl, ?_⟩
        have e2 : decide (((n : Nat) : Int) < ((m : Nat) : Int)) = decide (n < m) := decide_eq_decide.mpr ⟨fun h => by omega, fun h => by omega⟩
        rw [e2]
        cases e3 : decide (n < m) with
        | true =>
          rw [e3, if_pos rfl] at q
          exact ifT rfl ⟨_, rfl, q H1 s1⟩
        | false =>
          rw [e3, if_neg (by decide)] at q
          exact ifF rfl (q H1 s1)
    · rw [decide_eq_false h, if_neg (by decide)] at q
      exact ifF (decide_eq_false (by omega)) ⟨_, rfl, rfl, _, rfl, ifF rfl (ifF rfl (q H (Same.refl H)))⟩
theorem ok_numbers_read {f fI : Addr} {fd fdI : FuncData} (F : Fun K "numbers_read" "numbers_read" s_numbers_read f fd) (B : Blt mg)
    (FI : Fun K "number_read" "number_read" s_number_read fI fdI) (gI : mg "number_read" = some (.ref fI)) (bI : Binds K fdI ["text", "many"] []) (GI : FnOk P w K mg base CX0 2 fI fdI ["text", "many"] spNumRd) :
    FnOk P w K mg base CX0 3 f fd ["words", "many"] (spNumsRd K) := by
  refine F.ok sc_numbers_read (fun vs H Q E h => ?_) (fun cdv A outer s H vs Q E hr h => ?_)
  · obtain ⟨_, _, _, rfl, _⟩ := h
    rfl
  · obtain ⟨L, ws, m, rfl, hL, hn, hw, q⟩ := h
    refine ⟨_, (pss_cons (ps_set (i := 2) sc_numbers_read.nd rfl (Or.inl rfl) (pe_callTy call_tuple_of (by rfl) B.tuple (by decide +kernel) (pa_cons (pe_lc (own := [("word", 3)]) (g := gName 3) (tt := tYes) rfl sc_numbers_read.nd (pi_list (pv 0)) (blkOk_by (own := [("word", 3)]) (N := ["words", "many", "numbers", "word"]) (sc := defScope s_numbers_read) (by decide +kernel)) (fun _ _ _ _ _ => pg_name (i := 3) sc_numbers_read.nd rfl (Or.inl rfl)) (fun _ _ _ _ _ => pts_nil) (fun _ _ _ _ _ => (pe_call GI (hr.mono (by decide)) (by rfl) gI FI.kp bI .nil pass0 (pa_cons (pv 3) (pa_cons (pv 1) pa_nil))))) pa_nil)))
      (pss_one (ps_ret (pe_ifExp (pt_cmpR op_in_seq pe_non (pv 2) rfl) pe_non (pv 2))))), ?_⟩
    refine ⟨_, rfl, L, rfl, ⟨_, hL⟩, fun D hD => ?_⟩
    refine lc_yes (walk_list (a := L) (xs := txs ws)) (fun i H' => Same H H' ∧ H' D = some (.lst (((ws.take i).map (rdN m)).map optN))) ⟨same_new hD, upd_same⟩ (fun _ _ _ pp => SqL.kp hL pp.1) ?_ ?_
    · rintro j x H3 H4 hj ⟨s3, zD⟩ ⟨rfl, hx⟩
      rw [List.length_map] at hj
      rw [List.getElem?_map, List.getElem?_eq_getElem hj] at hx
      cases hx
      refine ⟨rfl, _, rfl, _, rfl, ws[j], m, rfl, hw _ (List.getElem_mem hj), fun H5 s5 => ?_⟩
      refine ⟨_, s5 _ _ zD, sz_lt (by rw [List.length_map, List.length_map, List.length_take]; omega), push_same hD (s3.trans s5), ?_⟩
      rw [upd_same, List.take_add_one, List.getElem?_eq_getElem hj, List.map_append, List.map_append]
      rfl
    · rintro H3 ⟨s3, zD⟩
      rw [List.length_map, List.take_length] at zD
      refine ⟨D, _, rfl, Or.inl ⟨SqL.of zD, fun p hp => ?_⟩⟩
      have s4 := same_new (o := HO.tup ((ws.map (rdN m)).map optN)) hp
      have z4 : SqT K (upd H3 p (.tup ((ws.map (rdN m)).map optN))) p ((ws.map (rdN m)).map optN) := Or.inl (Or.inl upd_same)
      refine ⟨_, rfl, p, _, rfl, Or.inr z4, rfl, flat_opts _, _, rfl, ?_⟩
      rw [inV_none]
      have q2 := fun v => q _ v (s3.trans s4)
      unfold rdNs at q2
      cases e : (ws.map (rdN m)).all Option.isSome with
      | true =>
        rw [e, if_pos rfl] at q2
        refine ifF rfl ⟨_, rfl, q2 _ ⟨p, rfl, ?_⟩⟩
        rw [← opts_vals e]
        exact z4
      | false =>
        rw [e, if_neg (by decide)] at q2
        exact ifT rfl (q2 _ rfl)
end
end Lw

namespace Lw
open PySem PySem.Spec PyProof.Rows L2 Mq
open SX (S)
open TL (numL)
/-! ### texts of deeds and of programs -/
theorem log_small {k : Nat} (h : k ≤ 1000) : ((k : Nat) : Int).natAbs.log2 < 1920 := by
  have e : ((k : Nat) : Int).natAbs = k := Int.natAbs_natCast k
  rw [e]
  have := Nat.log2_le_self k
  omega
def stopL : List Nat := [115, 116, 111, 112]
def layL : List Nat := [108, 97, 121]
def lookL : List Nat := [108, 111, 111, 107]
def programL : List Nat := [112, 114, 111, 103, 114, 97, 109]
def deedW : Dd → List (List Nat)
  | .stop => [stopL]
  | .lay c t => [layL, [c], numL t]
  | .look ts => lookL :: ts.map numL
def deedT (n : Dd) : List Nat := TL.joinL [32] (deedW n)
def pageT (sg : List Nat) (ns : List Dd) : List Nat := TL.joinL [10] ((programL ++ [32] ++ sg) :: ns.map deedT)
def DdSz : Dd → Prop
  | .stop => True
  | .lay _ t => t ≤ 1000
  | .look ts => ts.length ≤ 30 ∧ ∀ t ∈ ts, t ≤ 1000
theorem dd_sz {sg : List Nat} {m : Nat} {n : Dd} (h : ddOk sg m n) (hs : sg.length ≤ 26) (hm : m ≤ 1000) : DdSz n := by
  cases n with
  | stop => trivial
  | lay c t => exact Nat.le_of_lt (Nat.lt_of_lt_of_le h.2 hm)
  | look ts => exact ⟨by have := h.1; omega, fun t ht => by have := h.2 t ht; omega⟩
theorem nums_sum {ts : List Nat} (h : ∀ t ∈ ts, t ≤ 1000) : sumL (ts.map numL) ≤ 5 * ts.length := by
  induction ts with
  | nil => exact Nat.zero_le _
  | cons t ts ih =>
    have h1 := ih fun x hx => h x (List.mem_cons_of_mem _ hx)
    have h2 : (numL t).length ≤ 4 := TL.numL_len (by decide) (by have := h t List.mem_cons_self; omega)
    show ((numL t).length + 1) + sumL (ts.map numL) ≤ _
    rw [List.length_cons]
    omega
theorem deedW_sum {n : Dd} (h : DdSz n) : sumL (deedW n) ≤ 160 := by
  cases n with
  | stop => decide
  | lay c t =>
    have h2 : (numL t).length ≤ 4 := TL.numL_len (by decide) (by have : t ≤ 1000 := h; omega)
    show (3 + 1) + ((1 + 1) + (((numL t).length + 1) + 0)) ≤ _
    omega
  | look ts =>
    have h1 := nums_sum h.2
    have h3 := h.1
    show (4 + 1) + sumL (ts.map numL) ≤ _
    omega
theorem deedT_len {n : Dd} (h : DdSz n) : (deedT n).length ≤ 160 := Nat.le_trans (joinL_le 32 _) (deedW_sum h)
def spDeedLine (K : PySem.W.Frag) : Sp := fun vs H Q _ => ∃ (v : V) (n : Dd), vs = [v] ∧ DdAt K H v n ∧ DdSz n ∧ ∀ H', Same H H' → Q (.str (S (deedT n))) H'
def spStr (K : PySem.W.Frag) (C : Addr) : Sp := fun vs H Q _ => ∃ (r na : Addr) (sg : List Nat) (ns : List Dd), vs = [.ref r] ∧ PgAt H C r sg na ∧ DeedsAt K H na ns ∧ (∀ n ∈ ns, DdSz n) ∧ ns.length ≤ 1000 ∧ sumL (ns.map deedT) ≤ 50000 ∧ sg.length ≤ 100 ∧
  ∀ H', Same H H' → Q (.str (S (pageT sg ns))) H'
section
variable {P : Program} {w : World} {K : PySem.W.Frag} {mg : Str → Option Value} {base : Heap} {C CT : Addr}
theorem ok_deed_line {f : Addr} {fd : FuncData} (F : Fun K "deed_line" "deed_line" s_deed_line f fd) (B : Blt mg) : FnOk P w K mg base CX0 1 f fd ["deed"] (spDeedLine K) := by
  refine F.ok sc_deed_line (fun vs H Q E h => ?_) (fun cdv A outer s H vs Q E hr h => ?_)
  · obtain ⟨_, _, rfl, _⟩ := h
    rfl
  · obtain ⟨v, n, rfl, hp, hsz, q⟩ := h
    refine ⟨_, (pss_cons (ps_if (pt_cmpR op_eq (pe_ix ix_tup (pv 0) pe_int (fun _ _ => rfl)) pe_str (nomark _)) (pss_one (ps_ret (pe_joined (.cons pe_str (.cons (pe_fmt (pe_ix ix_tup (pv 0) pe_int (fun _ _ => rfl))) (.cons pe_str (.cons (pe_fmt (pe_ix ix_tup (pv 0) pe_int (fun _ _ => rfl))) .nil))))))) pss_nil)
      (pss_cons (ps_if (pt_cmpR op_eq (pe_ix ix_tup (pv 0) pe_int (fun _ _ => rfl)) pe_str (nomark _)) (pss_cons (ps_setLc (i := 1) (own := [("place", 2)]) (g := gName 2) (tt := tYes) rfl sc_deed_line.nd rfl rfl (sw_true rfl rfl rfl (by decide +kernel)) (pi_tup (pe_ix ix_tup (pv 0) pe_int (fun _ _ => rfl))) (blkOk_by (own := [("place", 2)]) (N := ["deed", "words", "place"]) (sc := defScope s_deed_line) (by decide +kernel)) (fun _ _ _ _ _ => pg_name (i := 2) sc_deed_line.nd rfl (Or.inl rfl)) (fun _ _ _ _ _ => pts_nil) (fun _ _ _ _ _ => (pe_callTy call_str_int (by rfl) B.str (by decide +kernel) (pa_cons (pv 2) pa_nil))))
        (pss_one (ps_ret (pe_join pe_str (Mq.pe_ls (pa_cons pe_str (StX.pa_star (pv 1) pa_nil))))))) pss_nil)
      (pss_one (ps_ret pe_str)))), ?_⟩
    cases n with
    | stop =>
      obtain ⟨p, rfl, hp⟩ := hp
      refine ⟨_, rfl, p, _, 0, _, rfl, rfl, hp, atI_nat (j := 0) rfl, rfl, _, rfl, ifF (by decide +kernel) ?_⟩
      refine ⟨_, rfl, p, _, 0, _, rfl, rfl, hp, atI_nat (j := 0) rfl, rfl, _, rfl, ifF (by decide +kernel) ?_⟩
      exact q H (Same.refl H)
    | lay c t =>
      obtain ⟨p, rfl, hp⟩ := hp
      refine ⟨_, rfl, p, _, 0, _, rfl, rfl, hp, atI_nat (j := 0) rfl, rfl, _, rfl, ifT (by decide +kernel) ?_⟩
      have ht : t ≤ 1000 := hsz
      have h2 : (numL t).length ≤ 4 := TL.numL_len (by decide) (by omega)
      have l0 : (Str.empty ++ ("lay " : Str)).length ≤ 4 := by decide
      have l1 := app_le l0 (S_le (l := [c]) (n := 1) (Nat.le_refl _))
      have l2 := app_le l1 (show (" " : Str).length ≤ 1 by decide)
      have l3 := app_le l2 (S_le h2)
      have e : Str.empty ++ ("lay " : Str) ++ S [c] ++ (" " : Str) ++ S (numL t) = S (deedT (.lay c t)) := by
        rw [show Str.empty ++ ("lay " : Str) = S (layL ++ [32]) by decide +kernel, show (" " : Str) = S [32] by decide +kernel, SX.S_cat, SX.S_cat, SX.S_cat]
        refine congrArg S ?_
        show (layL ++ [32]) ++ [c] ++ [32] ++ numL t = layL ++ ([32] ++ ([c] ++ ([32] ++ numL t)))
        simp only [List.append_assoc]
      refine ⟨_, rfl, sz_le (Nat.le_trans l0 (by decide)), _, rfl, p, _, 1, _, rfl, rfl, hp, atI_nat (j := 1) rfl, Or.inl ⟨S [c], rfl, sz_le (by rw [SX.S_len]; show 1 ≤ _; decide), S [c], rfl, sz_le (Nat.le_trans l1 (by decide)), ?_⟩⟩
      refine ⟨_, rfl, sz_le (Nat.le_trans l2 (by decide)), _, rfl, p, _, 2, _, rfl, rfl, hp, atI_nat (j := 2) rfl, Or.inr ⟨_, rfl, log_small ht, _, rfl, ?_⟩⟩
      rw [SX.num_S]
      refine ⟨sz_le (Nat.le_trans l3 (by decide)), ?_⟩
      show Q (.str (Str.empty ++ ("lay " : Str) ++ S [c] ++ (" " : Str) ++ S (numL t))) H
      rw [e]
      exact q H (Same.refl H)
    | look ts =>
      obtain ⟨p, p2, rfl, hp, z2⟩ := hp
      obtain ⟨hl, ht⟩ := hsz
      have hil : (intsV ts).length = ts.length := intsV_len ts
      refine ⟨_, rfl, p, _, 0, _, rfl, rfl, hp, atI_nat (j := 0) rfl, rfl, _, rfl, ifF (by decide +kernel) ?_⟩
      refine ⟨_, rfl, p, _, 0, _, rfl, rfl, hp, atI_nat (j := 0) rfl, rfl, _, rfl, ifT (by decide +kernel) ?_⟩
      refine ⟨_, rfl, p, _, 1, _, rfl, rfl, hp, atI_nat (j := 1) rfl, p2, rfl, ⟨_, z2⟩, fun D hD => ?_⟩
      refine lc_yes (walk_tup (K := K) (a := p2) (xs := intsV ts)) (fun i H' => Same H H' ∧ H' D = some (.lst (txs ((ts.take i).map numL)))) ⟨same_new hD, upd_same⟩ (fun _ _ _ pp => Same.tup pp.1 z2) ?_ ?_
      · rintro j x H3 H4 hj ⟨s3, zD⟩ ⟨rfl, hx⟩
        rw [hil] at hj
        have hx' : (intsV ts)[j]? = some x := hx
        unfold intsV at hx'
        rw [List.getElem?_map, List.getElem?_eq_getElem hj] at hx'
        cases hx'
        refine ⟨rfl, _, rfl, _, rfl, log_small (ht _ (List.getElem_mem hj)), _, zD, sz_lt (by rw [List.length_map, List.length_map, List.length_take]; omega), push_same hD s3, ?_⟩
        rw [upd_same, List.take_add_one, List.getElem?_eq_getElem hj, List.map_append, SX.num_S]
        exact congrArg (fun z => some (HO.lst z)) (List.map_append (f := fun l : List Nat => V.str (S l)) (l₁ := (ts.take j).map numL) (l₂ := [numL ts[j]])).symm
      · rintro H3 ⟨s3, zD⟩
        rw [hil, List.take_length] at zD
        refine ⟨⟨_, rfl⟩, _, rfl, D, _, rfl, Or.inr (SqL.of zD), ?_, fun p3 hp3 _ => ?_⟩
        · rw [List.append_nil, List.length_cons, List.length_map, List.length_map]
          exact sz_le (by omega)
        · rw [List.append_nil]
          have s4 := same_new (o := HO.lst (V.str "look" :: txs (ts.map numL))) hp3
          refine ⟨S [32], p3, (deedW (.look ts)).map S, rfl, rfl, Or.inl (SqL.of (upd_same.trans ?_)), ?_, ?_⟩
          · rw [map_SV]
            rfl
          · rw [join_bound]
            exact Nat.le_trans (deedW_sum (n := .look ts) ⟨hl, ht⟩) (by decide)
          · rw [SX.join_S]
            exact q _ (s3.trans s4)
end
end Lw

namespace Lw
open PySem PySem.Spec PyProof.Rows L2 Mq
open SX (S)
open TL (numL)
section
variable {P : Program} {w : World} {K : PySem.W.Frag} {mg : Str → Option Value} {base : Heap} {C CT : Addr}
theorem ok_str {f fN : Addr} {fd fdN : FuncData} (F : Fun K "__str__" "Program.__str__" s_Program___str__ f fd) (R : PgC K C)
    (FN : Fun K "deed_line" "deed_line" s_deed_line fN fdN) (gN : mg "deed_line" = some (.ref fN)) (bN : Binds K fdN ["deed"] []) (GN : FnOk P w K mg base CX0 1 fN fdN ["deed"] (spDeedLine K)) :
    FnOk P w K mg base CX0 2 f fd ["self"] (spStr K C) := by
  refine F.ok sc_Program___str__ (fun vs H Q E h => ?_) (fun cdv A outer s H vs Q E hr h => ?_)
  · obtain ⟨_, _, _, _, rfl, _⟩ := h
    rfl
  · obtain ⟨r, na, sg, ns, rfl, ⟨dx, h1⟩, ⟨xs, hz, hall⟩, hsz, hfew, hsum, hsg, q⟩ := h
    refine ⟨_, (pss_cons (ps_setLc (i := 1) (own := [("deed", 2)]) (g := gName 2) (tt := tYes) rfl sc_Program___str__.nd rfl rfl (sw_true rfl rfl rfl (by decide +kernel)) (pi_tup (pe_fld (pv 0) rfl)) (blkOk_by (own := [("deed", 2)]) (N := ["self", "lines", "deed"]) (sc := defScope s_Program___str__) (by decide +kernel)) (fun _ _ _ _ _ => pg_name (i := 2) sc_Program___str__.nd rfl (Or.inl rfl)) (fun _ _ _ _ _ => pts_nil) (fun _ _ _ _ _ => (pe_call GN (hr.mono (by decide)) (by rfl) gN FN.kp bN .nil pass0 (pa_cons (pv 2) pa_nil))))
      (pss_one (ps_ret (pe_join pe_str (Mq.pe_ls (pa_cons (pe_joined (.cons pe_str (.cons (pe_fmt (pe_fld (pv 0) rfl)) .nil))) (StX.pa_star (pv 1) pa_nil))))))), ?_⟩
    have hxl : xs.length = ns.length := hall.len
    refine ⟨_, rfl, r, C, dx, _, _, rfl, h1, R.cls, R.nN, rfl, na, rfl, ⟨_, hz⟩, fun D hD => ?_⟩
    refine lc_yes (walk_tup (a := na) (xs := xs)) (fun i H' => Same H H' ∧ H' D = some (.lst (txs ((ns.take i).map deedT)))) ⟨same_new hD, upd_same⟩ (fun i H' hi p => Same.tup p.1 hz) ?_ ?_
    · rintro i x H2 H3 hi ⟨s2, zD⟩ ⟨rfl, hx⟩
      obtain ⟨n, hn, hat⟩ := hall.at hx
      refine ⟨rfl, _, rfl, x, n, rfl, hat.same s2, hsz n (List.mem_of_getElem? hn), fun H4 s4 => ?_⟩
      refine ⟨_, s4 _ _ zD, sz_lt (by rw [List.length_map, List.length_map, List.length_take]; omega), push_same hD (s2.trans s4), ?_⟩
      rw [upd_same, List.take_add_one, hn, List.map_append]
      exact congrArg (fun z => some (HO.lst z)) (List.map_append (f := fun l : List Nat => V.str (S l)) (l₁ := (ns.take i).map deedT) (l₂ := [deedT n])).symm
    · rintro H2 ⟨s2, zD⟩
      rw [hxl, List.take_length] at zD
      have l0 : (Str.empty ++ ("program " : Str)).length ≤ 8 := by decide
      have l1 := app_le l0 (S_le hsg)
      have e : Str.empty ++ ("program " : Str) ++ S sg = S (programL ++ [32] ++ sg) := by
        rw [show Str.empty ++ ("program " : Str) = S (programL ++ [32]) by decide +kernel, SX.S_cat]
      refine ⟨⟨_, rfl⟩, _, rfl, sz_le (Nat.le_trans l0 (by decide)), _, rfl, r, C, dx, _, _, rfl, s2 _ _ h1, R.cls, R.nL, rfl, Or.inl ⟨S sg, rfl, sz_le (Nat.le_trans (S_le hsg) (by decide)), S sg, rfl, sz_le (Nat.le_trans l1 (by decide)), ?_⟩⟩
      rw [show ∀ acc σ H Q, tJs [] acc σ H Q = Q acc H from fun _ _ _ _ => rfl]
      refine ⟨_, rfl, D, _, rfl, Or.inr (SqL.of zD), ?_, fun p hp _ => ?_⟩
      · rw [List.append_nil, List.length_cons, List.length_map, List.length_map]
        exact sz_le (by omega)
      · rw [List.append_nil, e]
        have s3 := same_new (o := HO.lst (V.str (S (programL ++ [32] ++ sg)) :: txs (ns.map deedT))) hp
        refine ⟨S [10], p, ((programL ++ [32] ++ sg) :: ns.map deedT).map S, rfl, rfl, Or.inl (SqL.of (upd_same.trans ?_)), ?_, ?_⟩
        · rw [map_SV]
          rfl
        · rw [join_bound]
          show ((programL ++ [32] ++ sg).length + 1) + sumL (ns.map deedT) ≤ _
          rw [List.length_append, List.length_append]
          show (7 + 1 + sg.length + 1) + _ ≤ _
          have : (60000 : Nat) ≤ sizeLine := by decide
          omega
        · rw [SX.join_S]
          exact q _ (s2.trans s3)
end
end Lw

namespace Lw
open PySem PySem.Spec PyProof.Rows L2 Mq
open SX (S)
/-! ### a deed read off a line -/
theorem lay_strs : ∀ {ws : List (List Nat)}, LowLs ws → PyData.canLayAll0 (ws.map fun w => PyData.str (S w)) = true ∧ PyData.depthAll (ws.map fun w => PyData.str (S w)) ≤ 1
  | [], _ => by simp [PyData.canLayAll0, PyData.depthAll]
  | w :: ws, h => by
    have i := lay_strs (ws := ws) fun u hu => h u (List.mem_cons_of_mem _ hu)
    have j : (PyData.str (S w)).canLay0 = true := lay_txt (h w List.mem_cons_self)
    simp only [List.map_cons, PyData.canLayAll0, PyData.depthAll, PyData.depth, i.1, j, Bool.and_self, true_and]
    omega
theorem dp_txs {K : PySem.W.Frag} {H : Hp} : ∀ ws : List (List Nat), DpAll K H (txs ws) (ws.map fun w => PyData.str (S w))
  | [] => .nil
  | w :: ws => .cons (.str _) (dp_txs ws)
theorem map_S_inj {a b : List (List Nat)} : decide (a.map S = b.map S) = decide (a = b) := decide_eq_decide.mpr ⟨fun h => by
  have := congrArg (List.map fun x : Str => x.cps.toList) h
  rw [List.map_map, List.map_map] at this
  have e : ∀ xs : List (List Nat), xs.map ((fun x : Str => x.cps.toList) ∘ S) = xs := fun xs => List.map_id _
  rw [e, e] at this
  exact this, fun h => by rw [h]⟩
theorem shaped_txs {ws : List (List Nat)} (h : LowLs ws) : SeqAt.shaped (.list (ws.map fun w => PyData.str (S w))) = true := by
  have h := lay_strs h
  show (PyData.canLay0 (.list (ws.map fun w => PyData.str (S w))) && decide (PyData.depth (.list (ws.map fun w => PyData.str (S w))) ≤ 64)) = true
  rw [Bool.and_eq_true]
  exact ⟨by simp only [PyData.canLay0]; exact h.1, decide_eq_true (by simp only [PyData.depth]; omega)⟩
theorem eqv_txs (xs ys : List (List Nat)) : PyData.eqv (.list (xs.map fun w => PyData.str (S w))) (.list (ys.map fun w => PyData.str (S w))) = decide (xs = ys) := by
  have h := eqv_strs (xs.map S) (ys.map S)
  rw [List.map_map, List.map_map, map_S_inj] at h
  exact h
def layM (sg : List Nat) (m : Nat) (w1 w2 : List Nat) : Option Dd :=
  match rdNs m [w2] with
  | none => none
  | some ts => if letB sg w1 = true then some (.lay (w1.headD 0) (ts.headD 0)) else none
def lookM (sg : List Nat) (m : Nat) (w0 : List Nat) (rest : List (List Nat)) : Option Dd :=
  match rdNs m rest with
  | none => none
  | some ts => if (decide (w0 = lookL) && decide (ts.length = sg.length + 1)) = true then some (.look ts) else none
def wordsM (sg : List Nat) (m : Nat) : List (List Nat) → Option Dd
  | w0 :: rest => if (decide (w0 = layL) && decide (rest.length = 2)) = true then layM sg m (rest.getD 0 []) (rest.getD 1 []) else lookM sg m w0 rest
  | [] => none
def deedM (sg : List Nat) (m : Nat) (line : List Nat) : Option Dd := if decide (spl 32 line = [stopL]) = true then some .stop else wordsM sg m (spl 32 line)
def DeedR (K : PySem.W.Frag) (H : Hp) : Option Dd → V → Prop
  | none, v => v = .non
  | some n, v => DdAt K H v n
theorem DeedR.same {K : PySem.W.Frag} {H H' : Hp} {o : Option Dd} {v : V} (h : DeedR K H o v) (e : Same H H') : DeedR K H' o v := by
  cases o with
  | none => exact h
  | some n => exact DdAt.same h e
theorem ints_dg {K : PySem.W.Frag} {H : Hp} : ∀ ts : List Nat, DgAll K H (intsV ts) (ts.map fun t => .int (t : Nat))
  | [] => .nil
  | t :: ts => .cons (.int _) (ints_dg ts)
theorem int_weight {t : Nat} (h : t < 4096) : (PyData.int ((t : Nat) : Int)).weight ≤ 12 := by
  show (if (((t : Nat) : Int) == 0) = true then 0 else ((t : Nat) : Int).natAbs.log2 + 1) ≤ 12
  split
  · exact Nat.zero_le _
  · rename_i h0
    have e : ((t : Nat) : Int).natAbs = t := Int.natAbs_natCast t
    rw [e]
    have ht : t ≠ 0 := by
      rintro rfl
      exact h0 rfl
    have := (Nat.log2_lt ht (k := 12)).mpr h
    omega
theorem ints_weight : ∀ {ts : List Nat}, (∀ t ∈ ts, t < 4096) → PyData.weightAll (ts.map fun t => .int ((t : Nat) : Int)) ≤ 13 * ts.length
  | [], _ => Nat.zero_le _
  | t :: ts, h => by
    have h1 := ints_weight fun x hx => h x (List.mem_cons_of_mem _ hx)
    have h2 := int_weight (h t List.mem_cons_self)
    show (PyData.int ((t : Nat) : Int)).weight + 1 + PyData.weightAll (ts.map fun t => .int ((t : Nat) : Int)) ≤ _
    rw [List.length_cons]
    omega
theorem S_decS (a b : List Nat) : decide (S a = S b) = decide (a = b) := decide_eq_decide.mpr ⟨fun h => SX.S_inj h, fun h => by rw [h]⟩
theorem stop_is : ("stop" : Str) = S stopL := by decide +kernel
theorem lay_is : ("lay" : Str) = S layL := by decide +kernel
theorem look_is : ("look" : Str) = S lookL := by decide +kernel
theorem allBelow_ints {m : Nat} {ts : List Nat} (h : ∀ t ∈ ts, t < m) : allBelow m (ts.map fun t => .int ((t : Nat) : Int)) = true := by
  unfold allBelow
  rw [List.all_map, List.all_eq_true]
  intro k hk
  have hk' := List.mem_range.mp hk
  rw [List.length_map] at hk'
  have e : (ts.map fun t => PyData.int ((t : Nat) : Int)).getD k .none = .int ((ts[k] : Nat) : Int) := by
    rw [List.getD_eq_getElem?_getD, List.getElem?_map, List.getElem?_eq_getElem hk']
    rfl
  show belowD m ((ts.map fun t => PyData.int ((t : Nat) : Int)).getD k .none) = true
  rw [e]
  have := h _ (List.getElem_mem hk')
  show (decide ((0 : Int) ≤ ((ts[k] : Nat) : Int)) && decide (((ts[k] : Nat) : Int) < (m : Int))) = true
  rw [decide_eq_true (by omega), decide_eq_true (by omega)]
  rfl
theorem deed_stop (sg : List Nat) (m : Nat) : deedD sg m (.tuple [.str "stop"]) = true := by
  show deedB sg m [.str "stop"] = true
  unfold deedB
  dsimp only [headD]
  rw [lay_is, look_is, stop_is, S_decS, S_decS, decide_eq_false (show stopL ≠ layL by decide), decide_eq_false (show stopL ≠ lookL by decide), if_neg (by decide), if_neg (by decide), decide_eq_true rfl]
  rfl
theorem deed_lay {sg w1 : List Nat} {m t : Nat} (h : t < m) : deedD sg m (.tuple [.str "lay", .str (S w1), .int (t : Nat)]) = letB sg w1 := by
  show deedB sg m [.str "lay", .str (S w1), .int (t : Nat)] = _
  unfold deedB
  dsimp only [headD]
  rw [decide_eq_true rfl, if_pos rfl]
  show (true && (letB sg w1 && (decide ((0 : Int) ≤ ((t : Nat) : Int)) && decide (((t : Nat) : Int) < (m : Int))))) = _
  rw [decide_eq_true (show (0 : Int) ≤ ((t : Nat) : Int) by omega), decide_eq_true (show ((t : Nat) : Int) < (m : Int) by omega), Bool.true_and, Bool.and_self, Bool.and_true]
theorem deed_two {sg w0 : List Nat} {m : Nat} {d : PyData} : deedD sg m (.tuple [.str (S w0), d]) = (decide (w0 = lookL) && placesD (sg.length + 1) m d) := by
  show deedB sg m [.str (S w0), d] = _
  unfold deedB
  dsimp only [headD]
  rw [lay_is, look_is, stop_is, S_decS, S_decS, S_decS]
  by_cases h1 : w0 = layL
  · subst h1
    rw [decide_eq_true rfl, if_pos rfl, decide_eq_false (show layL ≠ lookL by decide)]
    rfl
  · rw [decide_eq_false h1, if_neg (by decide)]
    by_cases h2 : w0 = lookL
    · subst h2
      rw [decide_eq_true rfl, if_pos rfl]
      rfl
    · rw [decide_eq_false h2, if_neg (by decide)]
      show (_ && false) = _
      rw [Bool.and_false]
      rfl
theorem places_ints {n m : Nat} {ts : List Nat} (h : ∀ t ∈ ts, t < m) : placesD n m (.tuple (ts.map fun t => .int ((t : Nat) : Int))) = decide (ts.length = n) := by
  show (decide ((ts.map fun t => PyData.int ((t : Nat) : Int)).length = n) && allBelow m (ts.map fun t => .int ((t : Nat) : Int))) = _
  rw [allBelow_ints h, Bool.and_true, List.length_map]
def tLay (K : PySem.W.Frag) : TT := fun σ H Q => ∃ p w0 rest, σ[3]? = some (some (.ref p)) ∧ H p = some (.lst (txs (w0 :: rest))) ∧ Q (decide (w0 = layL) && decide (rest.length = 2)) H
def spDeedRead (K : PySem.W.Frag) : Sp := fun vs H Q _ => ∃ (sg line : List Nat) (m : Nat), vs = [.str (S sg), .str (S line), .int (m : Nat)] ∧ sg.length ≤ 80000 ∧ line.length ≤ 4000 ∧ LowL line ∧ m ≤ 4001 ∧ ∀ H' v, Same H H' → DeedR K H' (deedM sg m line) v → Q v H'
section
variable {P : Program} {w : World} {K : PySem.W.Frag} {mg : Str → Option Value} {base : Heap}
theorem ok_deed_read {f fM fN : Addr} {fd fdM fdN : FuncData} (F : Fun K "deed_read" "deed_read" s_deed_read f fd) (B : Blt mg)
    (FM : Fun K "numbers_read" "numbers_read" s_numbers_read fM fdM) (gM : mg "numbers_read" = some (.ref fM)) (bM : Binds K fdM ["words", "many"] []) (GM : FnOk P w K mg base CX0 3 fM fdM ["words", "many"] (spNumsRd K))
    (FN : Fun K "is_deed" "is_deed" s_is_deed fN fdN) (gN : mg "is_deed" = some (.ref fN)) (bN : Binds K fdN ["letters", "deed", "many"] []) (GN : FnOk P w K mg base CX0 4 fN fdN ["letters", "deed", "many"] (spDeedA K)) :
    FnOk P w K mg base CX0 5 f fd ["letters", "line", "many"] (spDeedRead K) := by
  refine F.ok sc_deed_read (fun vs H Q E h => ?_) (fun cdv A outer s H vs Q E hr h => ?_)
  · obtain ⟨_, _, _, rfl, _⟩ := h
    rfl
  · obtain ⟨sg, line, m, rfl, hsg, hln, hlow, hm, q⟩ := h
    have hu : (A.deeper (envOfC "deed_read" (defScope s_deed_read) s.heap.objs.size f cdv)).units + 64 < cLine := by
      have := hr.units
      omega
    refine ⟨_, (pss_cons (ps_set (i := 3) sc_deed_read.nd rfl (Or.inl rfl) (pe_split (pv 1) pe_str))
      (pss_cons (ps_if (pt_cmpR (op_eqD hu) (pv 3) (Mq.pe_ls (pa_cons pe_str pa_nil)) (nomark _)) (pss_one (ps_ret (pe_tup (pa_cons pe_str pa_nil)))) pss_nil)
      (pss_cons (ps_if (PT_imp (t' := tLay K) (PW.pt (pw_and (pt_cmpR op_eq (pe_ix ix_list (pv 3) pe_int (fun _ _ => rfl)) pe_str (nomark _)) (pw_and1 (pt_cmpR op_eq (pe_callB call_len_seq (by rfl) B.len (by decide +kernel) (pa_cons (pv 3) pa_nil)) pe_int (nomark _))))) (fun σ H Q h => by
          obtain ⟨p, w0, rest, h3, hp, q⟩ := h
          have h0 : atI (txs (w0 :: rest)) 0 = some (.str (S w0)) := at_line (i := 0) rfl
          have hlen : (txs (w0 :: rest)).length = rest.length + 1 := by rw [List.length_map, List.length_cons]
          refine ⟨_, h3, p, _, 0, _, rfl, rfl, SqL.of hp, h0, rfl, _, rfl, ?_⟩
          rw [show decide (V.str (S w0) = V.str "lay") = decide (w0 = layL) from S_dec w0 layL]
          cases e : decide (w0 = layL) with
          | false =>
            rw [e] at q
            exact ifF rfl q
          | true =>
            rw [e] at q
            refine ifT rfl ⟨_, h3, p, _, rfl, .inl (SqL.of hp), rfl, _, rfl, ?_⟩
            have e3 : decide (V.int ((txs (w0 :: rest)).length : Nat) = V.int 3) = decide (rest.length = 2) := by
              rw [hlen, dec_int]
              exact decide_eq_decide.mpr ⟨fun h => by omega, fun h => by omega⟩
            rw [e3]
            exact q)) (pss_cons (ps_set (i := 4) sc_deed_read.nd rfl (Or.inl rfl) (pe_call GM (hr.mono (by decide)) (by rfl) gM FM.kp bM .nil pass0 (pa_cons (pe_slice sl_list (pv 3) (po_some pe_int) po_none) (pa_cons (pv 2) pa_nil))))
        (pss_one (ps_set (i := 5) sc_deed_read.nd rfl (Or.inl rfl) (pe_ifExp (pt_cmpR op_isN (pv 4) pe_non (nomark _)) pe_non (pe_tup (pa_cons pe_str (pa_cons (pe_ix ix_list (pv 3) pe_int (fun _ _ => rfl)) (pa_cons (pe_ix ix_tup (pv 4) pe_int (fun _ _ => rfl)) pa_nil)))))))) (pss_one (ps_set (i := 5) sc_deed_read.nd rfl (Or.inl rfl) (pe_tup (pa_cons (pe_ix ix_list (pv 3) pe_int (fun _ _ => rfl)) (pa_cons (pe_call GM (hr.mono (by decide)) (by rfl) gM FM.kp bM .nil pass0 (pa_cons (pe_slice sl_list (pv 3) (po_some pe_int) po_none) (pa_cons (pv 2) pa_nil))) pa_nil))))))
      (pss_one (ps_ret (pe_ifExp (pt_val (pe_call GN (hr.mono (by decide)) (by rfl) gN FN.kp bN .nil pass0 (pa_cons (pv 0) (pa_cons (pv 5) (pa_cons (pv 2) pa_nil))))) (pv 5) pe_non)))))), ?_⟩
    have hz : (S line).length = line.length := SX.S_len line
    refine ⟨_, rfl, ⟨_, rfl⟩, S line, S [32], rfl, rfl, rfl, sz_le (by omega), fun p hp => ?_⟩
    rw [spl_S, map_SV]
    have s1 := same_new (o := HO.lst ((spl 32 line).map fun l => V.str (S l))) hp
    have z1 : upd H p (.lst ((spl 32 line).map fun l => V.str (S l))) p = some (.lst (txs (spl 32 line))) := upd_same
    generalize upd H p (.lst ((spl 32 line).map fun l => V.str (S l))) = H1 at s1 z1 ⊢
    have hws : LowLs (spl 32 line) := spl_low hlow
    have hwn : ∀ x ∈ spl 32 line, x.length ≤ 4000 := fun x hx => Nat.le_trans (spl_len hx) hln
    have hwm : (spl 32 line).length ≤ 4001 := Nat.le_trans (spl_many 32 line) (by omega)
    have hw1 : spl 32 line ≠ [] := spl_ne 32 line
    unfold deedM at q
    generalize spl 32 line = ws at z1 hws hwn hwm hw1 q ⊢
    refine ⟨_, rfl, sz_le (n := 1) (by decide), fun p2 hp2 _ => ?_⟩
    have s2 := same_new (o := HO.lst [V.str "stop"]) hp2
    have z2 : upd H1 p2 (.lst [V.str "stop"]) p2 = some (.lst (txs [stopL])) := upd_same
    have z1 := s2 _ _ z1
    have s12 := s1.trans s2
    have hnl : LowLs [stopL] := LowLs.one (show ∀ c ∈ stopL, c < 128 by decide)
    refine ⟨_, _, .lst (SqL.of z1) (dp_txs ws), .lst (SqL.of z2) (dp_txs [stopL]), shaped_txs hws, shaped_txs hnl, _, rfl, ?_⟩
    rw [eqv_txs]
    generalize upd H1 p2 (.lst [V.str "stop"]) = H2 at s12 z1 ⊢
    clear z2 s2 hp2 s1 hnl
    cases e0 : decide (ws = [stopL]) with
    | true =>
      rw [e0, if_pos rfl] at q
      refine ifT rfl ⟨sz_le (n := 1) (by decide), fun p3 hp3 => ?_⟩
      exact q _ _ (s12.trans (same_new hp3)) ⟨p3, rfl, Or.inl (Or.inl upd_same)⟩
    | false =>
      rw [e0, if_neg (by decide)] at q
      refine ifF rfl ?_
      match ws, q with
      | [], q => exact (hw1 rfl).elim
      | w0 :: rest, q =>
        have q : ∀ H' v, Same H H' → DeedR K H' (if (decide (w0 = layL) && decide (rest.length = 2)) = true then layM sg m (rest.getD 0 []) (rest.getD 1 []) else lookM sg m w0 rest) v → Q v H' := q
        have h0 : atI (txs (w0 :: rest)) 0 = some (.str (S w0)) := at_line (i := 0) rfl
        have hw0 : w0.length ≤ 4000 := hwn w0 (by simp)
        have hrl : rest.length ≤ 4000 := by
          rw [List.length_cons] at hwm
          omega
        refine ⟨p, w0, rest, rfl, z1, ?_⟩
        cases e1 : (decide (w0 = layL) && decide (rest.length = 2)) with
        | true =>
          rw [e1, if_pos rfl] at q
          have hl2 : rest.length = 2 := of_decide_eq_true (Bool.and_eq_true_iff.mp e1).2
          clear e1
          match rest, hl2, q with
          | [w1, w2], _, q =>
          have q : ∀ H' v, Same H H' → DeedR K H' (layM sg m w1 w2) v → Q v H' := q
          have h1 : atI (txs [w0, w1, w2]) 1 = some (.str (S w1)) := at_line (i := 1) rfl
          have hwl : w1.length ≤ 4000 := hwn w1 (by simp)
          have hwk : w2.length ≤ 4000 := hwn w2 (by simp)
          refine ifT rfl ⟨_, rfl, 2, rfl, p, _, rfl, SqL.of z1, fun L hL => ?_⟩
          have ec : cutV (txs [w0, w1, w2]) (some 2) none = txs [w2] := cut_from _ 2
          rw [ec]
          have s3 := same_new (o := HO.lst (txs [w2])) hL
          have z3 : upd H2 L (.lst (txs [w2])) L = some (.lst (txs [w2])) := upd_same
          have s13 := s12.trans s3
          have z1 := s3 _ _ z1
          generalize upd H2 L (.lst (txs [w2])) = H3 at z3 z1 s13 ⊢
          refine ⟨_, rfl, L, [w2], m, rfl, SqL.of z3, by show 1 ≤ 90000; decide, (fun w hw => by rw [List.mem_singleton.mp hw]; omega), fun H4 v s4 hv => ?_⟩
          have s14 := s13.trans s4
          have z1 := s4 _ _ z1
          unfold layM at q
          cases e3 : rdNs m [w2] with
          | none =>
            rw [e3] at q hv
            have hv : v = .non := hv
            subst hv
            exact ⟨_, rfl, rfl, _, rfl, ifT rfl ⟨_, rfl, _, rfl, _, rfl, sg, .non, .none, m, rfl, .non, by decide, by omega, fun H5 s5 => ⟨_, rfl, ifF rfl (q H5 _ (s14.trans s5) rfl)⟩⟩⟩
          | some ts =>
            rw [e3] at q hv
            obtain ⟨pn, rfl, hpn⟩ := hv
            obtain ⟨hl, hlt⟩ := rdNs_lt e3
            dsimp only at q
            match ts, hl, hlt, hpn, q with
            | [t], _, hlt, hpn, q =>
            have htm : t < m := hlt t (by simp)
            have hpn : SqT K H4 pn [.int (t : Nat)] := hpn
            refine ⟨_, rfl, rfl, _, rfl, ifF rfl ⟨_, rfl, p, _, 1, _, rfl, rfl, SqL.of z1, h1, _, rfl, pn, _, 0, _, rfl, rfl, hpn, atI_nat (j := 0) rfl, sz_le (n := 3) (by decide), fun p3 hp3 => ?_⟩⟩
            have s5 := same_new (o := HO.tup [.str "lay", .str (S w1), .int (t : Nat)]) hp3
            have z5 : SqT K (upd H4 p3 (.tup [.str "lay", .str (S w1), .int (t : Nat)])) p3 [.str "lay", .str (S w1), .int (t : Nat)] := Or.inl (Or.inl upd_same)
            have s15 := s14.trans s5
            generalize upd H4 p3 (.tup [.str "lay", .str (S w1), .int (t : Nat)]) = H5 at z5 s15 ⊢
            refine ⟨_, rfl, _, rfl, _, rfl, sg, _, .tuple [.str "lay", .str (S w1), .int (t : Nat)], m, rfl, .tup z5 (.cons (.str _) (.cons (.str _) (.cons (.int _) .nil))), ?_, by omega, fun H6 s6 => ⟨_, rfl, ?_⟩⟩
            · have h2 := int_weight (show t < 4096 by omega)
              show 3 + 1 + ((S w1).cps.size + 1 + ((PyData.int ((t : Nat) : Int)).weight + 1 + 0)) ≤ 80000
              have h3 : (S w1).cps.size ≤ 4000 := hwl
              omega
            · rw [deed_lay htm]
              cases e5 : letB sg w1 with
              | true =>
                rw [e5, if_pos rfl] at q
                obtain ⟨c, rfl, hc⟩ := letB_one e5
                exact ifT rfl ⟨_, rfl, q H6 _ (s15.trans s6) ⟨p3, rfl, Same.tup s6 z5⟩⟩
              | false =>
                rw [e5, if_neg (by decide)] at q
                exact ifF rfl (q H6 _ (s15.trans s6) rfl)
        | false =>
          rw [e1, if_neg (by decide)] at q
          unfold lookM at q
          refine ifF rfl ⟨_, rfl, p, _, 0, _, rfl, rfl, SqL.of z1, h0, _, rfl, 1, rfl, p, _, rfl, SqL.of z1, fun L hL => ?_⟩
          have ec : cutV (txs (w0 :: rest)) (some 1) none = txs rest := cut_from _ 1
          rw [ec]
          have s3 := same_new (o := HO.lst (txs rest)) hL
          have z3 : upd H2 L (.lst (txs rest)) L = some (.lst (txs rest)) := upd_same
          have s13 := s12.trans s3
          generalize upd H2 L (.lst (txs rest)) = H3 at z3 s13 ⊢
          refine ⟨_, rfl, L, rest, m, rfl, SqL.of z3, by omega, (fun w hw => Nat.le_trans (hwn w (by simp [hw])) (by decide)), fun H4 v s4 hv => ?_⟩
          have s14 := s13.trans s4
          refine ⟨sz_le (n := 2) (by decide), fun p3 hp3 => ?_⟩
          have s5 := same_new (o := HO.tup [.str (S w0), v]) hp3
          have z5 : SqT K (upd H4 p3 (.tup [.str (S w0), v])) p3 [.str (S w0), v] := Or.inl (Or.inl upd_same)
          have s15 := s14.trans s5
          cases e3 : rdNs m rest with
          | none =>
            rw [e3] at q hv
            have hv : v = .non := hv
            subst hv
            generalize upd H4 p3 (.tup [.str (S w0), .non]) = H5 at z5 s15 ⊢
            refine ⟨_, rfl, _, rfl, _, rfl, sg, _, .tuple [.str (S w0), .none], m, rfl, .tup z5 (.cons (.str _) (.cons .non .nil)), ?_, by omega, fun H6 s6 => ⟨_, rfl, ?_⟩⟩
            · show (S w0).cps.size + 1 + (0 + 1 + 0) ≤ 80000
              have h3 : (S w0).cps.size ≤ 4000 := hw0
              omega
            · rw [deed_two]
              show (if (_ && false) = true then _ else _)
              rw [Bool.and_false]
              exact ifF rfl (q H6 _ (s15.trans s6) rfl)
          | some ts =>
            rw [e3] at q hv
            obtain ⟨pn, rfl, hpn⟩ := hv
            obtain ⟨hl, hlt⟩ := rdNs_lt e3
            dsimp only at q
            have hpn := Same.tup s5 hpn
            generalize upd H4 p3 (.tup [.str (S w0), .ref pn]) = H5 at z5 s15 hpn ⊢
            refine ⟨_, rfl, _, rfl, _, rfl, sg, _, .tuple [.str (S w0), .tuple (ts.map fun t => .int ((t : Nat) : Int))], m, rfl, .tup z5 (.cons (.str _) (.cons (.tup hpn (ints_dg ts)) .nil)), ?_, by omega, fun H6 s6 => ⟨_, rfl, ?_⟩⟩
            · have h1 := ints_weight fun x hx => Nat.lt_of_lt_of_le (hlt x hx) (show m ≤ 4096 by omega)
              show (S w0).cps.size + 1 + (PyData.weightAll (ts.map fun t => .int ((t : Nat) : Int)) + 1 + 0) ≤ 80000
              have h3 : (S w0).cps.size ≤ 4000 := hw0
              omega
            · rw [deed_two, places_ints hlt]
              cases e5 : (decide (w0 = lookL) && decide (ts.length = sg.length + 1)) with
              | true =>
                rw [e5, if_pos rfl] at q
                have ew : w0 = lookL := of_decide_eq_true (Bool.and_eq_true_iff.mp e5).1
                rw [ew] at z5
                exact ifT rfl ⟨_, rfl, q H6 _ (s15.trans s6) ⟨p3, pn, rfl, Same.tup s6 z5, Same.tup s6 hpn⟩⟩
              | false =>
                rw [e5, if_neg (by decide)] at q
                exact ifF rfl (q H6 _ (s15.trans s6) rfl)
end
end Lw

namespace Lw
open PySem PySem.Spec PyProof.Rows L2 Mq
open SX (S)
/-! ### the head of a text -/
def headW (l0 : List Nat) : Option (List Nat) :=
  match spl 32 l0 with
  | [w0, w1] => if (decide (w0 = programL) && lettersB w1) = true then some w1 else none
  | _ => none
def headM (t : List Nat) : Option (List Nat × List (List Nat)) :=
  match spl 10 t with
  | l0 :: ls => match headW l0 with
    | some sg => some (sg, ls)
    | none => none
  | [] => none
theorem letters_alpha {sg : List Nat} (h : lettersB sg = true) : sg ≠ [] ∧ ∀ c ∈ sg, c ∈ alpha := by
  unfold lettersB at h
  obtain ⟨h1, h⟩ := Bool.and_eq_true_iff.mp h
  obtain ⟨_, h3⟩ := Bool.and_eq_true_iff.mp h
  refine ⟨(fun e => by rw [decide_eq_true e] at h1; cases h1), fun c hc => ?_⟩
  obtain ⟨i, hi, rfl⟩ := List.mem_iff_getElem.mp hc
  unfold allB at h3
  rw [List.all_map, List.all_eq_true] at h3
  have h4 := h3 i (List.mem_range.mpr hi)
  have h5 : sg.getD i 0 ∈ alpha := of_decide_eq_true h4
  rw [List.getD_eq_getElem?_getD, List.getElem?_eq_getElem hi] at h5
  exact h5
theorem alpha_low {c : Nat} (h : c ∈ alpha) : 97 ≤ c ∧ c ≤ 122 := by
  have := List.mem_range'.mp h
  omega
def spTextParts (K : PySem.W.Frag) (CT : Addr) : Sp := fun vs H Q E => ∃ v : V, vs = [.str (S programL), v] ∧
  ((NoTx K H v ∧ ∀ H' d, Same H H' → H' d = none → E (.ref CT) (some d) (lineD d 0 H')) ∨ ∃ t : List Nat, v = .str (S t) ∧ t.length ≤ 20000 ∧
    match headM t with
    | none => ∀ H' d, Same H H' → H' d = none → E (.ref CT) (some d) (lineD d 1 H')
    | some (sg, ls) => ∀ H' T L, Same H H' → SqT K H' T [.str (S sg), .ref L] → H' L = some (.lst (ls.map fun l => .str (S l))) → Q (.ref T) H')
theorem head_facts {t sg : List Nat} {ls : List (List Nat)} (h : headM t = some (sg, ls)) : lettersB sg = true ∧ sg.length ≤ t.length ∧ ls.length ≤ t.length ∧ ∀ l ∈ ls, l.length ≤ t.length := by
  unfold headM at h
  have h1 := spl_many 10 t
  have h2 : ∀ x ∈ spl 10 t, x.length ≤ t.length := fun x hx => spl_len hx
  split at h
  · rename_i l0 ls0 e
    rw [e] at h1 h2
    cases hw : headW l0 with
    | none =>
      rw [hw] at h
      cases h
    | some w =>
      rw [hw] at h
      cases h
      unfold headW at hw
      have h3 : ∀ x ∈ spl 32 l0, x.length ≤ l0.length := fun x hx => spl_len hx
      split at hw
      · rename_i w0 w1 e2
        rw [e2] at h3
        split at hw
        · rename_i c
          cases hw
          refine ⟨(Bool.and_eq_true_iff.mp c).2, Nat.le_trans (h3 _ (by simp)) (h2 _ (by simp)), ?_, fun l hl => h2 l (List.mem_cons_of_mem _ hl)⟩
          rw [List.length_cons] at h1
          omega
        · cases hw
      · cases hw
  · cases h
theorem head_low {t sg : List Nat} {ls : List (List Nat)} (h : headM t = some (sg, ls)) (hl : LowL t) : LowLs ls := by
  unfold headM at h
  have h2 : LowLs (spl 10 t) := spl_low hl
  split at h
  · rename_i l0 ls0 e
    rw [e] at h2
    cases hw : headW l0 with
    | none =>
      rw [hw] at h
      cases h
    | some w =>
      rw [hw] at h
      cases h
      exact fun p hp => h2 p (List.mem_cons_of_mem _ hp)
  · cases h
theorem head_spl {t sg : List Nat} {ls : List (List Nat)} (h : headM t = some (sg, ls)) : ∃ l0, spl 10 t = l0 :: ls := by
  unfold headM at h
  split at h
  · rename_i l0 ls0 e
    cases hw : headW l0 with
    | none =>
      rw [hw] at h
      cases h
    | some w =>
      rw [hw] at h
      cases h
      exact ⟨l0, e⟩
  · cases h
section
variable {P : Program} {w : World} {K : PySem.W.Frag} {mg : Str → Option Value} {base : Heap} {CT : Addr}
theorem ok_text_parts {f fL fB : Addr} {fd fdL : FuncData} (F : Fun K "text_parts" "text_parts" s_text_parts f fd) (B : Blt mg)
    (FL : Fun K "is_letters" "is_letters" s_is_letters fL fdL) (gL : mg "is_letters" = some (.ref fL)) (bL : Binds K fdL ["thing"] []) (GL : FnOk P w K mg base CX0 2 fL fdL ["thing"] (spLetters K))
    (T : MqE_line.Txt K mg "BadText" "BadText.__init__" CT fB) :
    FnOk P w K mg base (L2.CX P w) 3 f fd ["word", "text"] (spTextParts K CT) := by
  refine F.okX sc_text_parts (fun vs H Q E h => ?_) (fun cdv A outer s H vs Q E hr h => ?_)
  · obtain ⟨_, rfl, _⟩ := h
    rfl
  · obtain ⟨v, rfl, h⟩ := h
    refine ⟨_, (pss_cons (ps_if (pt_not (pt_val (pe_callB call_isi (by rfl) B.isi (by decide +kernel) (pa_cons (pv 1) (pa_cons (pe_bltn (v := .ty "str") (by rfl) B.str (by decide +kernel) rfl) pa_nil))))) (pss_one (MqE_line.ps_raise rfl T hr (takes_of rfl rfl rfl rfl) (pa_cons pe_int pa_nil))) pss_nil)
      (pss_cons (ps_set (i := 2) sc_text_parts.nd rfl (Or.inl rfl) (pe_split (pv 1) pe_str))
      (pss_cons (ps_set (i := 3) sc_text_parts.nd rfl (Or.inl rfl) (pe_split (pe_ix ix_list (pv 2) pe_int (fun _ _ => rfl)) pe_str))
      (pss_cons (ps_if (PW.pt (pw_or (pt_cmpR op_ne (pe_callB call_len_seq (by rfl) B.len (by decide +kernel) (pa_cons (pv 3) pa_nil)) pe_int (nomark _)) (pw_or (pt_cmpR op_ne (pe_ix ix_list (pv 3) pe_int (fun _ _ => rfl)) (pv 0) (nomark _)) (pw_or1 (pt_not (pt_val (pe_call GL (hr.mono (by decide)) (by rfl) gL FL.kp bL .nil pass0 (pa_cons (pe_ix ix_list (pv 3) pe_int (fun _ _ => rfl)) pa_nil)))))))) (pss_one (MqE_line.ps_raise rfl T hr (takes_of rfl rfl rfl rfl) (pa_cons pe_int pa_nil))) pss_nil)
      (pss_one (ps_ret (pe_tup (pa_cons (pe_ix ix_list (pv 3) pe_int (fun _ _ => rfl)) (pa_cons (pe_slice sl_list (pv 2) (po_some pe_int) po_none) pa_nil))))))))), ?_⟩
    rcases h with ⟨⟨c, ty, kt⟩, q⟩ | ⟨t, rfl, ht, q⟩
    · exact ⟨_, rfl, _, .ty "str", _, _, false, rfl, .ty _, ty, kt, false, rfl, ifT rfl ⟨_, rfl, fun d hd => q H d (Same.refl H) hd⟩⟩
    refine ⟨_, rfl, _, .ty "str", _, _, true, rfl, .ty _, .base (.str _), kit_self, true, rfl, ifF rfl ?_⟩
    have hz : (S t).length = t.length := SX.S_len t
    refine ⟨_, rfl, ⟨_, rfl⟩, S t, S [10], rfl, rfl, rfl, sz_le (by omega), fun p hp => ?_⟩
    rw [spl_S, map_SV]
    have s1 := same_new (o := HO.lst ((spl 10 t).map fun l => V.str (S l))) hp
    have z1 : upd H p (.lst ((spl 10 t).map fun l => V.str (S l))) p = some (.lst ((spl 10 t).map fun l => V.str (S l))) := upd_same
    generalize upd H p (.lst ((spl 10 t).map fun l => V.str (S l))) = H1 at s1 z1 ⊢
    have hn : ∀ x ∈ spl 10 t, x.length ≤ 20000 := fun x hx => Nat.le_trans (spl_len hx) ht
    have hne := spl_ne 10 t
    have hm : (spl 10 t).length ≤ 20001 := Nat.le_trans (spl_many 10 t) (by omega)
    unfold headM at q
    generalize spl 10 t = lines at z1 hn hne hm q ⊢
    match lines, hne, q with
    | l0 :: ls, _, q =>
      have hl0 := hn l0 List.mem_cons_self
      have hz0 : (S l0).length = l0.length := SX.S_len l0
      refine ⟨_, rfl, p, _, 0, _, rfl, rfl, SqL.of z1, at_line (i := 0) rfl, ⟨_, rfl⟩, S l0, S [32], rfl, rfl, rfl, sz_le (by omega), fun p2 hp2 => ?_⟩
      rw [spl_S, map_SV]
      have s2 := same_new (o := HO.lst ((spl 32 l0).map fun l => V.str (S l))) hp2
      have z2 : upd H1 p2 (.lst ((spl 32 l0).map fun l => V.str (S l))) p2 = some (.lst ((spl 32 l0).map fun l => V.str (S l))) := upd_same
      have z12 := s2 _ _ z1
      have s12 := s1.trans s2
      generalize upd H1 p2 (.lst ((spl 32 l0).map fun l => V.str (S l))) = H2 at s12 z2 z12 ⊢
      have hn2 : ∀ x ∈ spl 32 l0, x.length ≤ 20000 := fun x hx => Nat.le_trans (spl_len hx) hl0
      refine ⟨_, rfl, p2, _, rfl, .inl (SqL.of z2), rfl, _, rfl, ?_⟩
      dsimp only at q
      unfold headW at q
      generalize spl 32 l0 = ws at z2 hn2 q ⊢
      have bad : ∀ ws : List (List Nat), ws.length ≠ 2 → (match ws with
        | [w0, w1] => if (decide (w0 = programL) && lettersB w1) = true then some w1 else none
        | _ => none) = none := by
        intro ws h
        match ws, h with
        | [], _ => rfl
        | [_], _ => rfl
        | [_, _], h => exact (h rfl).elim
        | _ :: _ :: _ :: _, _ => rfl
      by_cases h2 : ws.length ≠ 2
      · rw [bad ws h2] at q
        exact ifT (int_ne (m := 2) (by rw [List.length_map]; exact h2)) ⟨_, rfl, fun d hd => q H2 d s12 hd⟩
      clear bad
      match ws, h2, q with
      | [], h2, _ => exact (h2 (by decide)).elim
      | [_], h2, _ => exact (h2 (by show 1 ≠ 2; decide)).elim
      | a :: b :: c :: r, h2, _ => exact (h2 (by simp only [List.length_cons]; omega)).elim
      | [w0, w1], h2, q =>
        have h0 : atI ([w0, w1].map fun l => V.str (S l)) 0 = some (.str (S w0)) := atI_nat (j := 0) rfl
        have h1 : atI ([w0, w1].map fun l => V.str (S l)) 1 = some (.str (S w1)) := atI_nat (j := 1) rfl
        have n1 := hn2 w1 (by simp)
        dsimp only at q
        refine ifF rfl ⟨_, rfl, p2, _, 0, _, rfl, rfl, SqL.of z2, h0, _, rfl, rfl, _, rfl, ?_⟩
        rw [S_dec w0 programL]
        cases c0 : decide (w0 = programL) with
        | false =>
          rw [c0] at q
          exact ifT rfl (ifT rfl ⟨_, rfl, fun d hd => q H2 d s12 hd⟩)
        | true =>
          rw [c0] at q
          refine ifF rfl ⟨_, rfl, p2, _, 1, _, rfl, rfl, SqL.of z2, h1, _, rfl, Or.inl ⟨w1, rfl, by omega, fun H3 s3 => ⟨_, rfl, ?_⟩⟩⟩
          have s13 := s12.trans s3
          cases c1 : lettersB w1 with
          | false =>
            rw [c1] at q
            exact ifT rfl ⟨_, rfl, fun d hd => q H3 d s13 hd⟩
          | true =>
            rw [c1] at q
            refine ifF rfl ⟨_, rfl, p2, _, 1, _, rfl, rfl, SqL.of (s3 _ _ z2), h1, _, rfl, _, rfl, p, _, rfl, SqL.of (s3 _ _ z12), fun L hL => ?_⟩
            have e : cutV ((l0 :: ls).map fun l => V.str (S l)) (some 1) none = ls.map fun l => V.str (S l) := cut_tail _ _
            rw [e]
            refine ⟨sz_le (n := 2) (by decide), fun p3 hp3 => ?_⟩
            have s4 := same_new (o := HO.lst (ls.map fun l => V.str (S l))) hL
            have s5 := same_new (o := HO.tup [V.str (S w1), V.ref L]) hp3
            exact q _ p3 L ((s13.trans s4).trans s5) (Or.inl (Or.inl upd_same)) (s5 _ _ upd_same)
end
end Lw

namespace Lw
open PySem PySem.Spec PyProof.Rows L2 Mq
open SX (S)
/-! ### nodes read off a text -/
def firstN : List (Option Dd) → Nat → Option Nat
  | [], _ => none
  | none :: _, k => some k
  | some _ :: r, k => firstN r (k + 1)
def linesM (sg : List Nat) (ls : List (List Nat)) : List (Option Dd) := ls.mapIdx fun i l => if decide (i = 999) = true then none else deedM sg ls.length l
def pageM (t : List Nat) : (List Nat × List Dd) ⊕ Nat :=
  match headM t with
  | none => .inr 1
  | some (sg, ls) => if ls.isEmpty = true then .inr 2 else match firstN (linesM sg ls) 0 with
    | some k => .inr (k + 2)
    | none => .inl (sg, (linesM sg ls).filterMap id)
def contN (o : Option Dd) (i : Nat) (x : Option Nat) : Option Nat :=
  match o with
  | none => some i
  | some _ => x
theorem firstN_step {ms : List (Option Dd)} {i : Nat} {o : Option Dd} (h : ms[i]? = some o) : firstN (ms.drop i) i = contN o i (firstN (ms.drop (i + 1)) (i + 1)) := by
  have hi : i < ms.length := by
    rcases Nat.lt_or_ge i ms.length with h2 | h2
    · exact h2
    · rw [List.getElem?_eq_none h2] at h
      cases h
  have e : ms[i] = o := by
    rw [List.getElem?_eq_getElem hi] at h
    exact Option.some.inj h
  rw [List.drop_eq_getElem_cons hi, e]
  cases o <;> rfl
theorem DdAt.ref {K : PySem.W.Frag} {H : Hp} {v : V} {n : Dd} (h : DdAt K H v n) : ∃ a, v = .ref a := by
  cases n with
  | stop => obtain ⟨a, x, _⟩ := h; exact ⟨a, x⟩
  | lay c t => obtain ⟨a, x, _⟩ := h; exact ⟨a, x⟩
  | look ts => obtain ⟨a, b, x, _⟩ := h; exact ⟨a, x⟩
theorem DdAll.app1 {K : PySem.W.Frag} {H : Hp} {v : V} {n : Dd} {vs : List V} {ns : List Dd} (h : DdAll K H vs ns) (k : DdAt K H v n) : DdAll K H (vs ++ [v]) (ns ++ [n]) := DdAll.snoc k h
def tNode (K : PySem.W.Frag) (fO : Addr) : TE := fun σ H Q => ∃ (L L1 : Addr) (vs : List V) (ls : List (List Nat)) (sg l : List Nat), σ[6]? = some (some (.ref L)) ∧ H L = some (.lst vs) ∧ σ[3]? = some (some (.int 999)) ∧ σ[2]? = some (some (.ref fO)) ∧ σ[4]? = some (some (.str (S sg))) ∧ σ[7]? = some (some (.str (S l))) ∧ σ[5]? = some (some (.ref L1)) ∧ H L1 = some (.lst (txs ls)) ∧
  sg.length ≤ 80000 ∧ l.length ≤ 4000 ∧ LowL l ∧ ls.length ≤ 4001 ∧ ∀ H' v, Same H H' → DeedR K H' (if decide (vs.length = 999) = true then none else deedM sg ls.length l) v → Q v H'
def spNodesRd (K : PySem.W.Frag) (CT fn : Addr) : Sp := fun vs H Q E => ∃ v : V, vs = [.str (S programL), v, .ref fn, .int 999] ∧
  ((NoTx K H v ∧ ∀ H' d, Same H H' → H' d = none → E (.ref CT) (some d) (lineD d 0 H')) ∨ ∃ t : List Nat, v = .str (S t) ∧ t.length ≤ 12000 ∧ LowL t ∧ (∀ l ∈ spl 10 t, l.length ≤ 4000) ∧ (spl 10 t).length ≤ 4002 ∧
    match pageM t with
    | .inr k => ∀ H' d, Same H H' → H' d = none → E (.ref CT) (some d) (lineD d k H')
    | .inl (sg, ns) => ∀ H' T p, Same H H' → SqT K H' T [.str (S sg), .ref p] → DeedsAt K H' p ns → Q (.ref T) H')
section
variable {P : Program} {w : World} {K : PySem.W.Frag} {mg : Str → Option Value} {base : Heap} {C CT : Addr}
theorem ok_nodes_read {f fT fO fE : Addr} {fd fdT fdO : FuncData} (F : FunD K "nodes_read" "nodes_read" (defArgs s_nodes_read) (defBody s_nodes_read) (defScope s_nodes_read) [.non] [] f fd) (B : Blt mg)
    (FT : Fun K "text_parts" "text_parts" s_text_parts fT fdT) (gT : mg "text_parts" = some (.ref fT)) (bT : Binds K fdT ["word", "text"] []) (GT : FnOk P w K mg base (L2.CX P w) 3 fT fdT ["word", "text"] (spTextParts K CT))
    (FO : Fun K "deed_read" "deed_read" s_deed_read fO fdO) (bO : Binds K fdO ["letters", "line", "many"] []) (GO : FnOk P w K mg base CX0 5 fO fdO ["letters", "line", "many"] (spDeedRead K))
    (T : MqE_line.Txt K mg "BadText" "BadText.__init__" CT fE) :
    FnOk P w K mg base (L2.CX P w) 6 f fd ["word", "text", "node_of", "most"] (spNodesRd K CT fO) := by
  refine F.ok sc_nodes_read (fun vs H Q E h => ?_) (fun cdv A outer s H vs Q E hr h => ?_)
  · obtain ⟨_, rfl, _⟩ := h
    rfl
  · obtain ⟨v, rfl, h⟩ := h
    refine ⟨_, (pss_cons (ps_asg (pe_call GT (hr.mono (by decide)) (by rfl) gT FT.kp bT .nil (passes_call (takes_of rfl rfl rfl rfl) (fun _ _ _ _ z => z)) (pa_cons (pv 0) (pa_cons (pv 1) pa_nil))) (pg_tup rfl (pgs_cons (pg_name (i := 4) sc_nodes_read.nd rfl (Or.inl rfl)) (pgs_cons (pg_name (i := 5) sc_nodes_read.nd rfl (Or.inl rfl)) pgs_nil))))
      (pss_cons (ps_if (pt_not (pt_truth (pv 5) (by intro _; rfl))) (pss_one (MqE_line.ps_raise rfl T hr (takes_of rfl rfl rfl rfl) (pa_cons pe_int pa_nil))) pss_nil)
      (pss_cons (ps_set (i := 6) sc_nodes_read.nd rfl (Or.inl rfl) (Mq.pe_ls pa_nil))
      (pss_cons (ps_for (passes_of rfl) rfl (pi_list (pv 5)) (pg_name (i := 7) sc_nodes_read.nd rfl (Or.inl rfl))
        (pss_cons (ps_expr (pe_bm PySem.F.plainAttrs_list PySem.F.slot_list_append PySem.F.type_list_append mt_append (pv 6) (pa_cons (PE_imp (t' := tNode K fO) (pe_ifExp (pt_cmpR op_eq (pe_callB call_len_seq (by rfl) B.len (by decide +kernel) (pa_cons (pv 6) pa_nil)) (pv 3) (nomark _)) pe_non (pe_callL (i := 2) GO (hr.mono (by decide)) rfl (Or.inl rfl) FO.kp bO .nil pass0 (pa_cons (pv 4) (pa_cons (pv 7) (pa_cons (pe_callB call_len_seq (by rfl) B.len (by decide +kernel) (pa_cons (pv 5) pa_nil)) pa_nil))))) (fun σ H Q h => by
          obtain ⟨L, L1, vs, ls, sg, l, h6, hv, h3, h2, h4, h7, h5, hL1, b1, b2, b3, b4, q⟩ := h
          refine ⟨_, h6, L, _, rfl, .inl (SqL.of hv), _, h3, rfl, _, rfl, ?_⟩
          have e9 : decide (V.int (vs.length : Nat) = V.int 999) = decide (vs.length = 999) := by
            rw [dec_int]
            exact decide_eq_decide.mpr ⟨fun h => by omega, fun h => by omega⟩
          rw [e9]
          cases e : decide (vs.length = 999) with
          | true =>
            rw [e, if_pos rfl] at q
            exact ifT rfl (q H .non (Same.refl H) rfl)
          | false =>
            rw [e, if_neg (by decide)] at q
            exact ifF rfl ⟨h2, _, h4, _, h7, _, h5, L1, _, rfl, .inl (SqL.of hL1), sg, l, ls.length, by rw [List.length_map]; rfl, b1, b2, b3, b4, fun H4 v4 s4 hv4 => q H4 v4 s4 hv4⟩)) pa_nil)))
        (pss_one (ps_if (pt_cmpR op_isN (pe_ix ix_list (pv 6) (pe_un un_neg pe_int) (fun _ _ => rfl)) pe_non (nomark _)) (pss_one (MqE_line.ps_raise rfl T hr (takes_of rfl rfl rfl rfl) (pa_cons (pe_op op_add (pe_callB call_len_seq (by rfl) B.len (by decide +kernel) (pa_cons (pv 6) pa_nil)) pe_int) pa_nil))) pss_nil))))
      (pss_one (ps_ret (pe_tup (pa_cons (pv 4) (pa_cons (pe_callTy call_tuple_of (by rfl) B.tuple (by decide +kernel) (pa_cons (pv 6) pa_nil)) pa_nil))))))))), ?_⟩
    refine ⟨_, rfl, _, rfl, v, rfl, ?_⟩
    rcases h with ⟨hn, q⟩ | ⟨t, rfl, ht, hlow, hsp, hsn, q⟩
    · exact Or.inl ⟨hn, q⟩
    refine Or.inr ⟨t, rfl, by omega, ?_⟩
    unfold pageM at q
    cases hh : headM t with
    | none =>
      rw [hh] at q
      exact q
    | some a =>
      obtain ⟨sg, ls⟩ := a
      rw [hh] at q
      dsimp only at q ⊢
      intro H1 T1 L1 s1 hT1 hL1
      obtain ⟨hlet, hsl, hll, _⟩ := head_facts hh
      have hlw := head_low hh hlow
      obtain ⟨l0, hs0⟩ := head_spl hh
      rw [hs0] at hsp hsn
      rw [List.length_cons] at hsn
      have hlm : ∀ l ∈ ls, l.length ≤ 4000 := fun l hl => hsp l (List.mem_cons_of_mem _ hl)
      have hL1 : H1 L1 = some (.lst (txs ls)) := hL1
      refine ⟨T1, _, rfl, hT1, rfl, _, _, rfl, _, _, rfl, rfl, ?_⟩
      refine ⟨_, rfl, _, Or.inl ⟨_, SqL.of hL1, rfl⟩, ?_⟩
      cases he : ls.isEmpty with
      | true =>
        rw [he, if_pos rfl] at q
        have e0 : ls = [] := List.isEmpty_iff.mp he
        subst e0
        exact ifT rfl ⟨_, rfl, fun d hd => q H1 d s1 hd⟩
      | false =>
        rw [he, if_neg (by decide)] at q
        have hne : ls ≠ [] := fun e => by
          rw [e] at he
          cases he
        refine ifF (by cases ls with
          | nil => exact (hne rfl).elim
          | cons a b => rfl) ⟨sz_le (n := 0) (by decide), fun L hL _ => ?_⟩
        have s2 := same_new (o := HO.lst []) hL
        have z2 : upd H1 L (.lst []) L = some (.lst []) := upd_same
        have zL1 := s2 _ _ hL1
        generalize upd H1 L (.lst []) = H2 at s2 z2 zL1 ⊢
        refine ⟨_, rfl, L1, rfl, ⟨_, SqL.of zL1⟩, ?_⟩
        have hml : (linesM sg ls).length = ls.length := List.length_mapIdx
        refine for_list (xs := txs ls) (fun i σ H' => Same H1 H' ∧ ∃ vs acc o7, H' L = some (.lst vs) ∧ DdAll K H' vs acc ∧ acc.length = i ∧ acc = ((linesM sg ls).take i).filterMap id ∧ firstN ((linesM sg ls).drop i) i = firstN (linesM sg ls) 0 ∧
          σ = [some (.str (S programL)), some (.str (S t)), some (.ref fO), some (.int 999), some (.str (S sg)), some (.ref L1), some (.ref L), o7]) ⟨s2, [], [], _, z2, .nil, rfl, rfl, rfl, rfl⟩ (fun i σ H' _ p => SqL.of (p.1 _ _ hL1)) ?_ ?_
        · rintro i x σ H3 hx ⟨s3, vs, acc, o7, hv, ha, hlen, hac, hb, rfl⟩
          obtain ⟨l, hi, rfl⟩ : ∃ l, ls[i]? = some l ∧ x = .str (S l) := by
            rw [List.getElem?_map] at hx
            cases e : ls[i]? with
            | none => rw [e] at hx; cases hx
            | some l => rw [e] at hx; cases hx; exact ⟨l, rfl, rfl⟩
          have hil : i < ls.length := by
            rcases Nat.lt_or_ge i ls.length with h | h
            · exact h
            · rw [List.getElem?_eq_none h] at hi
              cases hi
          have hmem := List.mem_of_getElem? hi
          have hlm' := hlm l hmem
          have hvl : vs.length = acc.length := ha.len
          have hm : (linesM sg ls)[i]? = some (if decide (i = 999) = true then none else deedM sg ls.length l) := by
            unfold linesM
            rw [List.getElem?_mapIdx, hi]
            rfl
          rw [firstN_step hm] at hb
          have hL1' := s3 _ _ hL1
          have hvi : vs.length = i := by omega
          refine ⟨_, rfl, Or.inl ⟨rfl, _, SqL.of hv⟩, L, L1, vs, ls, sg, l, rfl, hv, rfl, rfl, rfl, rfl, rfl, hL1', by omega, by omega, hlw l hmem, by omega, fun H4 v4 s4 hv4 => ?_⟩
          rw [hvi] at hv4
          generalize (if decide (i = 999) = true then none else deedM sg ls.length l) = o at hm hv4 hb
          have hL4 := s4 _ _ hv
          have ha4 := ha.same s4
          have s14 := s3.trans s4
          refine ⟨L, vs, v4, rfl, rfl, hL4, sz_lt (by omega), ?_⟩
          have s15 := push_same (o := HO.lst (vs ++ [v4])) hL s14
          have z5 : upd H4 L (.lst (vs ++ [v4])) L = some (.lst (vs ++ [v4])) := upd_same
          have k5 : KpT K H4 (upd H4 L (.lst (vs ++ [v4]))) := KpT.lst hL4
          generalize upd H4 L (.lst (vs ++ [v4])) = H5 at s15 z5 k5 ⊢
          refine ⟨_, rfl, _, rfl, L, _, -1, _, rfl, rfl, SqL.of z5, atI_last _ _, rfl, _, rfl, ?_⟩
          cases hr4 : o with
          | none =>
            rw [hr4] at hb hv4
            have hv4 : v4 = .non := hv4
            subst hv4
            have hb : some i = firstN (linesM sg ls) 0 := hb
            rw [← hb] at q
            refine ifT rfl ⟨_, rfl, L, _, rfl, .inl (SqL.of z5), _, _, rfl, rfl, _, rfl, fun d hd => ?_⟩
            have q' := q H5 d (s1.trans s15) hd
            unfold lineD at q'
            rw [List.length_append, hvl, hlen]
            exact q'
          | some n =>
            rw [hr4] at hb hv4
            have hv4 : DdAt K H4 v4 n := hv4
            have hb : firstN ((linesM sg ls).drop (i + 1)) (i + 1) = firstN (linesM sg ls) 0 := hb
            refine ifF ?_ ⟨s15, _, acc ++ [n], _, z5, (ha4.kp k5).app1 (hv4.kp k5), ?_, ?_, hb, rfl⟩
            · obtain ⟨p4, rfl⟩ := hv4.ref
              rfl
            · rw [List.length_append, hlen]
              rfl
            · rw [List.take_add_one, hm, hr4, List.filterMap_append, ← hac]
              rfl
        · rintro σ H3 ⟨s3, vs, acc, o7, hv, ha, hlen, hac, hb, rfl⟩
          have hll2 : (txs ls).length = ls.length := List.length_map _
          rw [hll2, List.drop_of_length_le (by rw [hml]; exact Nat.le_refl _)] at hb
          have hb' : firstN (linesM sg ls) 0 = none := hb.symm
          rw [hb'] at q
          dsimp only at q
          rw [hll2, List.take_of_length_le (by rw [hml]; exact Nat.le_refl _)] at hac
          rw [← hac] at q
          refine ⟨_, rfl, _, rfl, L, vs, rfl, Or.inl ⟨SqL.of hv, fun fa hfa => ?_⟩⟩
          have s4 := same_new (o := HO.tup vs) hfa
          have t4 : SqT K (upd H3 fa (.tup vs)) fa vs := Or.inl (Or.inl upd_same)
          have ha4 := ha.same s4
          generalize upd H3 fa (.tup vs) = H4 at s4 t4 ha4 ⊢
          refine ⟨sz_le (n := 2) (by decide), fun T2 hT2 => ?_⟩
          have s5 := same_new (o := HO.tup [V.str (S sg), V.ref fa]) hT2
          exact q _ T2 fa (((s1.trans s3).trans s4).trans s5) (Or.inl (Or.inl upd_same)) ⟨vs, Same.tup s5 t4, ha4.same s5⟩
end
end Lw

namespace Lw
open PySem PySem.Spec PyProof.Rows L2 Mq
open SX (S)
/-! ### what is read is right -/
theorem read_dd {sg line : List Nat} {m : Nat} {n : Dd} (h : deedM sg m line = some n) (hm : m ≤ 4001) : deedD sg m (ddD n) = true ∧ (ddD n).weight ≤ 14 * (line.length + 1) := by
  have hw : ∀ x ∈ spl 32 line, x.length ≤ line.length := fun x hx => spl_len hx
  have hn := spl_many 32 line
  unfold deedM at h
  split at h
  · cases h
    refine ⟨deed_stop sg m, ?_⟩
    show 4 + 1 + 0 ≤ _
    omega
  · unfold wordsM at h
    split at h
    · rename_i w0 rest e
      rw [e] at hw hn
      rw [List.length_cons] at hn
      split at h
      · unfold layM at h
        split at h
        · cases h
        · rename_i ts e3
          obtain ⟨hl, hlt⟩ := rdNs_lt e3
          split at h
          · rename_i h5
            obtain ⟨c, e1, hc⟩ := letB_one h5
            cases h
            have e2 : rest.getD 0 [] ∈ w0 :: rest := by
              rw [List.getD_eq_getElem?_getD] at e1 ⊢
              cases e4 : rest[0]? with
              | none =>
                rw [e4] at e1
                cases e1
              | some x => exact List.mem_cons_of_mem _ (List.mem_of_getElem? e4)
            have h6 := hw _ e2
            rw [e1] at h5 h6 ⊢
            match ts, hl, hlt with
            | [t], _, hlt =>
            have htm : t < m := hlt t (by simp)
            refine ⟨(deed_lay (sg := sg) (w1 := [c]) htm).trans h5, ?_⟩
            have h7 := int_weight (show t < 4096 by omega)
            show 3 + 1 + ((1 + 1) + ((PyData.int ((t : Nat) : Int)).weight + 1 + 0)) ≤ _
            have h8 : 1 ≤ line.length := h6
            omega
          · cases h
      · unfold lookM at h
        split at h
        · cases h
        · rename_i ts e3
          obtain ⟨hl, hlt⟩ := rdNs_lt e3
          split at h
          · rename_i h5
            cases h
            refine ⟨?_, ?_⟩
            · show deedD sg m (.tuple [.str "look", .tuple (ts.map fun t => .int (t : Nat))]) = true
              rw [look_is, deed_two, decide_eq_true rfl, places_ints hlt, (Bool.and_eq_true_iff.mp h5).2]
              rfl
            · have h9 := ints_weight fun x hx => Nat.lt_of_lt_of_le (hlt x hx) (show m ≤ 4096 by omega)
              show 4 + 1 + (PyData.weightAll (ts.map fun t => .int ((t : Nat) : Int)) + 1 + 0) ≤ _
              omega
          · cases h
    · cases h
theorem filt_weight {sg : List Nat} {m : Nat} (hm : m ≤ 4001) : ∀ ls : List (List Nat), PyData.weightAll (((ls.map (deedM sg m)).filterMap id).map ddD) ≤ 15 * sumL ls
  | [] => Nat.zero_le _
  | l :: ls => by
    have ih := filt_weight hm ls (sg := sg)
    have es : sumL (l :: ls) = (l.length + 1) + sumL ls := rfl
    rw [List.map_cons, es]
    cases e : deedM sg m l with
    | none =>
      show PyData.weightAll (((ls.map (deedM sg m)).filterMap id).map ddD) ≤ _
      omega
    | some n =>
      have h1 := (read_dd e hm).2
      show (ddD n).weight + 1 + PyData.weightAll (((ls.map (deedM sg m)).filterMap id).map ddD) ≤ _
      omega
theorem filt_mem {sg : List Nat} {m : Nat} {ls : List (List Nat)} {n : Dd} (h : n ∈ (ls.map (deedM sg m)).filterMap id) : ∃ l ∈ ls, deedM sg m l = some n := by
  obtain ⟨o, ho, e⟩ := List.mem_filterMap.mp h
  obtain ⟨l, hl, e2⟩ := List.mem_map.mp ho
  exact ⟨l, hl, by rw [e2]; exact e⟩
theorem firstN_len : ∀ {ms : List (Option Dd)} {i : Nat}, firstN ms i = none → (ms.filterMap id).length = ms.length
  | [], _, _ => rfl
  | none :: _, _, h => by cases h
  | some n :: ms, i, h => by
    have ih := firstN_len (ms := ms) (i := i + 1) h
    show ((ms.filterMap id).length + 1) = ms.length + 1
    rw [ih]
theorem firstN_some : ∀ {ms : List (Option Dd)} {i : Nat}, firstN ms i = none → ∀ o ∈ ms, o ≠ none
  | [], _, _ => fun o h => nomatch h
  | none :: _, _, h => by cases h
  | some n :: ms, i, h => fun o ho => by
    rcases List.mem_cons.mp ho with rfl | ho
    · exact fun z => nomatch z
    · exact firstN_some (ms := ms) (i := i + 1) h o ho
theorem lines_map {sg : List Nat} {ls : List (List Nat)} (h : firstN (linesM sg ls) 0 = none) : ls.length ≤ 999 ∧ linesM sg ls = ls.map (deedM sg ls.length) := by
  have hs := firstN_some h
  have hl : ls.length ≤ 999 := by
    rcases Nat.lt_or_ge 999 ls.length with g | g
    · have e : (linesM sg ls)[999]? = some none := by
        unfold linesM
        rw [List.getElem?_mapIdx, List.getElem?_eq_getElem g]
        rfl
      exact (hs _ (List.mem_of_getElem? e) rfl).elim
    · exact g
  refine ⟨hl, List.ext_getElem? fun i => ?_⟩
  unfold linesM
  rw [List.getElem?_mapIdx, List.getElem?_map]
  cases e : ls[i]? with
  | none => rfl
  | some l =>
    have hi : i < ls.length := (List.getElem?_eq_some_iff.mp e).1
    show some (if decide (i = 999) = true then none else deedM sg ls.length l) = some (deedM sg ls.length l)
    rw [decide_eq_false (by omega), if_neg (by decide)]
theorem first_right {p : PyData → Bool} : ∀ {ds : List PyData} {i : Nat}, (∀ d ∈ ds, p d = true) → firstBad p ds i = none
  | [], _, _ => rfl
  | d :: ds, i, h => by
    unfold firstBad
    rw [h d List.mem_cons_self, if_pos rfl]
    exact first_right fun x hx => h x (List.mem_cons_of_mem _ hx)
structure PgOk (t sg : List Nat) (ns : List Dd) : Prop where
  let_ : lettersB sg = true
  sgl : sg.length ≤ t.length
  due : dueM (.str (S sg)) (.tuple (ns.map ddD)) = none
  wt : PyData.weightAll (ns.map ddD) ≤ 15 * (t.length + 1)
  few : ns.length ≤ 999
theorem page_ok {t sg : List Nat} {ns : List Dd} (h : pageM t = .inl (sg, ns)) : PgOk t sg ns := by
  unfold pageM at h
  cases hh : headM t with
  | none =>
    rw [hh] at h
    cases h
  | some a =>
    obtain ⟨sg', ls⟩ := a
    rw [hh] at h
    dsimp only at h
    obtain ⟨hlet, hsl, hll, hlm⟩ := head_facts hh
    cases he : ls.isEmpty with
    | true =>
      rw [he] at h
      cases h
    | false =>
      rw [he, if_neg (by decide)] at h
      cases hf : firstN (linesM sg' ls) 0 with
      | some k =>
        rw [hf] at h
        cases h
      | none =>
        rw [hf] at h
        cases h
        obtain ⟨h999, hmap⟩ := lines_map hf
        have hlen : ((linesM sg ls).filterMap id).length = ls.length := (firstN_len hf).trans (by rw [hmap]; exact List.length_map _)
        have hsum : sumL ls ≤ t.length + 1 := by
          obtain ⟨l0, e⟩ := head_spl hh
          have h1 : sumL (spl 10 t) = t.length + 1 := by
            have h2 := join_len 10 (spl 10 t) (spl_ne 10 t)
            rw [spl_join] at h2
            exact h2.symm
          rw [e] at h1
          have h3 : sumL (l0 :: ls) = (l0.length + 1) + sumL ls := rfl
          omega
        refine ⟨hlet, hsl, ?_, ?_, by omega⟩
        · rw [due_str, hlet, if_pos rfl]
          unfold bodyN
          dsimp only
          have e0 : (((linesM sg ls).filterMap id).map ddD).isEmpty = false := by
            cases e1 : ((linesM sg ls).filterMap id).map ddD with
            | nil =>
              have e2 := congrArg List.length e1
              rw [List.length_map, hlen] at e2
              have e3 : ls = [] := List.length_eq_zero_iff.mp e2
              rw [e3] at he
              cases he
            | cons a b => rfl
          have e9 : decide (999 < (((linesM sg ls).filterMap id).map ddD).length) = false := decide_eq_false (by rw [List.length_map, hlen]; omega)
          rw [e0, e9, Bool.or_self, if_neg (by decide), first_right]
          · rfl
          · intro d hd
            obtain ⟨n, hn, rfl⟩ := List.mem_map.mp hd
            rw [List.length_map, hlen]
            rw [hmap] at hn
            obtain ⟨l, hl, e⟩ := filt_mem hn
            exact (read_dd e (by omega)).1
        · have := filt_weight (sg := sg) (m := ls.length) (by omega) ls
          rw [hmap]
          omega
theorem dds_dg {K : PySem.W.Frag} {H : Hp} : ∀ {vs : List V} {ns : List Dd}, DdAll K H vs ns → DgAll K H vs (ns.map ddD)
  | _, _, .nil => .nil
  | _, _, .cons (n := n) h b => .cons (by
      cases n with
      | stop => obtain ⟨a, rfl, ha⟩ := h; exact .tup ha (.cons (.str _) .nil)
      | lay c t => obtain ⟨a, rfl, ha⟩ := h; exact .tup ha (.cons (.str _) (.cons (.str _) (.cons (.int _) .nil)))
      | look ts => obtain ⟨a, b, rfl, ha, hb⟩ := h; exact .tup ha (.cons (.str _) (.cons (.tup hb (ints_dg ts)) .nil))) (dds_dg b)
end Lw

namespace Lw
open PySem PySem.Spec PyProof.Rows L2 Mq
open SX (S)
/-! ### reading a program off a text -/
theorem mk_any {K : PySem.W.Frag} {C CT : Addr} {H : Hp} {sg : List Nat} {ds : List PyData} {na : Addr} (g2 : Dg K H (.ref na) (.tuple ds)) (w1 : sg.length ≤ 80000) (w2 : (PyData.tuple ds).weight ≤ 80000) (e : dueM (.str (S sg)) (.tuple ds) = none)
    {x dx : Addr} (hx : H x = none) (hdx : H dx = none) (hne : dx ≠ x) {Q : VK} {E : XK}
    (q : ∀ H', Same H H' → PgAt H' C x sg na → Q .non H') : spInitA K C CT [.ref x, .str (S sg), .ref na] (upd (upd H dx (.own x)) x (.ins C dx [])) Q E := by
  have hx5 : upd H dx (.own x) x = none := (upd_ne (Ne.symm hne)).trans hx
  have s6 : Same H (upd (upd H dx (.own x)) x (.ins C dx [])) := (same_new (o := HO.own x) hdx).trans (same_new (o := HO.ins C dx []) hx5)
  refine ⟨x, dx, _, _, .str (S sg), _, rfl, upd_same, .str _, g2.same s6, w1, w2, ?_⟩
  rw [e]
  intro H1 sg' na' e1 _ e3 hb kp
  have eS := SX.S_inj (V.str.inj e1)
  subst eS
  cases e3
  refine q H1 (fun b o e => kp b o (s6 b o e) ?_) hb
  rintro rfl
  rw [hx] at e
  cases e
def spRead (K : PySem.W.Frag) (C CT : Addr) : Sp := fun vs H Q E => ∃ v : V, vs = [.ref C, v] ∧
  ((NoTx K H v ∧ ∀ H' d, Same H H' → H' d = none → E (.ref CT) (some d) (lineD d 0 H')) ∨ ∃ t : List Nat, v = .str (S t) ∧ t.length ≤ 12000 ∧ LowL t ∧ (∀ l ∈ spl 10 t, l.length ≤ 4000) ∧ (spl 10 t).length ≤ 4002 ∧ (∀ sg ns, pageM t = .inl (sg, ns) → PyData.weightAll (ns.map ddD) ≤ 80000) ∧
    match pageM t with
    | .inr k => ∀ H' d, Same H H' → H' d = none → E (.ref CT) (some d) (lineD d k H')
    | .inl (sg, ns) => ∀ H' r na, Same H H' → PgAt H' C r sg na → DeedsAt K H' na ns → Q (.ref r) H')
section
variable {P : Program} {w : World} {K : PySem.W.Frag} {mg : Str → Option Value} {base : Heap} {C CT CR : Addr}
theorem ok_read {f fT fO fI : Addr} {fd fdT fdI : FuncData} (F : Fun K "read" "Program.read" s_Program_read f fd) (B : Blt mg)
    (kT : PySem.W.keepIn K (.ref fT) = true) (gT : mg "nodes_read" = some (.ref fT)) (bT : Binds K fdT ["word", "text", "node_of", "most"] []) (mp : ∃ t, mg "MOST_PLACES" = some (.int 999 t))
    (gO : mg "deed_read" = some (.ref fO)) (GT : FnOk P w K mg base (L2.CX P w) 6 fT fdT ["word", "text", "node_of", "most"] (spNodesRd K CT fO))
    (MK : Mk K C fI) (bI : Binds K fdI ["self", "letters", "deeds"] []) (GI : FnOk P w K mg base (L2.CX P w) 6 fI fdI ["self", "letters", "deeds"] (spInitA K C CR)) :
    FnOk P w K mg base (L2.CX P w) 8 f fd ["cls", "text"] (spRead K C CT) := by
  obtain ⟨tm, mp⟩ := mp
  refine F.okX sc_Program_read (fun vs H Q E h => ?_) (fun cdv A outer s H vs Q E hr h => ?_)
  · obtain ⟨_, rfl, _⟩ := h
    rfl
  · obtain ⟨v, rfl, h⟩ := h
    refine ⟨_, (pss_cons (ps_asg (pe_call GT (hr.mono (by decide)) (by rfl) gT kT bT .nil (passes_call (takes_of rfl rfl rfl rfl) (fun _ _ _ _ z => z)) (pa_cons pe_str (pa_cons (pv 1) (pa_cons (pe_glob (v := .ref fO) (by rfl) gO rfl) (pa_cons (pe_glob (v := .int 999) (by rfl) mp ⟨_, rfl⟩) pa_nil))))) (pg_tup rfl (pgs_cons (pg_name (i := 2) sc_Program_read.nd rfl (Or.inl rfl)) (pgs_cons (pg_name (i := 3) sc_Program_read.nd rfl (Or.inl rfl)) pgs_nil))))
      (pss_one (ps_ret (pe_makeV MK GI (hr.mono (by decide)) (pv 0) bI (passes_call (takes_of rfl rfl rfl rfl) (fun _ _ _ _ z => z)) (pa_cons (pv 2) (pa_cons (pv 3) pa_nil)))))), ?_⟩
    refine ⟨_, rfl, v, rfl, ?_⟩
    rcases h with ⟨hn, q⟩ | ⟨t, rfl, ht, hlow, hsp, hsn, hwt, q⟩
    · exact Or.inl ⟨hn, q⟩
    refine Or.inr ⟨t, rfl, ht, hlow, hsp, hsn, ?_⟩
    cases hp : pageM t with
    | inr k =>
      rw [hp] at q
      exact q
    | inl a =>
      obtain ⟨sg, ns⟩ := a
      rw [hp] at q
      dsimp only at q ⊢
      have po := page_ok hp
      intro H1 T1 na s1 hT1 hna
      refine ⟨T1, _, rfl, hT1, rfl, _, _, rfl, _, _, rfl, rfl, ?_⟩
      refine ⟨_, rfl, rfl, _, rfl, _, rfl, fun x dx hx hdx hne => ?_⟩
      obtain ⟨xs, hz, hall⟩ := hna
      refine mk_any (.tup hz (dds_dg hall)) (by have := po.sgl; omega) (hwt sg ns hp) po.due hx hdx hne fun H2 s2 hrd => ⟨rfl, q H2 x na (s1.trans s2) hrd ⟨xs, Same.tup s2 hz, hall.same s2⟩⟩
end
end Lw

namespace Mq
open PySem PySem.Spec PyProof.Rows L2
/-! ### error classes over a class of one's own, told by their objects -/
def ClsAt (K : PySem.W.Frag) (CM C : Addr) : Prop := ∃ nm q N bs sn sub ab col dd m0 m1 m2 m3 m5, K.lookup C = some (excClassObj nm q C N bs [.ref CM, .type "Exception", .type "BaseException", .type "object"] true sn sub ab col dd m0 m1 m2 m3 m5 "Exception.__new__")
section
variable {K : PySem.W.Frag} {CM C : Addr}
theorem ClsAt.isC (h : ClsAt K CM C) : (PySem.W.clsIn K C).isSome = true := by
  obtain ⟨_, _, _, _, _, _, _, _, _, _, _, _, _, _, h⟩ := h
  simp [PySem.W.clsIn, h, excClassObj]
theorem ClsAt.ty (h : ClsAt K CM C) : PySem.W.typeIn K (.ref C) = some (.type "type") := by
  obtain ⟨_, _, _, _, _, _, _, _, _, _, _, _, _, _, h⟩ := h
  simp [PySem.W.typeIn, h, excClassObj]
theorem ClsAt.has (h : ClsAt K CM C) : PySem.W.hasDictIn K C = true := by
  obtain ⟨_, _, _, _, _, _, _, _, _, _, _, _, _, _, h⟩ := h
  simp [PySem.W.hasDictIn, PySem.W.clsIn, h, excClassObj]
theorem ClsAt.mro (h : ClsAt K CM C) (b : Value) : PySem.W.mroIn K C b = some ((Value.ref C :: Value.ref CM :: exTail).contains b) := by
  obtain ⟨_, _, _, _, _, _, _, _, _, _, _, _, _, _, h⟩ := h
  simp [PySem.W.mroIn, PySem.W.clsIn, h, excClassObj, exTail]
theorem ClsAt.init (h : ClsAt K CM C) : PySem.W.excInitIn K C exTail "Exception.__new__" = true := by
  obtain ⟨_, _, _, _, _, _, _, _, _, _, _, _, _, _, h⟩ := h
  unfold PySem.W.excInitIn
  rw [h]
  simp [excClassObj, PySem.W.excTail, exTail]
theorem ClsAt.over (h : ClsAt K CM C) : PySem.W.excOver K C exTail = true := by
  obtain ⟨_, _, _, _, _, _, _, _, _, _, _, _, _, _, h⟩ := h
  unfold PySem.W.excOver PySem.W.clsIn
  rw [h]
  simp [excClassObj, PySem.W.excTail, exTail]
theorem ClsAt.keep (h : ClsAt K CM C) : PySem.W.keepIn K (.ref C) = true := by
  have ht := h.ty
  obtain ⟨_, _, _, _, _, _, _, _, _, _, _, _, _, _, h⟩ := h
  unfold PySem.W.keepIn
  dsimp only
  rw [h]
  dsimp only
  unfold PySem.W.specialIn
  rw [ht]
  show (fastLookup "type" "__call__" == some (some (Value.builtin "type.__call__"))) = true
  decide +kernel
theorem ClsAt.sub (h : ClsAt K CM C) (b : Value) : PySem.W.subIn K (.ref C) b = some ((Value.ref C :: Value.ref CM :: exTail).contains b) := h.mro b
theorem ref_eq (a b : Addr) : (Value.ref a == Value.ref b) = decide (a = b) := by
  by_cases h : a = b
  · subst h; simp
  · simp [h]
theorem ClsAt.kit {D : Addr} (h : ClsAt K CM C) (hD : ClsAt K CM D) (ne : D ≠ CM) : PySem.W.kitOne K (.ref C) (.ref D) = some (decide (C = D)) := by
  unfold PySem.W.kitOne
  by_cases e : C = D
  · subst e; simp
  · simp [e, PySem.W.kitCls, hD.isC, hD.ty, h.sub, exTail, Ne.symm e, ne]
theorem ClsAt.mill (h : ClsAt K CM C) (h1 : PySem.W.isClsIn K CM = true) (h2 : PySem.W.typeIn K (.ref CM) = some (.type "type")) : PySem.W.kitOne K (.ref C) (.ref CM) = some true := by
  have h1 : (PySem.W.clsIn K CM).isSome = true := h1
  unfold PySem.W.kitOne
  by_cases e : C = CM
  · subst e; simp
  · simp [e, PySem.W.kitCls, h1, h2, h.sub, exTail]
theorem ClsAt.typ (h : ClsAt K CM C) {n : String} (hm : PySem.W.kitMeta n = true) : PySem.W.kitOne K (.ref C) (.type n) = some (exTail.contains (.type n)) := by
  unfold PySem.W.kitOne
  simp [PySem.W.kitCls, hm, h.sub]
/-- what the written part says of such a class -/
structure ClsF (K : PySem.W.Frag) (CM C : Addr) : Prop where
  at_ : ClsAt K CM C
  ga : PySem.W.findIn K (.ref C) "__getattribute__" = some (some (.builtin "BaseException.__getattribute__"))
  gg : PySem.W.findIn K (.ref C) "__getattr__" = some none
  ca : PySem.W.findIn K (.ref C) "__class__" = some (some (.builtin "object.__class__"))
theorem ClsF.base (h : ClsF K CM C) : PySem.W.subIn K (.ref C) (.type "BaseException") = some true := by
  rw [h.at_.sub]
  simp [exTail]
theorem ClsF.xf (h : ClsF K CM C) : XfC K C := ⟨h.ga, h.gg, h.base, h.at_.has⟩
theorem ClsF.held (h : ClsF K CM C) (sp : PySem.W.specialIn K (.builtin "object.__class__") "__get__" = some (some (.builtin "getset_descriptor.__get__"))) (tk : PySem.W.takesIn K (.builtin "object.__class__") = some true) : HeldC K C :=
  ⟨h.at_.isC, h.ga, h.gg, h.base, h.ca, sp, tk, by rw [h.at_.mro]; simp [exTail]⟩
theorem exm_own (h : ClsF K CM C) : PySem.W.exmOne K (.ref C) (.ref C) = some true := by
  simp [PySem.W.exmOne, PySem.W.kitCls, h.at_.isC, h.at_.ty, h.at_.sub, exTail]
end
/-! ### the head's facts by a Hook of our own -/
def exB (fs : List (PySem.W.Frag → Bool)) (K : PySem.W.Frag) : Bool := fs.all fun f => f K
def obsM (n : Nat) (fn : List He.FnD) (fs : List (PySem.W.Frag → Bool)) (g : Addr → Option Obj) : He.Al × Bool :=
  (He.obsG n [] fn g, exB fs (He.frG g (He.asG g n)))
def hookM (n : Nat) (fn : List He.FnD) (fs : List (PySem.W.Frag → Bool)) : PySem.W.Hook where
  α := He.Al × Bool
  obs := fun s => obsM n fn fs s.heap.get?
  val := fun _ => (He.valE fn, true)
  says := fun _ h => ∃ K : PySem.W.Frag, K.In h ∧ He.SaysE [] fn K ∧ exB fs K = true
  of := fun w s e => ⟨He.frG s.heap.get? (He.asG s.heap.get? n), He.frG_in, congrArg Prod.fst e, congrArg Prod.snd e⟩
  keeps := fun w h h' ⟨K, a, b, c⟩ k => ⟨K, a.keeps k, b, c⟩
abbrev AlT := He.Al × Bool
theorem obsM_eq {n : Nat} {fn : List He.FnD} {fs : List (PySem.W.Frag → Bool)} {g : Addr → Option Obj} {s : Shared} (h : ∀ a, g a = s.heap.get? a) : obsM n fn fs g = (hookM n fn fs).obs s := by
  have e : g = s.heap.get? := funext h
  rw [e]
  rfl
theorem exAt {fs : List (PySem.W.Frag → Bool)} {K : PySem.W.Frag} (h : exB fs K = true) (i : Nat) {f : PySem.W.Frag → Bool} (e : fs[i]? = some f) : f K = true := List.all_eq_true.mp h f (List.mem_of_getElem? e)
def fFind (x n : Str) (v : Option Value) : PySem.W.Frag → Bool := fun K => He.eqO (PySem.W.findIn K (.ref (He.ga K x)) n) (some v)
def fInit (x : Str) : PySem.W.Frag → Bool := fun K => He.eqO (PySem.W.findIn K (.ref (He.ga K x)) "__init__") (some (some (.ref (He.ma K (He.ga K x) "__init__"))))
def fGlo (x : Str) : PySem.W.Frag → Bool := fun K => He.eqO (PySem.W.nsIn K mainGlobals x) (some (some (.ref (He.ga K x))))
def fFree (x : Str) : PySem.W.Frag → Bool := fun K => He.eqO (PySem.W.nsIn K mainGlobals x) (some none)
def fExc (x : Str) : PySem.W.Frag → Bool := fun K => PySem.W.excIn K (He.ga K x) exTail "Exception.__new__"
def clsB (K : PySem.W.Frag) (CM C : Addr) : Bool :=
  match K.lookup C with
  | some ⟨.type T, _, .cls cd, sl⟩ => decide (T = "type") && cd.hasDict && !cd.hasDel &&
      (match cd.mro with
       | [.ref a, .ref b, .type t1, .type t2, .type t3] => decide (a = C) && decide (b = CM) && decide (t1 = "Exception") && decide (t2 = "BaseException") && decide (t3 = "object")
       | _ => false) &&
      (match sl.toList with
       | [_, _, _, _, some (.builtin n), _] => decide (n = "Exception.__new__")
       | _ => false)
  | _ => false
def fCls (x : Str) : PySem.W.Frag → Bool := fun K => clsB K (He.ga K "MillError") (He.ga K x)
def fnB (K : PySem.W.Frag) (f : Addr) : Bool :=
  match K.lookup f with
  | some ⟨.type T, _, .func fd, _⟩ => decide (T = "function") && (match fd.kwdefaults with | .none => true | _ => false)
  | _ => false
def fFn (x : Str) : PySem.W.Frag → Bool := fun K => fnB K (He.ma K (He.ga K x) "__init__")
theorem clsB_ok {K : PySem.W.Frag} {CM C : Addr} (h : clsB K CM C = true) : ClsAt K CM C := by
  unfold clsB at h
  split at h
  · rename_i T dd cd sl hl
    obtain ⟨nm, bs, mro, N, qn, hd, sn, sub, ab, col, hdel⟩ := cd
    simp only [Bool.and_eq_true] at h
    obtain ⟨⟨⟨⟨h1, h2⟩, h3⟩, h4⟩, h5⟩ := h
    split at h4
    · simp only [Bool.and_eq_true, decide_eq_true_eq] at h4
      obtain ⟨⟨⟨⟨a1, a2⟩, a3⟩, a4⟩, a5⟩ := h4
      split at h5
      · rename_i m0 m1 m2 m3 n m5 hs
        have hs' := congrArg List.toArray hs
        rw [Array.toArray_toList] at hs'
        have e1 := of_decide_eq_true h1
        have e5 := of_decide_eq_true h5
        simp only [Bool.not_eq_true'] at h3
        subst e1 a1 a2 a3 a4 a5 e5 hs' h3
        have h2' : hd = true := h2
        subst h2'
        exact ⟨_, _, _, _, _, _, _, _, _, _, _, _, _, _, hl⟩
      · cases h5
    · cases h4
  · cases h
theorem fnB_ok {K : PySem.W.Frag} {f : Addr} {oc kV dV doc pm cd ct : Value} {od an : Option Addr} {osl : Array (Option Value)} {nm q : Str} {a : Arguments} {b : List Stmt} {s : Scope}
    (h : fnB K f = true) (l : K.lookup f = some ⟨oc, od, .func (PySem.W.fnOf nm q a b s dV kV doc pm an cd ct), osl⟩) : oc = .type "function" ∧ kV = .none := by
  unfold fnB at h
  rw [l] at h
  split at h
  · rename_i hh
    cases hh
    simp only [Bool.and_eq_true] at h
    obtain ⟨h1, h2⟩ := h
    refine ⟨by rw [of_decide_eq_true h1], ?_⟩
    split at h2
    · rfl
    · cases h2
  · cases h
theorem keep_fn {K : PySem.W.Frag} {f : Addr} {oc : Value} {od : Option Addr} {g : FuncData} {osl : Array (Option Value)} (l : K.lookup f = some ⟨oc, od, .func g, osl⟩) : PySem.W.keepIn K (.ref f) = true := by
  unfold PySem.W.keepIn
  dsimp only
  rw [l]
theorem walk_ofGE {l : PySem.W.OpenLaw} {n k : Nat} {q : Program} {loose : List Str}
    {XP : (Str → Option Value) → Heap → Prop} {YP : World → Heap → Prop} {d : DefRec} {CX : CXT} {x : Str}
    (hn : l.most = some n) (hn2 : n ≤ sizeLine) (hdf : d.params.defaults = []) (hr : Room k callerA)
    (F : ∀ (w : World) (mg : Str → Option Value) (fa : Addr) (h : Heap), YP w h → h.Ns mainGlobals mg → mg d.name = some (.ref fa) →
      ∃ (K : PySem.W.Frag) (fd : FuncData) (sp : Sp), K.In h ∧ (∀ (s : Shared) (u : Value), BindsTo s fd ⟨[u], []⟩ [(x, u)]) ∧
        (∀ (H : Hp) (a : Addr) (ns : List Int), ns.length ≤ n → Only H → SqL K H a (ns.map V.int) → sp [.ref a] H (fun v _ => v = .bl true) fun _ _ _ => False) ∧
        ∀ base : Heap, K.In base → base.Ns mainGlobals mg → FnG l.prog w K mg base CX k fa fd [x] sp)
    (hCX : ∀ (H : Hp) (s : Shared) (e : Value) (s' : Shared), CX [] H s (fun _ _ _ => False) e s' → False) :
    PySem.W.WalkO q loose XP YP l.row.toRowW d [] (fun f vs => PySem.call f vs) := by
  refine Att.attach_call hn hdf ?_
  intro w s₀ s₁ mg mb fa o pm cd doc a vs ns G Y ho hd hcd hmg hobj hints hlen hg
  obtain ⟨K, fd, sp, KX, hb, hsp, hF⟩ := F w mg fa _ Y G.T.g hmg
  exact law_callG KX G.T.g G.T.b G.T.builtins G.T.nolimit hg hobj hints (Nat.le_trans hlen hn2) hr hF hb
    (fun H hO hS => hsp H a ns hlen hO hS) (fun H e s' => hCX H s₁ e s')
theorem glo_of {K : PySem.W.Frag} {x : Str} (h : fGlo x K = true) : PySem.W.nsIn K mainGlobals x = some (some (.ref (He.ga K x))) := He.eqO_ok h
theorem free_of {K : PySem.W.Frag} {x : Str} (h : fFree x K = true) : PySem.W.nsIn K mainGlobals x = some none := He.eqO_ok h
theorem find_of {K : PySem.W.Frag} {x n : Str} {v : Option Value} (h : fFind x n v K = true) : PySem.W.findIn K (.ref (He.ga K x)) n = some v := He.eqO_ok h
theorem init_of {K : PySem.W.Frag} {x : Str} (h : fInit x K = true) : PySem.W.findIn K (.ref (He.ga K x)) "__init__" = some (some (.ref (He.ma K (He.ga K x) "__init__"))) := He.eqO_ok h
theorem cls_of {K : PySem.W.Frag} {x : Str} (h : fCls x K = true) : ClsAt K (He.ga K "MillError") (He.ga K x) := clsB_ok h
theorem exc_of {K : PySem.W.Frag} {x : Str} (h : fExc x K = true) : PySem.W.excIn K (He.ga K x) exTail "Exception.__new__" = true := h
/-! ### further facts -/
def fMeth (x n : Str) : PySem.W.Frag → Bool := fun K => He.eqO (PySem.W.findIn K (.ref (He.ga K x)) n) (some (some (.ref (He.ma K (He.ga K x) n)))) && PySem.W.isFn K (.ref (He.ma K (He.ga K x) n))
theorem meth_of {K : PySem.W.Frag} {x n : Str} (h : fMeth x n K = true) : PySem.W.findIn K (.ref (He.ga K x)) n = some (some (.ref (He.ma K (He.ga K x) n))) ∧ PySem.W.isFn K (.ref (He.ma K (He.ga K x) n)) = true := by
  obtain ⟨a, b⟩ := Bool.and_eq_true_iff.mp h
  exact ⟨He.eqO_ok a, b⟩
/-- a class of one's own, its objects made and read plainly -/
def fOwn (x : Str) : PySem.W.Frag → Bool := fun K => PySem.W.plainGet K (He.ga K x) Str.empty && (PySem.W.hasDictIn K (He.ga K x) && (PySem.W.plainOver K (He.ga K x) && (PySem.W.makesIn K (He.ga K x) && PySem.W.keepIn K (.ref (He.ga K x)))))
theorem own_of {K : PySem.W.Frag} {x : Str} (h : fOwn x K = true) : PySem.W.plainGet K (He.ga K x) Str.empty = true ∧ PySem.W.hasDictIn K (He.ga K x) = true ∧ PySem.W.plainOver K (He.ga K x) = true ∧ PySem.W.makesIn K (He.ga K x) = true ∧ PySem.W.keepIn K (.ref (He.ga K x)) = true := by
  obtain ⟨a, h⟩ := Bool.and_eq_true_iff.mp h
  obtain ⟨b, h⟩ := Bool.and_eq_true_iff.mp h
  obtain ⟨c, h⟩ := Bool.and_eq_true_iff.mp h
  obtain ⟨d, e⟩ := Bool.and_eq_true_iff.mp h
  exact ⟨a, b, c, d, e⟩
def fTxt (x v : Str) : PySem.W.Frag → Bool := fun K => match PySem.W.nsIn K mainGlobals x with
  | some (some (.str y _)) => decide (y = v)
  | _ => false
theorem txt_of {K : PySem.W.Frag} {x v : Str} (h : fTxt x v K = true) : ∃ t, PySem.W.nsIn K mainGlobals x = some (some (.str v t)) := by
  unfold fTxt at h
  split at h
  · rename_i y t e
    have := of_decide_eq_true h
    subst this
    exact ⟨t, e⟩
  · cases h
def fExm (x y : Str) (b : Bool) : PySem.W.Frag → Bool := fun K => decide (PySem.W.exmOne K (.ref (He.ga K x)) (.ref (He.ga K y)) = some b)
theorem exm_of {K : PySem.W.Frag} {x y : Str} {b : Bool} (h : fExm x y b K = true) : PySem.W.exmOne K (.ref (He.ga K x)) (.ref (He.ga K y)) = some b := of_decide_eq_true h
def fKit (x y : Str) (b : Bool) : PySem.W.Frag → Bool := fun K => decide (PySem.W.kitOne K (.ref (He.ga K x)) (.ref (He.ga K y)) = some b)
theorem kit_of {K : PySem.W.Frag} {x y : Str} {b : Bool} (h : fKit x y b K = true) : PySem.W.kitOne K (.ref (He.ga K x)) (.ref (He.ga K y)) = some b := of_decide_eq_true h
def fMro (x : Str) : PySem.W.Frag → Bool := fun K => decide (PySem.W.mroIn K (He.ga K x) (.type "object") = some true)
theorem mro_of {K : PySem.W.Frag} {x : Str} (h : fMro x K = true) : PySem.W.mroIn K (He.ga K x) (.type "object") = some true := of_decide_eq_true h
def fSp : PySem.W.Frag → Bool := fun K => He.eqO (PySem.W.specialIn K (.builtin "object.__class__") "__get__") (some (some (.builtin "getset_descriptor.__get__")))
theorem sp_of {K : PySem.W.Frag} (h : fSp K = true) : PySem.W.specialIn K (.builtin "object.__class__") "__get__" = some (some (.builtin "getset_descriptor.__get__")) := He.eqO_ok h
def fTk : PySem.W.Frag → Bool := fun K => decide (PySem.W.takesIn K (.builtin "object.__class__") = some true)
theorem tk_of {K : PySem.W.Frag} (h : fTk K = true) : PySem.W.takesIn K (.builtin "object.__class__") = some true := of_decide_eq_true h
def fMill : PySem.W.Frag → Bool := fun K => PySem.W.isClsIn K (He.ga K "MillError") && decide (PySem.W.typeIn K (.ref (He.ga K "MillError")) = some (.type "type"))
theorem mill_of {K : PySem.W.Frag} (h : fMill K = true) : PySem.W.isClsIn K (He.ga K "MillError") = true ∧ PySem.W.typeIn K (.ref (He.ga K "MillError")) = some (.type "type") := by
  obtain ⟨a, b⟩ := Bool.and_eq_true_iff.mp h
  exact ⟨a, of_decide_eq_true b⟩
end Mq

namespace Mq
open PySem PySem.Spec PyProof.Rows L2
/-! ### facts of the head for own classes with `==`: kinds that they are not, kinds that are not they -/
def fOwnEq (x : Str) : PySem.W.Frag → Bool := fun K => kinds6.all (fun T => decide (PySem.W.subIn K (.ref (He.ga K x)) (.type T) = some false)) &&
  (He.eqO (PySem.W.findIn K (.ref (He.ga K x)) "__ne__") (some (some (.builtin "object.__ne__"))) && (decide (PySem.W.mroIn K (He.ga K x) (.type "object") = some true) &&
  ((PySem.W.clsIn K (He.ga K x)).isSome && decide (PySem.W.typeIn K (.ref (He.ga K x)) = some (.type "type")))))
structure OwnEqK (K : PySem.W.Frag) (C : Addr) : Prop where
  own : OwnEq K C
  kits : ∀ T ∈ kinds6, PySem.W.kitOne K (.type T) (.ref C) = some false
theorem ownEq_of {K : PySem.W.Frag} {x : Str} (h : fOwnEq x K = true) : OwnEqK K (He.ga K x) := by
  obtain ⟨a, h⟩ := Bool.and_eq_true_iff.mp h
  obtain ⟨b, h⟩ := Bool.and_eq_true_iff.mp h
  obtain ⟨c, h⟩ := Bool.and_eq_true_iff.mp h
  obtain ⟨d, e⟩ := Bool.and_eq_true_iff.mp h
  have e := of_decide_eq_true e
  refine ⟨⟨fun T hT => of_decide_eq_true (List.all_eq_true.mp a T hT), He.eqO_ok b, of_decide_eq_true c⟩, fun T hT => ?_⟩
  have s := sub_kind (K := K) (C := He.ga K x) T hT
  unfold PySem.W.kitOne
  rw [if_neg (by simp)]
  show (if ((PySem.W.clsIn K (He.ga K x)).isSome && PySem.W.typeIn K (.ref (He.ga K x)) == some (.type "type")) = true then PySem.W.subIn K (.type T) (.ref (He.ga K x)) else none) = some false
  rw [d, e, s]
  simp
/-! ### calls by keywords turned round, behind self -/
def app2r {α : Type} (a b : List α) : List α := a ++ b.reverse
theorem kbn_1r2 {K : PySem.W.Frag} {x qual : Str} {st : Stmt} {f : Addr} {fd : FuncData} {p1 p2 p3 : Str} (F : Fun K x qual st f fd)
    (h : ∀ (kV doc pm : Value) (an : Option Addr) (cdv ct : Value) (a b c : Value), bindArgs (PySem.W.fnOf x qual (defArgs st) (defBody st) (defScope st) .none kV doc pm an cdv ct) ⟨[a], [(p3, b), (p2, c)]⟩ = pure [(p1, a), (p2, c), (p3, b)]) :
    KBn K fd [p1, p2, p3] 1 [p3, p2] app2r app2r := by
  obtain ⟨oc, od, kV, doc, pm, an, cdv, ct, osl, rfl, lk, hcd⟩ := F.ex
  refine ⟨fun s us ws _ h1 h2 => ?_, fun a b => a.append (vals_rev b)⟩
  match us, ws, h1, h2 with
  | [a], [b, c], _, _ => exact .of_eq (h kV doc pm an cdv ct a b c)
theorem KindV.same {K : PySem.W.Frag} {H H' : Hp} {y : V} {T : String} (h : KindV K H y T) (e : Same H H') : KindV K H' y T := by
  cases h with
  | non => exact .non
  | int i => exact .int i
  | str z => exact .str z
  | lst h => exact .lst (e.seq h)
  | tup h => exact .tup (Same.tup e h)
  | dct h => exact .dct (e _ _ h)
end Mq

namespace Lw
open PySem PySem.Spec PyProof.Rows L2 Mq
open SX (S)
/-! ### equal programs -/
structure Pg (K : PySem.W.Frag) (C : Addr) (H : Hp) (r : Addr) (sg : List Nat) (na : Addr) (d : PyData) : Prop where
  at_ : PgAt H C r sg na
  tn : Tn K H (.ref na) d
  sh : SeqAt.shaped d = true
theorem Pg.same {K : PySem.W.Frag} {C : Addr} {H H' : Hp} {r na : Addr} {sg : List Nat} {d : PyData} (h : Pg K C H r sg na d) (e : Same H H') : Pg K C H' r sg na d := ⟨h.at_.same e, h.tn.same e, h.sh⟩
def spEqA (K : PySem.W.Frag) (C : Addr) : Sp := fun vs H Q _ => ∃ (a : Addr) (y : V) (sg : List Nat) (na : Addr) (d : PyData), vs = [.ref a, y] ∧ Pg K C H a sg na d ∧
  ((∃ b sg' na' d', y = .ref b ∧ Pg K C H b sg' na' d' ∧ ∀ H', Same H H' → Q (.bl (decide (sg = sg') && PyData.eqv d d')) H') ∨ (∃ T, KindV K H y T ∧ Q (.bl false) H))
theorem kind_ty {K : PySem.W.Frag} {H : Hp} {y : V} {T : String} (h : KindV K H y T) : TyX K H y (.type T) := by
  cases h with
  | non => exact .base .non
  | int i => exact .base (.int i)
  | str z => exact .base (.str z)
  | lst h => exact ty_list h
  | tup h => exact ty_tup h
  | dct h => exact .base (.dK h)
def spLen (K : PySem.W.Frag) (C : Addr) : Sp := fun vs H Q _ => ∃ (r na : Addr) (sg : List Nat) (xs : List V), vs = [.ref r] ∧ PgAt H C r sg na ∧ SqT K H na xs ∧ Q (.int (xs.length : Nat)) H
structure EqT (K : PySem.W.Frag) (mg : Str → Option Value) (C : Addr) : Prop where
  gC : mg "Program" = some (.ref C)
  ty : ∀ H a dx fs, H a = some (.ins C dx fs) → TyX K H (.ref a) (.ref C)
  kit : PySem.W.kitOne K (.ref C) (.ref C) = some true
  own : OwnEqK K C
section
variable {P : Program} {w : World} {K : PySem.W.Frag} {mg : Str → Option Value} {base : Heap} {C CT : Addr}
theorem ok_len {f : Addr} {fd : FuncData} (F : Fun K "__len__" "Program.__len__" s_Program___len__ f fd) (B : Blt mg) (R : PgC K C) : FnOk P w K mg base CX0 1 f fd ["self"] (spLen K C) := by
  refine F.ok sc_Program___len__ (fun vs H Q E h => ?_) (fun cdv A outer s H vs Q E hr h => ?_)
  · obtain ⟨_, _, _, _, rfl, _⟩ := h
    rfl
  · obtain ⟨r, na, sg, xs, rfl, ⟨dx, h1⟩, hz, q⟩ := h
    exact ⟨_, pss_one (ps_ret (pe_callB call_len (by rfl) B.len (by decide +kernel) (pa_cons (pe_fld (pv 0) rfl) pa_nil))), _, rfl, r, C, dx, _, _, rfl, h1, R.cls, R.nN, rfl, _, _, rfl, len_tup hz, q⟩
theorem ok_eq {f : Addr} {fd : FuncData} (F : Fun K "__eq__" "Program.__eq__" s_Program___eq__ f fd) (B : Blt mg) (R : PgC K C) (T : EqT K mg C) :
    FnOk P w K mg base CX0 3 f fd ["self", "other"] (spEqA K C) := by
  refine F.ok sc_Program___eq__ (fun vs H Q E h => ?_) (fun cdv A outer s H vs Q E hr h => ?_)
  · obtain ⟨_, _, _, _, _, rfl, _⟩ := h
    rfl
  · obtain ⟨a, y, sg, na, d, rfl, b1, h⟩ := h
    have hu : (A.deeper (envOfC "Program.__eq__" (defScope s_Program___eq__) s.heap.objs.size f cdv)).units + 64 < cLine := by
      have := hr.units
      omega
    refine ⟨_, (pss_one (ps_ret (pe_and (pe_callB call_isi (by rfl) B.isi (by decide +kernel) (pa_cons (pv 1) (pa_cons (pe_glob (v := .ref C) (by rfl) T.gC rfl) pa_nil))) (pe_and (pe_cmpR op_eq (pe_fld (pv 0) rfl) (pe_fld (pv 1) rfl) (nomark _)) (pe_one (pe_cmpR (op_eqD hu) (pe_fld (pv 0) rfl) (pe_fld (pv 1) rfl) (nomark _))))))), ?_⟩
    rcases h with ⟨b, sg', na', d', rfl, b2, q⟩ | ⟨T1, kd, q⟩
    · obtain ⟨⟨dx, h1⟩, t1, sh1⟩ := b1
      obtain ⟨⟨dx', h3⟩, t2, sh2⟩ := b2
      refine ⟨_, rfl, _, .ref C, .ref C, _, true, rfl, .own C, T.ty _ _ _ _ h3, T.kit, true, rfl, iteT ?_⟩
      refine ⟨_, rfl, a, C, dx, _, _, rfl, h1, R.cls, R.nL, rfl, _, rfl, b, C, dx', _, _, rfl, h3, R.cls, R.nL, rfl, rfl, _, rfl, ?_⟩
      rw [S_dec]
      have q0 := q H (Same.refl H)
      cases e1 : decide (sg = sg') with
      | false =>
        rw [e1] at q0
        exact ifF rfl q0
      | true =>
        rw [e1] at q0
        exact ifT rfl ⟨_, rfl, a, C, dx, _, _, rfl, h1, R.cls, R.nN, rfl, _, rfl, b, C, dx', _, _, rfl, h3, R.cls, R.nN, rfl, _, _, t1.dp, t2.dp, sh1, sh2, q0⟩
    · exact ⟨_, rfl, _, .ref C, .type T1, _, false, rfl, .own C, kind_ty kd, T.own.kits _ kd.mem, false, rfl, iteF q⟩
end
end Lw

namespace Lw
open PySem PySem.Spec PyProof.Rows L2 Mq
open SX (S)
theorem asc_set {lc : List Nat} {l' ys : List Str} (h1 : l'.Nodup) (h2 : ∀ k, k ∈ l' ↔ k ∈ lc.map fun c => S [c]) (hp : ys.Perm l') (hs : PyProof.Rows.sortedS ys = true) : decide ((lc.map fun c => S [c]) = ys) = ascB lc := by
  have hnd : ys.Nodup := hp.nodup_iff.mpr h1
  have hm : ∀ k, k ∈ ys ↔ k ∈ lc.map fun c => S [c] := fun k => (hp.mem_iff).trans (h2 k)
  by_cases ha : ascB lc = true
  · rw [ha]
    refine decide_eq_true ?_
    have ha := asc_pair.mp ha
    have hy : ys = (ys.map fun k => k.cps.toList.headD 0).map fun c => S [c] := by
      rw [List.map_map]
      refine (List.map_id' ys).symm.trans (List.map_congr_left fun k hk => ?_)
      obtain ⟨c, _, rfl⟩ := List.mem_map.mp ((hm k).mp hk)
      rfl
    generalize hq : (ys.map fun k => k.cps.toList.headD 0) = qs at hy
    rw [hy] at hs hnd hm ⊢
    have hqn : qs.Nodup := (List.pairwise_map.mp hnd).imp fun h3 h4 => h3 (by rw [h4])
    have hqp := sorted_pair hs hqn
    have hmm : ∀ c, c ∈ lc ↔ c ∈ qs := by
      intro c
      have e : ∀ l : List Nat, S [c] ∈ l.map (fun c => S [c]) ↔ c ∈ l := by
        intro l
        rw [List.mem_map]
        exact ⟨fun ⟨d, h3, h4⟩ => by rw [S_one.mp h4] at h3; exact h3, fun h3 => ⟨c, h3, rfl⟩⟩
      rw [← e lc, ← e qs, hm (S [c])]
    have hln : lc.Nodup := ha.imp fun h => Nat.ne_of_lt h
    have hpm : lc.Perm qs := (List.perm_ext_iff_of_nodup hln hqn).mpr hmm
    rw [perm_asc (r := fun a b => decide (a < b)) hpm (ha.imp fun h => decide_eq_false (by omega)) (hqp.imp fun h => decide_eq_true h)]
  · have ha' := Bool.eq_false_iff.mpr ha
    rw [ha']
    refine decide_eq_false fun e => ha ?_
    rw [← e] at hs hnd
    have hqn : lc.Nodup := (List.pairwise_map.mp hnd).imp fun h3 h4 => h3 (by rw [h4])
    exact asc_pair.mpr (sorted_pair hs hqn)
theorem in_alpha (c : Nat) : inB c alpha = (!decide (c < 97) && !decide (122 < c)) := by
  unfold inB
  rw [Bool.eq_iff_iff]
  simp only [decide_eq_true_eq, Bool.and_eq_true, Bool.not_eq_true', decide_eq_false_iff_not]
  unfold alpha
  rw [List.mem_range'_1]
  omega
def tOut : TT := fun σ H Q => ∃ c, σ[1]? = some (some (.str (S [c]))) ∧ Q (!inB c alpha) H
def spAre (K : PySem.W.Frag) : Sp := fun vs H Q _ => ∃ (v : V) (d : PyData) (w n : Nat), vs = [v] ∧ Dg K H v d ∧ OkD w n d ∧ w ≤ 4000 ∧ ∀ H', Same H H' → Q (.bl (lettersD d)) H'
section
variable {P : Program} {w : World} {K : PySem.W.Frag} {mg : Str → Option Value} {base : Heap}
theorem ok_are {f : Addr} {fd : FuncData} (F : Fun K "_law_are_letters" "_law_are_letters" s__law_are_letters f fd) (B : Blt mg) (bS : mg "sorted" = none) (bT : mg "set" = none) :
    FnOk P w K mg base CX0 1 f fd ["_law_thing"] (spAre K) := by
  refine F.ok sc__law_are_letters (fun vs H Q E h => ?_) (fun cdv A outer s H vs Q E hr h => ?_)
  · obtain ⟨_, _, _, _, rfl, _⟩ := h
    rfl
  · obtain ⟨v, d, wd, nd, rfl, hd, hok, hwd, q⟩ := h
    have hu : (A.deeper (envOfC "_law_are_letters" (defScope s__law_are_letters) s.heap.objs.size f cdv)).units + 64 < cLine := by
      have := hr.units
      omega
    refine ⟨_, (pss_cons (ps_if (PW.pt (pw_or (pt_not (pt_val (pe_callB call_isi (by rfl) B.isi (by decide +kernel) (pa_cons (pv 0) (pa_cons (pe_bltn (v := .ty "str") (by rfl) B.str (by decide +kernel) rfl) pa_nil))))) (pw_or (pt_cmpR op_eq (pv 0) pe_str (nomark _)) (pw_or1 (pt_cmpR (op_neD hu) (pe_lc (own := [("_law_sign", 1)]) (g := gName 1) rfl sc__law_are_letters.nd (pi_str (pv 0)) (blkOk_by (own := [("_law_sign", 1)]) (N := ["_law_thing", "_law_sign"]) (sc := defScope s__law_are_letters) (by decide +kernel)) (fun _ _ _ _ _ => pg_name (i := 1) sc__law_are_letters.nd rfl (Or.inl rfl))
        (fun _ _ _ _ _ => pts_one (PT_imp (t' := tOut) (pt_not (pt_chain op_le_str op_le_str pe_str (pv 1) pe_str)) (fun σ H Q h => by
          obtain ⟨c, h1, q⟩ := h
          rw [in_alpha] at q
          refine ⟨_, h1, S [97], S [c], rfl, rfl, _, rfl, ?_⟩
          rw [lt_sign]
          cases e : decide (c < 97) with
          | true =>
            rw [e] at q
            exact ifF rfl ⟨_, rfl, q⟩
          | false =>
            rw [e] at q
            refine ifT rfl ⟨S [c], S [122], rfl, rfl, ?_⟩
            rw [lt_sign]
            exact ⟨_, rfl, q⟩))) (fun _ _ _ _ _ => (pv 1))) (Mq.pe_ls pa_nil) (nomark _)))))) (pss_one (ps_ret pe_bl)) pss_nil)
      (pss_one (ps_ret (pe_cmpR (op_eqD hu) (pe_callTy (call_listTx rfl) (by rfl) B.list (by decide +kernel) (pa_cons (pv 0) pa_nil)) (pe_callB (cr_sortTx rfl) (by rfl) bS (by decide +kernel) (pa_cons (pe_callTy (cr_setTx rfl) (by rfl) bT (by decide +kernel) (pa_cons (pv 0) pa_nil)) pa_nil)) (nomark _))))), ?_⟩
    rcases dg_str hd with ⟨l, rfl, rfl⟩ | ⟨⟨a, t, m, n⟩, nx⟩
    rotate_left
    · rw [lettersD_no nx] at q
      exact ⟨_, rfl, _, .ty "str", _, _, false, rfl, .ty _, t, kit_no m n, false, rfl, ifT rfl (ifT rfl (q H (Same.refl H)))⟩
    have hl : l.length ≤ 4000 := Nat.le_trans hok.text.1 hwd
    have hlow : LowL l := hok.text.2
    have q : ∀ H', Same H H' → Q (.bl (lettersB l)) H' := q
    have hlz : (S l).length ≤ sizeLine := sz_le (by rw [SX.S_len]; omega)
    refine ⟨_, rfl, _, .ty "str", _, _, true, rfl, .ty _, .base (.str _), kit_self, true, rfl, ifF rfl ⟨_, rfl, rfl, _, rfl, ?_⟩⟩
    rw [str_is_nil]
    unfold lettersB at q
    cases e0 : decide (l = []) with
    | true =>
      rw [e0] at q
      exact ifT rfl (q H (Same.refl H))
    | false =>
      rw [e0] at q
      refine ifF rfl ⟨_, rfl, S l, rfl, fun L hL => ?_⟩
      refine lc_it (walk_S l) (fun i H' => Same H H' ∧ H' L = some (.lst ((((List.range i).filter fun k => !inB (l.getD k 0) alpha)).map fun k => .str (S [l.getD k 0])))) ⟨same_new hL, upd_same⟩ (fun _ _ _ _ => trivial) ?_ ?_
      · rintro i x H2 H3 hi ⟨s2, hL2⟩ ⟨rfl, rfl⟩
        refine ⟨rfl, l.getD i 0, rfl, ?_⟩
        have er : ((List.range (i + 1)).filter fun k => !inB (l.getD k 0) alpha) = ((List.range i).filter fun k => !inB (l.getD k 0) alpha) ++ (if (!inB (l.getD i 0) alpha) = true then [i] else []) := by
          rw [List.range_succ, List.filter_append]
          congr 1
          by_cases hb : (!inB (l.getD i 0) alpha) = true
          · rw [if_pos hb]
            show List.filter _ [i] = [i]
            rw [List.filter_cons, if_pos hb]
            rfl
          · rw [if_neg hb, List.filter_cons, if_neg hb]
            rfl
        have hlen : ((List.range i).filter fun k => !inB (l.getD k 0) alpha).length ≤ i := by
          have := List.length_filter_le (fun k => !inB (l.getD k 0) alpha) (List.range i)
          rw [List.length_range] at this
          exact this
        by_cases hb : (!inB (l.getD i 0) alpha) = true
        · rw [if_pos hb] at er
          refine ifT hb ?_
          refine ⟨_, rfl, _, hL2, sz_lt (by rw [List.length_map]; omega), push_same hL s2, ?_⟩
          rw [upd_same, er, List.map_append]
          rfl
        · rw [if_neg hb, List.append_nil] at er
          refine ifF (Bool.eq_false_iff.mpr hb) ?_
          refine ⟨s2, ?_⟩
          rw [er]
          exact hL2
      · rintro H2 ⟨s2, hL2⟩
        refine ⟨sz_le (n := 0) (by decide), fun p hp _ => ?_⟩
        have sp := same_new (o := HO.lst []) hp
        refine ⟨_, _, .lst (SqL.of (sp _ _ hL2)) (dp_signs (fun k => S [l.getD k 0]) _), .lst (SqL.of upd_same) .nil, shaped_signs _ _ ?_, by decide +kernel, ?_⟩
        · intro k hk
          have hk' := List.mem_range.mp (List.mem_filter.mp hk).1
          exact sign_ok (Nat.lt_trans (hlow _ (getD_mem hk')) (by decide))
        rw [eqv_nil]
        have eAll : (((List.range l.length).filter fun k => !inB (l.getD k 0) alpha)).isEmpty = allB l alpha := (all_filter l.length fun k => inB (l.getD k 0) alpha).symm
        rw [eAll]
        have s3 : Same H (upd H2 p (.lst [])) := s2.trans sp
        generalize upd H2 p (.lst []) = H3 at s3 ⊢
        cases e1 : allB l alpha with
        | false =>
          rw [e1, Bool.and_false, Bool.and_false] at q
          exact ⟨_, rfl, ifT rfl (q H3 s3)⟩
        | true =>
          rw [e1, Bool.and_true] at q
          have hal : ∀ c ∈ l, c ∈ alpha := fun c hc => by
            obtain ⟨i, hi, rfl⟩ := List.mem_iff_getElem.mp hc
            unfold allB at e1
            rw [List.all_map, List.all_eq_true] at e1
            have h4 := e1 i (List.mem_range.mpr hi)
            have h5 : l.getD i 0 ∈ alpha := of_decide_eq_true h4
            rw [List.getD_eq_getElem?_getD, List.getElem?_eq_getElem hi] at h5
            exact h5
          refine ⟨_, rfl, ifF rfl ⟨_, rfl, S l, rfl, hlz, fun pl hpl _ => ?_⟩⟩
          have sl := same_new (o := HO.lst ((S l).cps.toList.map fun c => V.str ⟨#[c]⟩)) hpl
          have s4 := s3.trans sl
          have hpl4 : upd H3 pl (.lst ((S l).cps.toList.map fun c => V.str ⟨#[c]⟩)) pl = some (.lst ((l.map fun c => S [c]).map V.str)) := by
            rw [upd_same, List.map_map]
            rfl
          generalize upd H3 pl (.lst ((S l).cps.toList.map fun c => V.str ⟨#[c]⟩)) = H4 at s4 hpl4 ⊢
          refine ⟨_, rfl, S l, rfl, ?_, fun ps l' hps hnd hls hms => ?_⟩
          · show (S l).length + 1 < 4096
            rw [SX.S_len]
            omega
          have s5 := s4.trans (same_new (o := TxO P w ps l') hps)
          have hpl5 := same_new (o := TxO P w ps l') hps _ _ hpl4
          have hms2 : ∀ k, k ∈ l' ↔ k ∈ l.map fun c => S [c] := hms
          have hls2 : l'.length ≤ 26 := by
            have := few_of (m := alpha.map fun c => S [c]) hnd fun k hk => by
              obtain ⟨c, hc, rfl⟩ := List.mem_map.mp ((hms2 k).mp hk)
              exact List.mem_map.mpr ⟨c, hal c hc, rfl⟩
            rw [List.length_map] at this
            exact this
          refine ⟨ps, l', rfl, upd_same, by omega, fun ys p6 hys hso hp6 => ?_⟩
          have s6 := s5.trans (same_new (o := HO.lst (ys.map V.str)) hp6)
          have hpl6 := same_new (o := HO.lst (ys.map V.str)) hp6 _ _ hpl5
          have hysm : ∀ k ∈ ys, k ∈ l.map fun c => S [c] := fun k hk => (hms2 k).mp (hys.mem_iff.mp hk)
          have lay : ∀ y ∈ l.map (fun c => S [c]), (PyData.str y).canLay0 = true := by
            intro y hy
            obtain ⟨c, hc, rfl⟩ := List.mem_map.mp hy
            exact sign_ok (Nat.lt_trans (hlow c hc) (by decide))
          refine ⟨_, _, .lst (SqL.of hpl6) (dp_strs _), .lst (SqL.of upd_same) (dp_strs ys), shaped_strs lay, shaped_strs (fun y hy => lay y (hysm y hy)), ?_⟩
          rw [eqv_strs, asc_set hnd hms hys hso]
          exact q _ s6
end
end Lw

namespace Lw
open PySem PySem.Spec PyProof.Rows L2 Mq
open SX (S)
section
variable {P : Program} {w : World} {K : PySem.W.Frag} {mg : Str → Option Value} {base : Heap}
theorem ok_law_below {f : Addr} {fd : FuncData} (F : Fun K "_law_is_below" "_law_is_below" s__law_is_below f fd) (B : Blt mg) :
    FnOk P w K mg base CX0 1 f fd ["_law_thing", "_law_many"] (spBelowA K) := by
  refine F.ok sc__law_is_below (fun vs H Q E h => ?_) (fun cdv A outer s H vs Q E hr h => ?_)
  · obtain ⟨v, d, m, rfl, _⟩ := h
    rfl
  · obtain ⟨v, d, m, rfl, hd, q⟩ := h
    refine ⟨_, pss_one (ps_ret (pe_and (pe_callB call_isi (by rfl) B.isi (by decide +kernel) (pa_cons (pv 0) (pa_cons (pe_bltn (v := .ty "int") (by rfl) B.int (by decide +kernel) rfl) pa_nil))) (pe_and (pe_not (pe_callB call_isi (by rfl) B.isi (by decide +kernel) (pa_cons (pv 0) (pa_cons (pe_bltn (v := .ty "bool") (by rfl) B.bool (by decide +kernel) rfl) pa_nil)))) (pe_one (pe_chain op_le op_lt pe_int (pv 0) (pv 1)))))), ?_⟩
    rcases dg_int hd with ⟨i, rfl, rfl⟩ | ⟨b, rfl, rfl⟩ | ⟨⟨a, t, k⟩, nx⟩
    · have q : Q (.bl (decide (0 ≤ i) && decide (i < (m : Int)))) H := q
      refine ⟨.int i, rfl, .int i, .ty "int", _, _, true, rfl, .ty _, .base (.int _), kit_ty (by decide +kernel), true, rfl, iteT ⟨.int i, rfl, .int i, .ty "bool", _, _, false, rfl, .ty _, .base (.int _), kit_ty (by decide +kernel), false, rfl, true, rfl, iteT ⟨_, rfl, 0, i, rfl, rfl, _, rfl, ?_⟩⟩⟩
      cases e0 : decide (0 ≤ i) with
      | false =>
        rw [e0] at q
        exact iteF q
      | true =>
        rw [e0] at q
        exact iteT ⟨_, rfl, i, _, rfl, rfl, q⟩
    · exact ⟨.bl b, rfl, .bl b, .ty "int", _, _, true, rfl, .ty _, .base (.bl _), kit_ty (by decide +kernel), true, rfl, iteT ⟨.bl b, rfl, .bl b, .ty "bool", _, _, true, rfl, .ty _, .base (.bl _), kit_ty (by decide +kernel), true, rfl, false, rfl, iteF q⟩⟩
    · refine ⟨_, rfl, _, .ty "int", _, _, false, rfl, .ty _, t, k, false, rfl, iteF ?_⟩
      rw [nx m] at q
      exact q
end
end Lw

namespace Lw
open PySem PySem.Spec PyProof.Rows L2 Mq
open SX (S)
def spLawDeed (K : PySem.W.Frag) : Sp := fun vs H Q _ => ∃ (sg : List Nat) (v : V) (d : PyData) (m : Nat), vs = [.str (S sg), .int (m : Nat), v] ∧ Dg K H v d ∧ d.weight ≤ 60000 ∧ sg.length ≤ 60000 ∧ ∀ H', Same H H' → Q (.bl (deedD sg m d)) H'
section
variable {P : Program} {w : World} {K : PySem.W.Frag} {mg : Str → Option Value} {base : Heap}
theorem ok_law_deed {f fB : Addr} {fd fdB : FuncData} (F : Fun K "_law_is_deed" "_law_is_deed" s__law_is_deed f fd) (B : Blt mg)
    (FB : Fun K "_law_is_below" "_law_is_below" s__law_is_below fB fdB) (gB : mg "_law_is_below" = some (.ref fB)) (bB : Binds K fdB ["_law_thing", "_law_many"] []) :
    FnOk P w K mg base CX0 2 f fd ["_law_letters_a", "_law_size", "_law_thing"] (spLawDeed K) := by
  have GB : FnOk P w K mg base CX0 1 fB fdB ["_law_thing", "_law_many"] (spBelowA K) := ok_law_below FB B
  refine F.ok sc__law_is_deed (fun vs H Q E h => ?_) (fun cdv A outer s H vs Q E hr h => ?_)
  · obtain ⟨_, _, _, _, rfl, _⟩ := h
    rfl
  · obtain ⟨sg, v, d, m, rfl, hd, hw, hsl, q⟩ := h
    have hu0 : (A.deeper (envOfC "_law_is_deed" (defScope s__law_is_deed) s.heap.objs.size f cdv)).units < cLine := by
      have := hr.units
      omega
    refine ⟨_, (pss_cons (ps_if (PW.pt (pw_or (pt_not (pt_val (pe_callB call_isi (by rfl) B.isi (by decide +kernel) (pa_cons (pv 2) (pa_cons (pe_bltn (v := .ty "tuple") (by rfl) B.tuple (by decide +kernel) rfl) pa_nil))))) (pw_or (pt_cmpR (op_eqTup0 hu0) (pv 2) (pe_tup pa_nil) (nomark _)) (pw_or1 (pt_not (pt_val (pe_callB call_isi (by rfl) B.isi (by decide +kernel) (pa_cons (pe_ix ix_tup (pv 2) pe_int (fun _ _ => rfl)) (pa_cons (pe_bltn (v := .ty "str") (by rfl) B.str (by decide +kernel) rfl) pa_nil))))))))) (pss_one (ps_ret pe_bl)) pss_nil)
      (pss_cons (ps_if (pt_cmpR op_eq (pe_ix ix_tup (pv 2) pe_int (fun _ _ => rfl)) pe_str (nomark _)) (pss_one (ps_ret (pe_cmpR op_eq (pe_callB call_len (by rfl) B.len (by decide +kernel) (pa_cons (pv 2) pa_nil)) pe_int (nomark _)))) pss_nil)
      (pss_cons (ps_if (pt_cmpR op_eq (pe_ix ix_tup (pv 2) pe_int (fun _ _ => rfl)) pe_str (nomark _)) (pss_cons (ps_if (PW.pt (pw_or (pt_cmpR op_ne (pe_callB call_len (by rfl) B.len (by decide +kernel) (pa_cons (pv 2) pa_nil)) pe_int (nomark _)) (pw_or (pt_not (pt_val (pe_callB call_isi (by rfl) B.isi (by decide +kernel) (pa_cons (pe_ix ix_tup (pv 2) pe_int (fun _ _ => rfl)) (pa_cons (pe_bltn (v := .ty "tuple") (by rfl) B.tuple (by decide +kernel) rfl) pa_nil))))) (pw_or1 (pt_cmpR op_ne (pe_callB call_len (by rfl) B.len (by decide +kernel) (pa_cons (pe_ix ix_tup (pv 2) pe_int (fun _ _ => rfl)) pa_nil)) (pe_op op_add pe_int (pe_callB call_len (by rfl) B.len (by decide +kernel) (pa_cons (pv 0) pa_nil))) (nomark _)))))) (pss_one (ps_ret pe_bl)) pss_nil)
        (pss_one (ps_ret (pe_cmpR (op_eqNil hu0) (pe_lc (own := [("_law_place_here", 3)]) (g := gName 3) rfl sc__law_is_deed.nd (pi_tup (pe_ix ix_tup (pv 2) pe_int (fun _ _ => rfl))) (blkOk_by (own := [("_law_place_here", 3)]) (N := ["_law_letters_a", "_law_size", "_law_thing", "_law_place_here"]) (sc := defScope s__law_is_deed) (by decide +kernel)) (fun _ _ _ _ _ => pg_name (i := 3) sc__law_is_deed.nd rfl (Or.inl rfl)) (fun _ _ _ _ _ => pts_one (pt_not (pt_val (pe_call GB (hr.mono (by decide)) (by rfl) gB FB.kp bB .nil pass0 (pa_cons (pv 3) (pa_cons (pv 1) pa_nil)))))) (fun _ _ _ _ _ => (pv 3))) (Mq.pe_ls pa_nil) (nomark _))))) pss_nil)
      (pss_cons (ps_if (PW.pt (pw_or (pt_cmpR op_ne (pe_ix ix_tup (pv 2) pe_int (fun _ _ => rfl)) pe_str (nomark _)) (pw_or (pt_cmpR op_ne (pe_callB call_len (by rfl) B.len (by decide +kernel) (pa_cons (pv 2) pa_nil)) pe_int (nomark _)) (pw_or (pt_not (pt_val (pe_callB call_isi (by rfl) B.isi (by decide +kernel) (pa_cons (pe_ix ix_tup (pv 2) pe_int (fun _ _ => rfl)) (pa_cons (pe_bltn (v := .ty "str") (by rfl) B.str (by decide +kernel) rfl) pa_nil))))) (pw_or1 (pt_cmpR op_ne (pe_callB call_len (by rfl) B.len (by decide +kernel) (pa_cons (pe_ix ix_tup (pv 2) pe_int (fun _ _ => rfl)) pa_nil)) pe_int (nomark _))))))) (pss_one (ps_ret pe_bl)) pss_nil)
      (pss_one (ps_ret (pe_and (pe_cmpR op_in_sign (pe_ix ix_tup (pv 2) pe_int (fun _ _ => rfl)) (pv 0) rfl) (pe_one (pe_call GB (hr.mono (by decide)) (by rfl) gB FB.kp bB .nil pass0 (pa_cons (pe_ix ix_tup (pv 2) pe_int (fun _ _ => rfl)) (pa_cons (pv 1) pa_nil))))))))))), ?_⟩
    rcases dg_tup hd with ⟨p, xs, ds, rfl, rfl, hp, ha⟩ | ⟨⟨a, t, m', n'⟩, nx⟩
    rotate_left
    · rw [deedD_no nx] at q
      exact ⟨_, rfl, _, .ty "tuple", _, _, false, rfl, .ty _, t, kit_noT m' n', false, rfl, iteT (ifT rfl (q H (Same.refl H)))⟩
    have q : ∀ H', Same H H' → Q (.bl (deedB sg m ds)) H' := q
    have hwd : PyData.weightAll ds ≤ 60000 := hw
    refine ⟨_, rfl, _, .ty "tuple", _, _, true, rfl, .ty _, ty_tup hp, kit_ty (by decide +kernel), true, rfl, iteF ⟨_, rfl, sz_le (n := 0) (by decide), fun p0 hp0 => ?_⟩⟩
    have s1 := same_new (o := HO.tup []) hp0
    refine ⟨p, p0, xs, rfl, rfl, Same.tup s1 hp, Or.inl (Or.inl upd_same), _, rfl, ?_⟩
    generalize upd H p0 (.tup []) = H1 at s1 ⊢
    have hp1 := Same.tup s1 hp
    have ha1 := ha.same s1
    have q1 : ∀ H', Same H1 H' → Q (.bl (deedB sg m ds)) H' := fun H' s => q H' (s1.trans s)
    clear q hp ha hp0
    have hl := ha1.len
    have hlx : ds.length ≤ 60000 := Nat.le_trans (weight_len ds) hwd
    cases ha1 with
    | nil => exact ifT rfl (ifT rfl (q1 H1 (Same.refl H1)))
    | @cons v0 xs d0 ds h1 hr1 =>
      have ha1 : DgAll K H1 (v0 :: xs) (d0 :: ds) := .cons h1 hr1
      refine ifF rfl ⟨_, rfl, p, _, 0, v0, rfl, rfl, hp1, atI_nat (j := 0) rfl, v0, .ty "str", ?_⟩
      rcases dg_str h1 with ⟨x0, rfl, rfl⟩ | ⟨⟨a, t, m', n'⟩, nx⟩
      rotate_left
      · have e : headD (d0 :: ds) = none := by
          cases d0 with
          | str x => exact (nx x rfl).elim
          | _ => rfl
        refine ⟨_, _, false, rfl, .ty _, t, kit_no m' n', false, rfl, ifT rfl ?_⟩
        unfold deedB at q1
        rw [e] at q1
        exact q1 H1 (Same.refl H1)
      refine ⟨_, _, true, rfl, .ty _, .base (.str _), kit_self, true, rfl, ifF rfl ?_⟩
      have eL : ∀ k : Nat, decide (V.int ((V.str (S x0) :: xs).length : Nat) = V.int (k : Nat)) = decide ((PyData.str (S x0) :: ds).length = k) := fun k => by
        rw [dec_int, hl]
        exact decide_eq_decide.mpr ⟨fun h => by omega, fun h => by omega⟩
      have a0 : atI (V.str (S x0) :: xs) 0 = some (.str (S x0)) := atI_nat (j := 0) rfl
      unfold deedB at q1
      dsimp only [headD] at q1
      rw [lay_is, look_is, stop_is, S_decS, S_decS, S_decS] at q1
      have aj : ∀ {j : Nat} (hj : j < (V.str (S x0) :: xs).length), atI (V.str (S x0) :: xs) (j : Nat) = some (V.str (S x0) :: xs)[j] := fun hj => atI_nat (List.getElem?_eq_getElem hj)
      have hwj : ∀ j, ((PyData.str (S x0) :: ds).getD j .none).weight ≤ 60010 := fun j => Nat.le_trans (weight_at (ds := PyData.str (S x0) :: ds) (i := j)) (by omega)
      refine ⟨_, rfl, p, _, 0, _, rfl, rfl, hp1, a0, rfl, _, rfl, ?_⟩
      rw [show decide (V.str (S x0) = V.str "stop") = decide (x0 = stopL) from S_dec x0 stopL]
      cases e1 : decide (x0 = stopL) with
      | true =>
        have ex : x0 = stopL := of_decide_eq_true e1
        rw [e1, ex, decide_eq_false (show stopL ≠ layL by decide), if_neg (by decide), decide_eq_false (show stopL ≠ lookL by decide), if_neg (by decide), Bool.true_and, ← ex] at q1
        refine ifT rfl ⟨_, rfl, _, _, rfl, len_tup hp1, rfl, ?_⟩
        rw [show decide (V.int ((V.str (S x0) :: xs).length : Nat) = V.int 1) = decide ((PyData.str (S x0) :: ds).length = 1) from eL 1]
        exact q1 H1 (Same.refl H1)
      | false =>
      rw [e1, Bool.false_and] at q1
      refine ifF rfl ⟨_, rfl, p, _, 0, _, rfl, rfl, hp1, a0, rfl, _, rfl, ?_⟩
      rw [show decide (V.str (S x0) = V.str "look") = decide (x0 = lookL) from S_dec x0 lookL]
      cases e2 : decide (x0 = lookL) with
      | true =>
        have ex : x0 = lookL := of_decide_eq_true e2
        rw [e2, decide_eq_false (show x0 ≠ layL by rw [ex]; decide), if_neg (by decide), if_pos rfl] at q1
        refine ifT rfl ⟨_, rfl, _, _, rfl, len_tup hp1, rfl, _, rfl, ?_⟩
        rw [show decide (V.int ((V.str (S x0) :: xs).length : Nat) = V.int 2) = decide ((PyData.str (S x0) :: ds).length = 2) from eL 2]
        cases e3 : decide ((PyData.str (S x0) :: ds).length = 2) with
        | false =>
          rw [e3, Bool.false_and] at q1
          exact ifT rfl (ifT rfl (q1 H1 (Same.refl H1)))
        | true =>
          rw [e3, Bool.true_and] at q1
          have h2 : 1 < (V.str (S x0) :: xs).length := by
            have := of_decide_eq_true e3
            omega
          have g1 := dgall_at ha1 h2
          have w1 := hwj 1
          have a1 := aj h2
          generalize (V.str (S x0) :: xs)[1] = v1 at g1 a1
          generalize (PyData.str (S x0) :: ds).getD 1 .none = d1 at g1 w1 q1
          refine ifF rfl ⟨_, rfl, p, _, 1, _, rfl, rfl, hp1, a1, v1, .ty "tuple", ?_⟩
          rcases dg_tup g1 with ⟨p1, ys, es, rfl, rfl, hp2, hys⟩ | ⟨⟨a, t, m', n'⟩, nx⟩
          rotate_left
          · rw [placesD_no nx] at q1
            exact ⟨_, _, false, rfl, .ty _, t, kit_noT m' n', false, rfl, iteT (ifT rfl (q1 H1 (Same.refl H1)))⟩
          have q1 : ∀ H', Same H1 H' → Q (.bl (decide (es.length = sg.length + 1) && allBelow m es)) H' := q1
          have hyl := hys.len
          have hel : es.length ≤ 60010 := Nat.le_trans (weight_len es) w1
          refine ⟨_, _, true, rfl, .ty _, ty_tup hp2, kit_ty (by decide +kernel), true, rfl, iteF ⟨_, rfl, p, _, 1, _, rfl, rfl, hp1, a1, _, _, rfl, len_tup hp2, _, rfl, _, _, rfl, len_S (by omega), _, _, rfl, rfl, rfl, _, rfl, ?_⟩⟩
          have e4 : decide (V.int (ys.length : Nat) = V.int (1 + (sg.length : Nat))) = decide (es.length = sg.length + 1) := by
            rw [dec_int, hyl]
            exact decide_eq_decide.mpr ⟨fun h => by omega, fun h => by omega⟩
          rw [e4]
          cases e5 : decide (es.length = sg.length + 1) with
          | false =>
            rw [e5, Bool.false_and] at q1
            exact ifT rfl (q1 H1 (Same.refl H1))
          | true =>
            rw [e5, Bool.true_and] at q1
            refine ifF rfl ⟨_, rfl, p, _, 1, _, rfl, rfl, hp1, a1, p1, rfl, ⟨_, hp2⟩, fun D hD => ?_⟩
            refine lc_it (walk_tup (K := K) (a := p1) (xs := ys)) (fun i H' => Same H1 H' ∧ H' D = some (.lst (((List.range i).filter fun k => !belowD m (es.getD k .none)).map fun k => ys.getD k .non))) ⟨same_new hD, upd_same⟩ (fun _ _ _ pp => Same.tup pp.1 hp2) ?_ ?_
            · rintro i x H2 H3 hi ⟨s2, hL2⟩ ⟨rfl, hx⟩
              have hi2 : i < ys.length := hi
              have hx2 : x = ys[i] := by
                have h1 : ys[i]? = some x := hx
                rw [List.getElem?_eq_getElem hi2] at h1
                exact (Option.some.inj h1).symm
              have hg : Dg K H3 x (es.getD i .none) := by
                rw [hx2]
                exact (dgall_at hys hi2).same s2
              refine ⟨rfl, _, rfl, _, rfl, x, _, m, rfl, hg, _, rfl, ?_⟩
              have er : ((List.range (i + 1)).filter fun k => !belowD m (es.getD k .none)) = ((List.range i).filter fun k => !belowD m (es.getD k .none)) ++ (if (!belowD m (es.getD i .none)) = true then [i] else []) := by
                rw [List.range_succ, List.filter_append]
                congr 1
                by_cases hb : (!belowD m (es.getD i .none)) = true
                · rw [if_pos hb]
                  show List.filter _ [i] = [i]
                  rw [List.filter_cons, if_pos hb]
                  rfl
                · rw [if_neg hb, List.filter_cons, if_neg hb]
                  rfl
              have hlen : ((List.range i).filter fun k => !belowD m (es.getD k .none)).length ≤ i := by
                have := List.length_filter_le (fun k => !belowD m (es.getD k .none)) (List.range i)
                rw [List.length_range] at this
                exact this
              by_cases hb : (!belowD m (es.getD i .none)) = true
              · rw [if_pos hb] at er
                refine ifT hb ?_
                refine ⟨_, rfl, _, hL2, sz_lt (by rw [List.length_map]; omega), push_same hD s2, ?_⟩
                rw [upd_same, er, List.map_append, hx2]
                show some (HO.lst (_ ++ [ys[i]])) = some (HO.lst (_ ++ [ys.getD i .non]))
                rw [List.getD_eq_getElem?_getD, List.getElem?_eq_getElem hi2]
                rfl
              · rw [if_neg hb, List.append_nil] at er
                refine ifF (Bool.eq_false_iff.mpr hb) ⟨s2, ?_⟩
                rw [er]
                exact hL2
            · rintro H2 ⟨s2, hL2⟩
              refine ⟨sz_le (n := 0) (by decide), fun p3 hp3 _ => ?_⟩
              have sp := same_new (o := HO.lst []) hp3
              refine ⟨D, p3, _, rfl, rfl, SqL.of (sp _ _ hL2), SqL.of upd_same, ?_⟩
              have eA : ((((List.range ys.length).filter fun k => !belowD m (es.getD k .none)).map fun k => ys.getD k .non)).isEmpty = allBelow m es := by
                rw [List.isEmpty_map, hyl]
                exact (all_filter es.length fun k => belowD m (es.getD k .none)).symm
              rw [eA]
              exact q1 _ (s2.trans sp)
      | false =>
      rw [e2, if_neg (show ¬(false = true) by decide)] at q1
      refine ifF rfl ⟨_, rfl, p, _, 0, _, rfl, rfl, hp1, a0, rfl, _, rfl, ?_⟩
      rw [show decide (V.str (S x0) = V.str "lay") = decide (x0 = layL) from S_dec x0 layL]
      cases e3 : decide (x0 = layL) with
      | false =>
        rw [e3, if_neg (by decide)] at q1
        exact ifT rfl (ifT rfl (q1 H1 (Same.refl H1)))
      | true =>
        rw [e3, if_pos rfl] at q1
        refine ifF rfl ⟨_, rfl, _, _, rfl, len_tup hp1, rfl, _, rfl, ?_⟩
        rw [show decide (V.int ((V.str (S x0) :: xs).length : Nat) = V.int 3) = decide ((PyData.str (S x0) :: ds).length = 3) from eL 3]
        cases e4 : decide ((PyData.str (S x0) :: ds).length = 3) with
        | false =>
          rw [e4, Bool.false_and] at q1
          exact ifT rfl (ifT rfl (q1 H1 (Same.refl H1)))
        | true =>
          rw [e4, Bool.true_and] at q1
          have h2 : 1 < (V.str (S x0) :: xs).length := by
            have := of_decide_eq_true e4
            omega
          have h3 : 2 < (V.str (S x0) :: xs).length := by
            have := of_decide_eq_true e4
            omega
          have g1 := dgall_at ha1 h2
          have w1 := hwj 1
          have a1 := aj h2
          have g2 := dgall_at ha1 h3
          have a2 := aj h3
          generalize (V.str (S x0) :: xs)[1] = v1 at g1 a1
          generalize (PyData.str (S x0) :: ds).getD 1 .none = d1 at g1 w1 q1
          generalize (V.str (S x0) :: xs)[2] = v2 at g2 a2
          generalize (PyData.str (S x0) :: ds).getD 2 .none = d2 at g2 q1
          refine ifF rfl ⟨_, rfl, p, _, 1, _, rfl, rfl, hp1, a1, v1, .ty "str", ?_⟩
          rcases dg_str g1 with ⟨z, rfl, rfl⟩ | ⟨⟨a, t, m', n'⟩, nx⟩
          rotate_left
          · rw [letD_no nx, Bool.false_and] at q1
            exact ⟨_, _, false, rfl, .ty _, t, kit_no m' n', false, rfl, iteT (ifT rfl (q1 H1 (Same.refl H1)))⟩
          have hz : z.length ≤ 60010 := w1
          have q1 : ∀ H', Same H1 H' → Q (.bl (letB sg z && belowD m d2)) H' := q1
          refine ⟨_, _, true, rfl, .ty _, .base (.str _), kit_self, true, rfl, iteF ⟨_, rfl, p, _, 1, _, rfl, rfl, hp1, a1, _, _, rfl, len_S (by omega), rfl, _, rfl, ?_⟩⟩
          clear g1 w1
          match z, q1, a1 with
          | [], q1, _ => exact ifT rfl (q1 H1 (Same.refl H1))
          | a :: b :: r, q1, _ =>
            refine ifT ?_ (q1 H1 (Same.refl H1))
            rw [Bool.not_eq_true']
            refine decide_eq_false fun e => ?_
            have e1 := V.int.inj e
            have e2 : ((a :: b :: r).length : Int) = 1 := e1
            rw [List.length_cons, List.length_cons] at e2
            omega
          | [c], q1, a1 =>
            refine ifF rfl ⟨_, rfl, p, _, 1, _, rfl, rfl, hp1, a1, _, rfl, c, S sg, rfl, rfl, letB sg [c], rfl, ?_⟩
            cases e6 : letB sg [c] with
            | false =>
              rw [e6, Bool.false_and] at q1
              exact iteF (q1 H1 (Same.refl H1))
            | true =>
              rw [e6, Bool.true_and] at q1
              exact iteT ⟨_, rfl, p, _, 2, _, rfl, rfl, hp1, a2, _, rfl, v2, d2, m, rfl, g2, q1 H1 (Same.refl H1)⟩
end
end Lw

namespace Lw
open PySem PySem.Spec PyProof.Rows L2 Mq
open SX (S)
/-! ### what is due, by the law -/
theorem call_lenK {X : Cx} {K : PySem.W.Frag} (h : X.K = K) : CallR X (.builtin "len") (fun xs H Q => ∃ x n, xs = [x] ∧ LenV K x H n ∧ Q (V.int (n : Nat)) H) := by
  subst h
  exact call_len
/-- the first number noted is the first that is wrong -/
def Noted (p : PyData → Bool) (ds : List PyData) (i : Nat) : List Nat → Prop
  | [] => firstBad p (ds.drop i) i = firstBad p ds 0
  | k :: _ => firstBad p ds 0 = some k
theorem Noted.bad {p : PyData → Bool} {ds : List PyData} {i : Nat} {d : PyData} {acc : List Nat} (h : Noted p ds i acc) (hd : ds[i]? = some d) (hb : p d = false) : Noted p ds (i + 1) (acc ++ [i]) := by
  cases acc with
  | nil =>
    have h : firstBad p (ds.drop i) i = firstBad p ds 0 := h
    rw [first_step hd, hb, if_neg (by decide)] at h
    exact h.symm
  | cons k ks => exact h
theorem Noted.good {p : PyData → Bool} {ds : List PyData} {i : Nat} {d : PyData} {acc : List Nat} (h : Noted p ds i acc) (hd : ds[i]? = some d) (hb : p d = true) : Noted p ds (i + 1) acc := by
  cases acc with
  | nil =>
    have h : firstBad p (ds.drop i) i = firstBad p ds 0 := h
    rw [first_step hd, hb, if_pos rfl] at h
    exact h
  | cons k ks => exact h
def tFew (K : PySem.W.Frag) : TT := fun σ H Q => ∃ (a : Addr) (xs : List V), σ[1]? = some (some (.ref a)) ∧ SqT K H a xs ∧ Q (xs.isEmpty || decide (999 < xs.length)) H
def spFault (K : PySem.W.Frag) : Sp := fun vs H Q _ => ∃ (v1 v2 : V) (d1 d2 : PyData) (w n : Nat), vs = [v1, v2] ∧ Dg K H v1 d1 ∧ Dg K H v2 d2 ∧ OkD w n d1 ∧ d2.weight ≤ 60000 ∧ w ≤ 4000 ∧ ∀ H', Same H H' → Q (optW (dueM d1 d2)) H'
section
variable {P : Program} {w : World} {K : PySem.W.Frag} {mg : Str → Option Value} {base : Heap}
theorem ok_fault {f fA fO : Addr} {fd fdA fdO : FuncData} (F : Fun K "_law_fault" "_law_fault" s__law_fault f fd) (B : Blt mg)
    (FA : Fun K "_law_are_letters" "_law_are_letters" s__law_are_letters fA fdA) (gA : mg "_law_are_letters" = some (.ref fA)) (bA : Binds K fdA ["_law_thing"] []) (GA : FnOk P w K mg base CX0 1 fA fdA ["_law_thing"] (spAre K))
    (FO : Fun K "_law_is_deed" "_law_is_deed" s__law_is_deed fO fdO) (gO : mg "_law_is_deed" = some (.ref fO)) (bO : Binds K fdO ["_law_letters_a", "_law_size", "_law_thing"] []) (GO : FnOk P w K mg base CX0 2 fO fdO ["_law_letters_a", "_law_size", "_law_thing"] (spLawDeed K)) :
    FnOk P w K mg base CX0 3 f fd ["_law_letters_a", "_law_deeds_a"] (spFault K) := by
  refine F.ok sc__law_fault (fun vs H Q E h => ?_) (fun cdv A outer s H vs Q E hr h => ?_)
  · obtain ⟨_, _, _, _, _, _, rfl, _⟩ := h
    rfl
  · obtain ⟨v1, v2, d1, d2, wd, nd, rfl, g1, g2, ok1, ok2, hwd, q⟩ := h
    have hu0 : (A.deeper (envOfC "_law_fault" (defScope s__law_fault) s.heap.objs.size f cdv)).units < cLine := by
      have := hr.units
      omega
    refine ⟨_, (pss_cons (ps_if (pt_not (pt_val (pe_call GA (hr.mono (by decide)) (by rfl) gA FA.kp bA .nil pass0 (pa_cons (pv 0) pa_nil)))) (pss_one (ps_ret pe_str)) pss_nil)
      (pss_cons (ps_if (PW.pt (pw_or (pt_not (pt_val (pe_callB call_isi (by rfl) B.isi (by decide +kernel) (pa_cons (pv 1) (pa_cons (pe_bltn (v := .ty "tuple") (by rfl) B.tuple (by decide +kernel) rfl) pa_nil))))) (pw_or1 (PT_imp (t' := tFew K) (pt_not (pt_chain op_le op_le pe_int (pe_callB call_len (by rfl) B.len (by decide +kernel) (pa_cons (pv 1) pa_nil)) pe_int)) (fun σ H Q h => by
          obtain ⟨a, xs, h1, ha, q⟩ := h
          have e1 : decide ((1 : Int) ≤ (xs.length : Nat)) = !xs.isEmpty := by
            cases xs with
            | nil => rfl
            | cons x xs => exact decide_eq_true (by rw [List.length_cons]; omega)
          have e2 : decide (((xs.length : Nat) : Int) ≤ 999) = !decide (999 < xs.length) := by
            rw [← decide_not]
            exact decide_eq_decide.mpr ⟨fun h => by omega, fun h => by omega⟩
          refine ⟨_, h1, _, _, rfl, len_tup ha, 1, _, rfl, rfl, _, rfl, ?_⟩
          rw [e1]
          cases e : xs.isEmpty with
          | true =>
            rw [e] at q
            exact ifF rfl ⟨_, rfl, q⟩
          | false =>
            rw [e] at q
            refine ifT rfl ⟨_, _, rfl, rfl, ?_⟩
            refine ⟨_, rfl, ?_⟩
            show Q (!decide (((xs.length : Nat) : Int) ≤ 999)) H
            rw [e2, Bool.not_not]
            exact q))))) (pss_one (ps_ret pe_str)) pss_nil)
      (pss_cons (ps_setLc (i := 2) (own := [("_law_k", 3), ("_law_deed", 4)]) (g := gTup K 2 (gCons (gName 3) (gCons (gName 4) gNil))) rfl sc__law_fault.nd rfl rfl (sw_true rfl rfl rfl (by decide +kernel)) (pi_enumT (by rfl) B.enumerate (pa_cons (pv 1) pa_nil)) (blkOk_by (own := [("_law_k", 3), ("_law_deed", 4)]) (N := ["_law_letters_a", "_law_deeds_a", "_law_odd_here", "_law_k", "_law_deed"]) (sc := defScope s__law_fault) (by decide +kernel)) (fun _ _ _ _ _ => pg_tup rfl (pgs_cons (pg_name (i := 3) sc__law_fault.nd rfl (Or.inl rfl)) (pgs_cons (pg_name (i := 4) sc__law_fault.nd rfl (Or.inl rfl)) pgs_nil))) (fun _ _ _ _ _ => pts_one (pt_not (pt_val (pe_call GO (hr.mono (by decide)) (by rfl) gO FO.kp bO .nil pass0 (pa_cons (pv 0) (pa_cons (pe_callB (call_lenK (K := K) rfl) (by rfl) B.len (by decide +kernel) (pa_cons (pv 1) pa_nil)) (pa_cons (pv 4) pa_nil))))))) (fun _ _ _ _ _ => (pv 3)))
      (pss_one (ps_ret (pe_ifExp (pt_cmpR (op_neNil hu0) (pv 2) (Mq.pe_ls pa_nil) (nomark _)) (pe_ix ix_list (pv 2) pe_int (fun _ _ => rfl)) pe_non)))))), ?_⟩
    refine ⟨_, rfl, v1, d1, wd, nd, rfl, g1, ok1, hwd, fun H1 s1 => ⟨_, rfl, ?_⟩⟩
    rcases dg_str g1 with ⟨sg, rfl, rfl⟩ | ⟨_, nx⟩
    rotate_left
    · rw [due_no nx] at q
      rw [lettersD_no nx]
      exact ifT rfl (q H1 s1)
    rw [due_str] at q
    have hsg : sg.length ≤ 4000 := Nat.le_trans ok1.text.1 hwd
    show (if (!lettersB sg) = true then _ else _)
    cases hlet : lettersB sg with
    | false =>
      rw [hlet, if_neg (by decide)] at q
      exact ifT rfl (q H1 s1)
    | true =>
      rw [hlet, if_pos rfl] at q
      refine ifF rfl ?_
      rcases dg_tup g2 with ⟨fa, xs, ds, rfl, rfl, hfa, ha⟩ | ⟨_, nx⟩
      rotate_left
      · rw [bodyN_no nx] at q
        have t1 : TyX K H1 v2 (.type (Mq.kindOf d2)) := (g2.same s1).ty
        have n1 : Mq.kindOf d2 ≠ "tuple" := by
          cases d2 with
          | tuple x => exact (nx x rfl).elim
          | _ => simp [Mq.kindOf]
        exact ⟨_, rfl, _, .ty "tuple", _, _, false, rfl, .ty _, t1, kit_noT (kind_in d2) n1, false, rfl, ifT rfl (ifT rfl (q H1 s1))⟩
      have hfa1 := Same.tup s1 hfa
      have hl := ha.len
      have hwd2 : PyData.weightAll ds ≤ 60000 := ok2
      have hlx : xs.length ≤ 60000 := by
        rw [hl]
        exact Nat.le_trans (weight_len ds) hwd2
      refine ⟨_, rfl, _, .ty "tuple", _, _, true, rfl, .ty _, ty_tup hfa1, kit_ty (by decide +kernel), true, rfl, ifF rfl ⟨fa, xs, rfl, hfa1, ?_⟩⟩
      have s2 : Same H H1 := s1
      generalize H1 = H2 at s2 ⊢
      rw [empty_len hl, hl]
      unfold bodyN at q
      dsimp only at q
      cases e0 : (ds.isEmpty || decide (999 < ds.length)) with
      | true =>
        rw [e0, if_pos rfl] at q
        exact ifT rfl (q H2 s2)
      | false =>
        rw [e0, if_neg (by decide)] at q
        refine ifF rfl ⟨_, rfl, fa, xs, rfl, Same.tup s2 hfa, fun L hL => ?_⟩
        refine lc_it (walk_enumT (K := K) (a := fa) (xs := xs)) (fun i H' => Same H2 H' ∧ ∃ acc : List Nat, H' L = some (.lst (acc.map fun k => V.int (k : Nat))) ∧ acc.length ≤ i ∧ Noted (deedD sg ds.length) ds i acc) ⟨same_new hL, [], upd_same, Nat.le_refl 0, rfl⟩ (fun i H' _ p => Same.tup (s2.trans p.1) hfa) ?_ ?_
        · rintro i x H4 H5 hi ⟨s4, acc, zL, hal, hno⟩ ⟨T1, y1, y2, rfl, hT, rfl, hy1, hy2⟩
          cases hy1
          obtain ⟨d, hd, hdg⟩ := ha.at hy2
          have s5 := same_new (o := HO.tup [V.int (i : Nat), y2]) hT
          have t5 := (s2.trans s4).trans s5
          have s45 := s4.trans s5
          have zL := s5 _ _ zL
          refine ⟨T1, _, rfl, Or.inl (Or.inl upd_same), rfl, _, _, rfl, _, _, rfl, rfl, rfl, ?_⟩
          generalize upd H4 T1 (.tup [V.int (i : Nat), y2]) = H5 at t5 s45 zL ⊢
          have hwm := weight_mem (List.mem_of_getElem? hd)
          refine ⟨_, rfl, _, rfl, _, _, rfl, len_tup (Same.tup t5 hfa), _, rfl, sg, y2, d, ds.length, by rw [hl]; rfl, hdg.same t5, by omega, by omega, fun H6 s6 => ⟨_, rfl, ?_⟩⟩
          have zL := s6 _ _ zL
          cases hb : deedD sg ds.length d with
          | false =>
            refine ifT rfl ⟨_, rfl, _, zL, sz_lt (by rw [List.length_map]; omega), push_same hL (s45.trans s6), acc ++ [i], ?_, by rw [List.length_append]; exact Nat.succ_le_succ hal, hno.bad hd hb⟩
            rw [upd_same, List.map_append]
            rfl
          | true => exact ifF rfl ⟨s45.trans s6, acc, zL, by omega, hno.good hd hb⟩
        · rintro H4 ⟨s4, acc, zL, hal, hno⟩
          refine ⟨_, rfl, sz_le (n := 0) (by decide), fun p2 hp2 _ => ?_⟩
          have s5 := same_new (o := HO.lst []) hp2
          have t5 := (s2.trans s4).trans s5
          refine ⟨L, p2, _, rfl, rfl, SqL.of (s5 _ _ zL), SqL.of upd_same, _, rfl, ?_⟩
          cases acc with
          | nil =>
            have hno : firstBad (deedD sg ds.length) (ds.drop xs.length) xs.length = firstBad (deedD sg ds.length) ds 0 := hno
            rw [hl, List.drop_of_length_le (Nat.le_refl _)] at hno
            rw [← hno] at q
            exact ifF rfl (q _ t5)
          | cons k ks =>
            have hno : firstBad (deedD sg ds.length) ds 0 = some k := hno
            rw [hno] at q
            exact ifT rfl ⟨_, rfl, L, _, 0, _, rfl, rfl, SqL.of (s5 _ _ zL), atI_nat (j := 0) rfl, q _ t5⟩
end
end Lw

namespace Lw
open PySem PySem.Spec PyProof.Rows L2 Mq
open SX (S)
/-! ### the law's own numbers -/
theorem val_low (b : Nat) : ∀ (l : List Nat) (a : Nat), a * 10 ^ l.length ≤ l.foldl (fun acc c => acc * 10 + (c - 48)) a
  | [], a => by simp
  | c :: l, a => by
    have h := val_low b l (a * 10 + (c - 48))
    refine Nat.le_trans ?_ h
    rw [List.length_cons, Nat.pow_succ]
    have : a * 10 ≤ a * 10 + (c - 48) := Nat.le_add_right _ _
    calc a * (10 ^ l.length * 10) = (a * 10) * 10 ^ l.length := by rw [Nat.mul_comm (10 ^ l.length) 10, Nat.mul_assoc]
      _ ≤ (a * 10 + (c - 48)) * 10 ^ l.length := Nat.mul_le_mul_right _ this
theorem num_big {w : List Nat} (h : numB w = true) (hl : 5 ≤ w.length) : 10000 ≤ NumText.digitsVal w := by
  unfold numB at h
  obtain ⟨h1, h⟩ := Bool.and_eq_true_iff.mp h
  obtain ⟨h2, h3⟩ := Bool.and_eq_true_iff.mp h
  have hd := List.all_eq_true.mp (dig_all h2)
  match w, hl, hd, h3 with
  | c :: l, hl, hd, h3 =>
    have hc := hd c List.mem_cons_self
    obtain ⟨c1, c2⟩ := Bool.and_eq_true_iff.mp hc
    have c1 := of_decide_eq_true c1
    have hc0 : c ≠ 48 := by
      rintro rfl
      have e2 : decide (48 :: l = [48]) = false := decide_eq_false fun e => by
        injection e with _ e
        subst e
        exact absurd hl (by decide)
      rw [show (48 :: l).getD 0 0 = 48 from rfl, e2] at h3
      cases h3
    have h4 := val_low 0 l (0 * 10 + (c - 48))
    rw [List.length_cons] at hl
    have h5 : 10 ^ 4 ≤ 10 ^ l.length := Nat.pow_le_pow_right (by decide) (by omega)
    have h6 : 1 * 10 ^ l.length ≤ (0 * 10 + (c - 48)) * 10 ^ l.length := Nat.mul_le_mul_right _ (by omega)
    show 10000 ≤ (c :: l).foldl (fun acc c => acc * 10 + (c - 48)) 0
    rw [List.foldl_cons]
    omega
def lawN (m : Nat) (w : List Nat) : Option Nat := if numB w = true then (if (decide (w.length < 5) && decide (NumText.digitsVal w < m)) = true then some (NumText.digitsVal w) else none) else none
theorem lawN_is {m : Nat} {w : List Nat} (hm : m ≤ 10000) : lawN m w = rdN m w := by
  unfold lawN rdN numM
  cases e : numB w with
  | false =>
    rw [if_neg (by decide)]
    cases decide (w.length ≤ 12) <;> rfl
  | true =>
    rw [if_pos rfl, if_pos rfl]
    dsimp only
    by_cases h : w.length < 5
    · rw [decide_eq_true h, decide_eq_true (show w.length ≤ 12 by omega), Bool.true_and, if_pos rfl]
    · have hb := num_big e (by omega)
      rw [decide_eq_false h, decide_eq_false (show ¬ NumText.digitsVal w < m by omega)]
      cases decide (w.length ≤ 12) <;> rfl
def tBadNum2 : TT := fun σ H Q => ∃ w o1 o, σ = [some (.str (S w)), o1, o] ∧ w.length ≤ 100000 ∧ LowL w ∧ ∀ H', Same H H' → Q (!numB w) H'
def spPlace : Sp := fun vs H Q _ => ∃ (w : List Nat) (m : Nat), vs = [.str (S w), .int (m : Nat)] ∧ w.length ≤ 100000 ∧ LowL w ∧ m ≤ 10000 ∧ ∀ H', Same H H' → Q (.bl (rdN m w).isSome) H'
theorem one_long {w : List Nat} (h : w ≠ []) : (decide (1 < w.length) && decide (w.getD 0 0 = 48)) = (decide (w.getD 0 0 = 48) && !decide (w = [48])) := by
  match w, h with
  | [c], _ =>
    show (decide (1 < 1) && decide (c = 48)) = (decide (c = 48) && !decide ([c] = [48]))
    by_cases e : c = 48
    · subst e
      rfl
    · rw [decide_eq_false e]
      rfl
  | a :: b :: r, _ =>
    rw [decide_eq_true (show 1 < (a :: b :: r).length by simp only [List.length_cons]; omega), decide_eq_false (show a :: b :: r ≠ [48] from fun e => by injection e with _ e; cases e)]
    simp
section
variable {P : Program} {w : World} {K : PySem.W.Frag} {mg : Str → Option Value} {base : Heap}
theorem ok_place {f : Addr} {fd : FuncData} (F : Fun K "_law_place" "_law_place" s__law_place f fd) (B : Blt mg) :
    FnOk P w K mg base CX0 1 f fd ["_law_word", "_law_size"] spPlace := by
  refine F.ok sc__law_place (fun vs H Q E h => ?_) (fun cdv A outer s H vs Q E hr h => ?_)
  · obtain ⟨_, _, rfl, _⟩ := h
    rfl
  · obtain ⟨w, m, rfl, hw, hlow, hm, q⟩ := h
    have hu : (A.deeper (envOfC "_law_place" (defScope s__law_place) s.heap.objs.size f cdv)).units + 64 < cLine := by
      have := hr.units
      omega
    refine ⟨_, (pss_cons (ps_if (PT_imp (t' := tBadNum2) (PW.pt (pw_or (pt_cmpR op_eq (pv 0) pe_str (nomark _)) (pw_or (pt_cmpR (op_neD hu) (pe_lc (own := [("_law_sign", 2)]) (g := gName 2) rfl sc__law_place.nd (pi_str (pv 0)) (blkOk_by (own := [("_law_sign", 2)]) (N := ["_law_word", "_law_size", "_law_sign"]) (sc := defScope s__law_place) (by decide +kernel)) (fun _ _ _ _ _ => pg_name (i := 2) sc__law_place.nd rfl (Or.inl rfl)) (fun _ _ _ _ _ => pts_one (pt_cmpR op_notIn_sign (pv 2) pe_str rfl)) (fun _ _ _ _ _ => (pv 2))) (Mq.pe_ls pa_nil) (nomark _)) (pw_or1 (PW.pt (pw_and (pt_cmpR op_gt (pe_callB call_len (by rfl) B.len (by decide +kernel) (pa_cons (pv 0) pa_nil)) pe_int (nomark _)) (pw_and1 (pt_cmpR op_eq (pe_ix ix_str (pv 0) pe_int (fun _ _ => rfl)) pe_str (nomark _))))))))) (fun σ H Q h => by
        obtain ⟨w, o1, o, rfl, hw, hlow, q⟩ := h
        unfold numB at q
        refine ⟨_, rfl, rfl, _, rfl, ?_⟩
        rw [str_is_nil]
        cases e0 : decide (w = []) with
        | true =>
          rw [e0] at q
          exact ifT rfl (q H (Same.refl H))
        | false =>
          rw [e0] at q
          have hne := of_decide_eq_false e0
          have hpos : 0 < w.length := pos_of hne
          refine ifF rfl ?_
          refine ⟨_, rfl, S w, rfl, fun L hL => ?_⟩
          refine lc_it (walk_S w) (fun i H' => Same H H' ∧ H' L = some (.lst ((((List.range i).filter fun k => !inB (w.getD k 0) digs)).map fun k => .str (S [w.getD k 0])))) ⟨same_new hL, upd_same⟩ (fun _ _ _ _ => trivial) ?_ ?_
          · rintro i x H2 H3 hi ⟨s2, hL2⟩ ⟨rfl, rfl⟩
            refine ⟨rfl, _, rfl, ?_⟩
            rw [digs_is]
            refine ⟨w.getD i 0, S digs, rfl, rfl, ?_⟩
            have er : ((List.range (i + 1)).filter fun k => !inB (w.getD k 0) digs) = ((List.range i).filter fun k => !inB (w.getD k 0) digs) ++ (if (!inB (w.getD i 0) digs) = true then [i] else []) := by
              rw [List.range_succ, List.filter_append]
              congr 1
              by_cases hb : (!inB (w.getD i 0) digs) = true
              · rw [if_pos hb]
                show List.filter _ [i] = [i]
                rw [List.filter_cons, if_pos hb]
                rfl
              · rw [if_neg hb, List.filter_cons, if_neg hb]
                rfl
            have hlen : ((List.range i).filter fun k => !inB (w.getD k 0) digs).length ≤ i := by
              have := List.length_filter_le (fun k => !inB (w.getD k 0) digs) (List.range i)
              rw [List.length_range] at this
              exact this
            by_cases hb : (!inB (w.getD i 0) digs) = true
            · rw [if_pos hb] at er
              refine ⟨_, rfl, ifT hb ?_⟩
              refine ⟨_, rfl, _, hL2, sz_lt (by rw [List.length_map]; omega), push_same hL s2, ?_⟩
              rw [upd_same, er, List.map_append]
              rfl
            · rw [if_neg hb, List.append_nil] at er
              refine ⟨_, rfl, ifF (Bool.eq_false_iff.mpr hb) ⟨s2, ?_⟩⟩
              rw [er]
              exact hL2
          · rintro H2 ⟨s2, hL2⟩
            refine ⟨sz_le (n := 0) (by decide), fun p hp _ => ?_⟩
            have sp := same_new (o := HO.lst []) hp
            refine ⟨_, _, .lst (SqL.of (sp _ _ hL2)) (dp_signs (fun k => S [w.getD k 0]) _), .lst (SqL.of upd_same) .nil, shaped_signs _ _ ?_, by decide +kernel, ?_⟩
            · intro k hk
              have hk' := List.mem_range.mp (List.mem_filter.mp hk).1
              exact sign_ok (Nat.lt_trans (hlow _ (getD_mem hk')) (by decide))
            rw [eqv_nil]
            have ed : digB w = ((List.range w.length).filter fun k => !inB (w.getD k 0) digs).isEmpty := rfl
            rw [← ed]
            have s3 : Same H (upd H2 p (.lst [])) := s2.trans sp
            generalize upd H2 p (.lst []) = H3 at s3 ⊢
            cases e1 : digB w with
            | false =>
              rw [e1] at q
              exact ⟨_, rfl, ifT rfl (q H3 s3)⟩
            | true =>
              rw [e1] at q
              have q1 := q H3 s3
              rw [← one_long hne] at q1
              refine ⟨_, rfl, ifF rfl ⟨_, rfl, _, _, rfl, len_S (by omega), _, _, rfl, rfl, _, rfl, ?_⟩⟩
              rw [show decide ((1 : Int) < (w.length : Int)) = decide (1 < w.length) from decide_eq_decide.mpr (by omega)]
              cases e2 : decide (1 < w.length) with
              | false =>
                rw [e2] at q1
                exact ifF rfl q1
              | true =>
                rw [e2] at q1
                refine ifT rfl ⟨_, rfl, S w, 0, w.getD 0 0, rfl, rfl, sz_le (by rw [SX.S_len]; omega), at_get (l := w) (k := 0) hpos, rfl, _, rfl, ?_⟩
                rw [show decide (V.str (S [w.getD 0 0]) = V.str "0") = decide (w.getD 0 0 = 48) from (S_dec [w.getD 0 0] [48]).trans (decide_eq_decide.mpr ⟨fun h => by injection h, fun h => by rw [h]⟩)]
                rw [show (!(!false && (true && !(true && decide (w.getD 0 0 = 48))))) = decide (w.getD 0 0 = 48) by cases decide (w.getD 0 0 = 48) <;> rfl] at q1
                exact q1)) (pss_one (ps_ret pe_bl)) pss_nil)
      (pss_one (ps_ret (pe_and (pe_cmpR op_lt (pe_callB call_len (by rfl) B.len (by decide +kernel) (pa_cons (pv 0) pa_nil)) pe_int (nomark _)) (pe_one (pe_cmpR op_lt (pe_callTy call_int_str (by rfl) B.int (by decide +kernel) (pa_cons (pv 0) pa_nil)) (pv 1) (nomark _))))))), ?_⟩
    refine ⟨w, _, _, rfl, hw, hlow, fun H1 s1 => ?_⟩
    rw [← lawN_is hm] at q
    unfold lawN at q
    cases e : numB w with
    | false =>
      rw [e] at q
      exact ifT rfl (q H1 s1)
    | true =>
      rw [e, if_pos rfl] at q
      refine ifF rfl ⟨_, rfl, _, _, rfl, len_S hw, _, _, rfl, rfl, ?_⟩
      by_cases h : w.length < 5
      · rw [decide_eq_true h, Bool.true_and] at q
        have hl : (S w).length ≤ 640 := by
          rw [SX.S_len]
          omega
        refine ⟨_, rfl, ifT (decide_eq_true (by omega)) ⟨_, rfl, S w, _, rfl, num_int e (by omega), hl, _, rfl, _, _, rfl, rfl, ?_⟩⟩
        have e2 : decide (((NumText.digitsVal w : Nat) : Int) < ((m : Nat) : Int)) = decide (NumText.digitsVal w < m) := decide_eq_decide.mpr ⟨fun h => by omega, fun h => by omega⟩
        show Q (.bl (decide (((NumText.digitsVal w : Nat) : Int) < ((m : Nat) : Int)))) H1
        rw [e2]
        cases e3 : decide (NumText.digitsVal w < m) with
        | true =>
          rw [e3] at q
          exact q H1 s1
        | false =>
          rw [e3] at q
          exact q H1 s1
      · rw [decide_eq_false h, Bool.false_and] at q
        exact ⟨_, rfl, ifF (decide_eq_false (by omega)) (q H1 s1)⟩
end
end Lw

namespace Lw
open PySem PySem.Spec PyProof.Rows L2 Mq
open SX (S)
/-! ### drawn programs -/
def spProg (K : PySem.W.Frag) : Sp := fun vs H Q _ => ∃ (D C : Addr) (T top : Nat) (sg : List Nat), vs = [.ref D, .str (S sg), .int (top : Nat)] ∧ DeckAt D C T H ∧ T ≤ 900000 ∧ SgOk sg ∧ 0 < top ∧ top ≤ 100 ∧
  ∀ H' a ns, DeedsAt K H' a ns → DeedsOk sg ns → ns.length ≤ top → DeckAt D C (T + 3000) H' → Off D C H H' → Q (.ref a) H'
theorem DdAll.set {K : PySem.W.Frag} {H : Hp} {v : V} {n : Dd} (h : DdAt K H v n) : ∀ {vs : List V} {ns : List Dd} (j : Nat), DdAll K H vs ns → DdAll K H (vs.set j v) (ns.set j n)
  | _, _, _, .nil => .nil
  | _, _, 0, .cons _ b => .cons h b
  | _, _, j + 1, .cons a b => .cons a (DdAll.set h j b)
/-- the deeds that stand in the list at L -/
structure Acc (K : PySem.W.Frag) (D C L : Addr) (H : Hp) (sg : List Nat) (m T k : Nat) (H' : Hp) : Prop where
  dk : DeckAt D C T H'
  off : Off D C H H'
  ex : ∃ vs ns, H' L = some (.lst vs) ∧ DdAll K H' vs ns ∧ ns.length = k ∧ ∀ n ∈ ns, ddOk sg m n
theorem Acc.offs {K : PySem.W.Frag} {D C L : Addr} {H H1 H2 : Hp} {sg : List Nat} {m T T' k : Nat} (a : Acc K D C L H sg m T k H1) (f : Off D C H1 H2) (dk : DeckAt D C T' H2) (h1 : L ≠ D) (h2 : L ≠ C) : Acc K D C L H sg m T' k H2 := by
  obtain ⟨vs, ns, x, y, z, t⟩ := a.ex
  exact ⟨dk, a.off.trans f, vs, ns, f L _ h1 h2 x, y.kp (KpT.off f a.dk), z, t⟩
theorem Acc.same {K : PySem.W.Frag} {D C L : Addr} {H H1 H2 : Hp} {sg : List Nat} {m T k : Nat} (a : Acc K D C L H sg m T k H1) (e : Same H1 H2) : Acc K D C L H sg m T k H2 := by
  obtain ⟨vs, ns, x, y, z, t⟩ := a.ex
  exact ⟨a.dk.same e, a.off.trans (Off.same e), vs, ns, e _ _ x, y.same e, z, t⟩
theorem Acc.other {K : PySem.W.Frag} {D C L q : Addr} {H H1 : Hp} {sg : List Nat} {m T k : Nat} {ys zs : List V} (a : Acc K D C L H sg m T k H1) (h : H1 q = some (.lst ys)) (hq : H q = none) (h1 : q ≠ D) (h2 : q ≠ C) (h3 : q ≠ L) :
    Acc K D C L H sg m T k (upd H1 q (.lst zs)) := by
  obtain ⟨vs, ns, x, y, z, t⟩ := a.ex
  refine ⟨?_, ?_, vs, ns, (upd_ne (Ne.symm h3)).trans x, y.kp (KpT.lst h), z, t⟩
  · obtain ⟨m, t, js, a1, a2, a3, a4⟩ := a.dk.ex
    exact ⟨m, t, js, (upd_ne (Ne.symm h1)).trans a1, (upd_ne (Ne.symm h2)).trans a2, a3, a4⟩
  · intro b o e1 e2 e3
    rw [upd_ne (ne_of_none e3 hq)]
    exact a.off b o e1 e2 e3
theorem Acc.new {K : PySem.W.Frag} {D C L q : Addr} {H H1 : Hp} {sg : List Nat} {m T k : Nat} (a : Acc K D C L H sg m T k H1) (h : H1 q = none) : q ≠ D ∧ q ≠ C ∧ q ≠ L ∧ H q = none := by
  obtain ⟨vs, ns, x, _⟩ := a.ex
  obtain ⟨n1, n2⟩ := new_ne a.dk h
  refine ⟨n1, n2, ?_, ?_⟩
  · rintro rfl
    rw [h] at x
    cases x
  · cases q0 : H q with
    | none => rfl
    | some o =>
      have z := a.off q o n1 n2 q0
      rw [h] at z
      cases z
theorem Acc.mono {K : PySem.W.Frag} {D C L : Addr} {H H1 : Hp} {sg : List Nat} {m T T' k : Nat} (a : Acc K D C L H sg m T k H1) (h : T ≤ T') : Acc K D C L H sg m T' k H1 := ⟨a.dk.mono h, a.off, a.ex⟩
theorem Acc.put {K : PySem.W.Frag} {D C L : Addr} {H H1 : Hp} {sg : List Nat} {m T k k' : Nat} {vs : List V} {ns' : List Dd} {vs' : List V} (a : Acc K D C L H sg m T k H1) (hL : H1 L = some (.lst vs)) (hHL : H L = none)
    (hp : DdAll K H1 vs' ns') (hk : ns'.length = k') (hn : ∀ n ∈ ns', ddOk sg m n) (h1 : L ≠ D) (h2 : L ≠ C) : Acc K D C L H sg m T k' (upd H1 L (.lst vs')) := by
  have kp : KpT K H1 (upd H1 L (.lst vs')) := KpT.lst hL
  refine ⟨?_, ?_, vs', ns', upd_same, hp.kp kp, hk, hn⟩
  · exact deck_lst a.dk h1 h2
  · exact off_lst a.off hHL
theorem Acc.push {K : PySem.W.Frag} {D C L : Addr} {H H1 : Hp} {sg : List Nat} {m T k : Nat} {v : V} {n : Dd} {vs : List V} (a : Acc K D C L H sg m T k H1) (hL : H1 L = some (.lst vs)) (hHL : H L = none)
    (hp : DdAt K H1 v n) (hn : ddOk sg m n) (h1 : L ≠ D) (h2 : L ≠ C) : Acc K D C L H sg m T (k + 1) (upd H1 L (.lst (vs ++ [v]))) := by
  obtain ⟨vs', ns, x, y, z, t⟩ := a.ex
  rw [hL] at x
  cases x
  refine a.put hL hHL (DdAll.snoc hp y) (by rw [List.length_append, z]; rfl) (fun x hx => ?_) h1 h2
  rcases List.mem_append.mp hx with hx | hx
  · exact t x hx
  · rw [List.mem_singleton.mp hx]
    exact hn
section
variable {P : Program} {w : World} {K : PySem.W.Frag} {mg : Str → Option Value} {base : Heap}
theorem ok_program {f fD fP : Addr} {fd fdD fdP : FuncData} (F : Fun K "_law_program" "_law_program" s__law_program f fd) (B : Blt mg) (bM : mg "min" = none)
    (FD : Fun K "_law_draw" "_law_draw" s__law_draw fD fdD) (gD : mg "_law_draw" = some (.ref fD)) (bD : Binds K fdD ["_law_deck_here", "_law_below"] [])
    (FP : Fun K "_law_pick" "_law_pick" s__law_pick fP fdP) (gP : mg "_law_pick" = some (.ref fP)) (bP : Binds K fdP ["_law_deck_here", "_law_some"] []) :
    FnOk P w K mg base CX0 3 f fd ["_law_deck_here", "_law_letters_a", "_law_most"] (spProg K) := by
  have GD : FnOk P w K mg base CX0 1 fD fdD ["_law_deck_here", "_law_below"] spDraw := ok_draw FD B
  have GP : FnOk P w K mg base CX0 2 fP fdP ["_law_deck_here", "_law_some"] spPick := ok_pick FP B FD gD bD
  refine F.ok sc__law_program (fun vs H Q E h => ?_) (fun cdv A outer s H vs Q E hr h => ?_)
  · obtain ⟨_, _, _, _, _, rfl, _⟩ := h
    rfl
  · obtain ⟨D, C, T, top, sg, rfl, hdk, hT, hs, h0, h1, q⟩ := h
    refine ⟨_, (pss_cons (ps_asg (pe_tup (pa_cons (pe_callB (call_min2 (by rfl)) (by rfl) bM (by decide +kernel) (pa_cons (pv 2) (pa_cons (pe_op op_add (pe_op op_add pe_int (pe_call GD (hr.mono (by decide)) (by rfl) gD FD.kp bD .nil pass0 (pa_cons (pv 0) (pa_cons (pv 2) pa_nil)))) (pe_call GD (hr.mono (by decide)) (by rfl) gD FD.kp bD .nil pass0 (pa_cons (pv 0) (pa_cons pe_int pa_nil)))) pa_nil))) (pa_cons (Mq.pe_ls pa_nil) pa_nil))) (pg_tup rfl (pgs_cons (pg_name (i := 3) sc__law_program.nd rfl (Or.inr rfl)) (pgs_cons (pg_name (i := 4) sc__law_program.nd rfl (Or.inl rfl)) pgs_nil))))
    (pss_cons (ps_for PassesOwn.never rfl (pi_range1 (by rfl) B.range (pa_cons (pv 3) pa_nil)) (pg_name (i := 5) sc__law_program.nd rfl (Or.inl rfl))
      (pss_cons (ps_set (i := 6) sc__law_program.nd rfl (Or.inl rfl) (pe_call GD (hr.mono (by decide)) (by rfl) gD FD.kp bD .nil pass0 (pa_cons (pv 0) (pa_cons pe_int pa_nil))))
      (pss_one (ps_if (pt_cmpR op_lt (pv 6) pe_int (nomark _)) (pss_one (ps_expr (pe_bm PySem.F.plainAttrs_list PySem.F.slot_list_append PySem.F.type_list_append mt_append (pv 4) (pa_cons (pe_tup (pa_cons pe_str (pa_cons (pe_call GP (hr.mono (by decide)) (by rfl) gP FP.kp bP .nil pass0 (pa_cons (pv 0) (pa_cons (pv 1) pa_nil))) (pa_cons (pe_call GD (hr.mono (by decide)) (by rfl) gD FD.kp bD .nil pass0 (pa_cons (pv 0) (pa_cons (pv 3) pa_nil))) pa_nil)))) pa_nil)))) (pss_one (ps_if (pt_cmpR op_lt (pv 6) pe_int (nomark _)) (pss_one (ps_expr (pe_bm PySem.F.plainAttrs_list PySem.F.slot_list_append PySem.F.type_list_append mt_append (pv 4) (pa_cons (pe_tup (pa_cons pe_str (pa_cons (pe_callTy call_tuple_of (by rfl) B.tuple (by decide +kernel) (pa_cons (pe_lc (own := [("_law_k", 7)]) (g := gName 7) (tt := tYes) rfl sc__law_program.nd (pi_range1 (by rfl) B.range (pa_cons (pe_op op_add pe_int (pe_callB call_len (by rfl) B.len (by decide +kernel) (pa_cons (pv 1) pa_nil))) pa_nil)) (blkOk_by (own := [("_law_k", 7)]) (N := ["_law_deck_here", "_law_letters_a", "_law_most", "_law_size", "_law_deeds_a", "_law_place_here", "_law_way", "_law_k"]) (sc := defScope s__law_program) (by decide +kernel)) (fun _ _ _ _ _ => pg_name (i := 7) sc__law_program.nd rfl (Or.inl rfl)) (fun _ _ _ _ _ => pts_nil) (fun _ _ _ _ _ => (pe_call GD (hr.mono (by decide)) (by rfl) gD FD.kp bD .nil pass0 (pa_cons (pv 0) (pa_cons (pv 3) pa_nil))))) pa_nil)) pa_nil))) pa_nil)))) (pss_one (ps_expr (pe_bm PySem.F.plainAttrs_list PySem.F.slot_list_append PySem.F.type_list_append mt_append (pv 4) (pa_cons (pe_tup (pa_cons pe_str pa_nil)) pa_nil))))))))))
    (pss_cons (ps_if (PW.pt (pw_and (pt_cmpR op_gt (pv 3) pe_int (nomark _)) (pw_and1 (pt_cmpR op_gt (pe_call GD (hr.mono (by decide)) (by rfl) gD FD.kp bD .nil pass0 (pa_cons (pv 0) (pa_cons pe_int pa_nil))) pe_int (nomark _))))) (pss_one (ps_asg (pe_tup (pa_cons pe_str pa_nil)) (pg_sub (pv 4) (pe_op op_add (pe_call GD (hr.mono (by decide)) (by rfl) gD FD.kp bD .nil pass0 (pa_cons (pv 0) (pa_cons (pe_op op_sub (pv 3) pe_int) pa_nil))) pe_int) set_list))) pss_nil)
    (pss_one (ps_ret (pe_callTy call_tuple_of (by rfl) B.tuple (by decide +kernel) (pa_cons (pv 4) pa_nil))))))), ?_⟩
    have hfew := hs.few
    have hspos := hs.pos
    refine ⟨_, rfl, _, rfl, _, rfl, D, C, T, top, rfl, hdk, by omega, h0, by omega, fun H1 r hr1 dk1 off1 => ?_⟩
    refine ⟨_, _, rfl, rfl, _, rfl, D, C, T + 1, 2, rfl, dk1, by omega, by decide, by decide, fun H2 r2 hr2 dk2 off2 => ?_⟩
    refine ⟨_, _, rfl, rfl, _, _, rfl, ?_⟩
    obtain ⟨m, hm, hm0, hmt⟩ : ∃ m : Nat, (if (1 : Int) + (r : Nat) + (r2 : Nat) < (top : Nat) then (1 : Int) + (r : Nat) + (r2 : Nat) else ((top : Nat) : Int)) = ((m : Nat) : Int) ∧ 0 < m ∧ m ≤ top := by
      by_cases h : (1 : Int) + (r : Nat) + (r2 : Nat) < (top : Nat)
      · exact ⟨1 + r + r2, by rw [if_pos h]; omega, by omega, by omega⟩
      · exact ⟨top, by rw [if_neg h], h0, Nat.le_refl _⟩
    rw [hm]
    clear hm
    have off02 := off1.trans off2
    refine ⟨sz_le (n := 0) (by decide), fun L hL _ => ⟨sz_le (n := 2) (by decide), fun tp htp => ?_⟩⟩
    refine ⟨tp, [.int (m : Nat), .ref L], rfl, Or.inl (Or.inl upd_same), rfl, _, _, rfl, _, _, rfl, rfl, ?_⟩
    obtain ⟨hLD, hLC⟩ := new_ne dk2 hL
    have hHL : H L = none := by
      cases q0 : H L with
      | none => rfl
      | some o =>
        have z := off02 L o hLD hLC q0
        rw [hL] at z
        cases z
    have a0 : Acc K D C L H sg m (T + 2) 0 (upd H2 L (.lst [])) := ⟨dk2.same (same_new hL), off02.trans (Off.same (same_new hL)), [], [], upd_same, .nil, rfl, (fun _ z => by cases z)⟩
    have a1 := a0.same (same_new (o := HO.tup [V.int ((m : Nat) : Int), V.ref L]) htp)
    refine ⟨_, rfl, _, rfl, by omega, by omega, ?_⟩
    refine for_it (walk_rng (n := m)) (fun k σ H' => Acc K D C L H sg m (T + 2 + 29 * k) k H' ∧ ∃ o5 o6 o7, σ = [some (.ref D), some (.str (S sg)), some (.int (top : Nat)), some (.int (m : Nat)), some (.ref L), o5, o6, o7])
      ⟨a1, _, _, _, rfl⟩ (fun _ _ _ _ _ => trivial) ?_ ?_
    · rintro i x σ H2 H3 hi ⟨a2, o5, o6, o7, rfl⟩ ⟨rfl, rfl⟩
      refine ⟨_, rfl, D, C, _, 8, rfl, a2.dk, by omega, by decide, by decide, fun H4 way hw dk4 off4 => ?_⟩
      have a4 := a2.offs off4 dk4 hLD hLC
      obtain ⟨vs, ns, x4, y4, z4, t4⟩ := a4.ex
      have hvl := y4.len
      refine ⟨_, rfl, _, _, rfl, rfl, _, rfl, ite2 (fun hc => ?_) (fun hc => ?_)⟩
      · refine ⟨_, rfl, Or.inl ⟨rfl, _, Or.inl (Or.inl x4)⟩, _, rfl, _, rfl, D, C, _, _, rfl, a4.dk, by omega, Or.inl ⟨sg, rfl, hspos, by omega, fun H5 c hcs dk5 off5 => ?_⟩⟩
        have a5 := a4.offs off5 dk5 hLD hLC
        have x5 := off5 L _ hLD hLC x4
        refine ⟨_, rfl, _, rfl, D, C, _, m, rfl, dk5, by omega, hm0, by omega, fun H6 t ht dk6 off6 => ⟨sz_le (n := 3) (by decide), fun p hp => ?_⟩⟩
        have a6 := a5.offs off6 dk6 hLD hLC
        have x6 := off6 L _ hLD hLC x5
        have s7 := same_new (o := HO.tup [V.str "lay", V.str (S [c]), V.int (t : Nat)]) hp
        have a7 := a6.same s7
        have x7 := s7 _ _ x6
        have hp7 : DdAt K (upd H6 p (.tup [V.str "lay", V.str (S [c]), V.int (t : Nat)])) (.ref p) (.lay c t) := ⟨p, rfl, Or.inl (Or.inl upd_same)⟩
        generalize upd H6 p (.tup [V.str "lay", V.str (S [c]), V.int (t : Nat)]) = H7 at a7 x7 hp7 ⊢
        refine ⟨L, vs, .ref p, rfl, rfl, x7, sz_lt (by omega), ?_, _, _, _, rfl⟩
        have a8 := a7.push x7 hHL hp7 ⟨hcs, ht⟩ hLD hLC
        exact ⟨a8.dk.mono (by omega), a8.off, a8.ex⟩
      · refine ⟨_, rfl, _, _, rfl, rfl, _, rfl, ite2 (fun hc2 => ?_) (fun hc2 => ?_)⟩
        · refine ⟨_, rfl, Or.inl ⟨rfl, _, Or.inl (Or.inl x4)⟩, ?_⟩
          refine ⟨_, rfl, _, _, rfl, len_S (by omega), _, _, rfl, rfl, _, rfl, by omega, by omega, fun L2 hL2 => ?_⟩
          obtain ⟨m1, m2, m3, m4⟩ := a4.new hL2
          rw [show ((1 : Int) + (sg.length : Nat)).toNat = sg.length + 1 by omega]
          refine lc_yes (walk_rng (n := sg.length + 1)) (fun j H' => Acc K D C L H sg m (T + 2 + 29 * i + 1 + j) i H' ∧ H' L = some (.lst vs) ∧
            ∃ ts : List Nat, H' L2 = some (.lst (intsV ts)) ∧ ts.length = j ∧ ∀ t ∈ ts, t < m) ⟨(a4.same (same_new hL2)).mono (by omega), (same_new hL2) _ _ x4, [], upd_same, rfl, (fun _ z => by cases z)⟩ (fun _ _ _ _ => trivial) ?_ ?_
          · rintro j x H9 H10 hj ⟨a9, x9, ts, l9, c9, b9⟩ ⟨rfl, rfl⟩
            refine ⟨rfl, _, rfl, _, rfl, D, C, _, m, rfl, a9.dk, by omega, hm0, by omega, fun H11 t ht dk11 off11 => ?_⟩
            have a11 := a9.offs off11 dk11 hLD hLC
            have l11 := off11 L2 _ m1 m2 l9
            have x11 := off11 L _ hLD hLC x9
            refine ⟨_, l11, sz_lt (by rw [intsV_len]; omega), (a11.other l11 m4 m1 m2 m3).mono (by omega), (upd_ne (Ne.symm m3)).trans x11, ts ++ [t], ?_, by rw [List.length_append, c9]; rfl, ?_⟩
            · rw [upd_same]
              unfold intsV
              rw [List.map_append]
              rfl
            · intro y hy
              rcases List.mem_append.mp hy with hy | hy
              · exact b9 y hy
              · rw [List.mem_singleton.mp hy]
                exact ht
          · rintro H9 ⟨a9, x9, ts, l9, c9, b9⟩
            refine ⟨L2, _, rfl, Or.inl ⟨SqL.of l9, fun p3 hp3 => ⟨sz_le (n := 2) (by decide), fun p4 hp4 => ?_⟩⟩⟩
            have s10 := same_new (o := HO.tup (intsV ts)) hp3
            have s11 := same_new (o := HO.tup [V.str "look", V.ref p3]) hp4
            have a11 := a9.same (s10.trans s11)
            have x11 := (s10.trans s11) _ _ x9
            have d11 : DdAt K (upd (upd H9 p3 (.tup (intsV ts))) p4 (.tup [V.str "look", V.ref p3])) (.ref p4) (.look ts) := ⟨p4, p3, rfl, Or.inl (Or.inl upd_same), Same.tup s11 (Or.inl (Or.inl upd_same))⟩
            generalize upd (upd H9 p3 (.tup (intsV ts))) p4 (.tup [V.str "look", V.ref p3]) = H12 at a11 x11 d11 ⊢
            refine ⟨L, vs, .ref p4, rfl, rfl, x11, sz_lt (by omega), ?_, _, _, _, rfl⟩
            have a12 := a11.push x11 hHL d11 ⟨c9, b9⟩ hLD hLC
            exact ⟨a12.dk.mono (by omega), a12.off, a12.ex⟩
        · refine ⟨_, rfl, Or.inl ⟨rfl, _, Or.inl (Or.inl x4)⟩, sz_le (n := 1) (by decide), fun p hp => ?_⟩
          have s5 := same_new (o := HO.tup [V.str "stop"]) hp
          have a5 := a4.same s5
          have x5 := s5 _ _ x4
          have hp5 : DdAt K (upd H4 p (.tup [V.str "stop"])) (.ref p) .stop := ⟨p, rfl, Or.inl (Or.inl upd_same)⟩
          generalize upd H4 p (.tup [V.str "stop"]) = H5 at a5 x5 hp5 ⊢
          refine ⟨L, vs, .ref p, rfl, rfl, x5, sz_lt (by omega), ?_, _, _, _, rfl⟩
          have a6 := a5.push (n := .stop) x5 hHL hp5 trivial hLD hLC
          exact ⟨a6.dk.mono (by omega), a6.off, a6.ex⟩
    · rintro σ H2 ⟨a2, o5, o6, o7, rfl⟩
      have fin : ∀ (H3 : Hp) (T' : Nat), T' ≤ T + 3000 → Acc K D C L H sg m T' m H3 → ∃ vs, H3 L = some (.lst vs) ∧ ∀ p, H3 p = none → Q (.ref p) (upd H3 p (.tup vs)) := by
        intro H3 T' hT' a3
        obtain ⟨vs, ns, x, y, z, t⟩ := a3.ex
        refine ⟨vs, x, fun p hp => ?_⟩
        have s2 : Same H3 (upd H3 p (.tup vs)) := same_new hp
        refine q _ p ns ⟨vs, Or.inl (Or.inl upd_same), y.same s2⟩ ⟨?_, by omega, by rw [z]; exact t⟩ (by omega) ((a3.dk.same s2).mono (by omega)) (a3.off.trans (Off.same s2))
        rintro rfl
        cases z
        exact absurd hm0 (by decide)
      refine ⟨_, rfl, _, _, rfl, rfl, _, rfl, ite2 (fun hc => ?_) (fun hc => ?_)⟩
      rotate_left
      · obtain ⟨vs, zv, ff⟩ := fin H2 _ (by omega) a2
        exact ⟨_, rfl, L, vs, rfl, Or.inl ⟨SqL.of zv, ff⟩⟩
      have hc1 : (1 : Int) < (m : Nat) := of_decide_eq_true hc
      refine ⟨_, rfl, D, C, _, 5, rfl, a2.dk, by omega, by decide, by decide, fun H3 g hg dk3 off3 => ⟨_, _, rfl, rfl, _, rfl, ?_⟩⟩
      have a3 := a2.offs off3 dk3 hLD hLC
      refine ite2 (fun hc2 => ?_) (fun hc2 => ?_)
      rotate_left
      · obtain ⟨vs, zv, ff⟩ := fin H3 _ (by omega) a3
        exact ⟨_, rfl, L, vs, rfl, Or.inl ⟨SqL.of zv, ff⟩⟩
      refine ⟨sz_le (n := 1) (by decide), fun p hp => ?_⟩
      have s5 := same_new (o := HO.tup [V.str "stop"]) hp
      have a5 := a3.same s5
      have hp5 : DdAt K (upd H3 p (.tup [V.str "stop"])) (.ref p) .stop := ⟨p, rfl, Or.inl (Or.inl upd_same)⟩
      have dk5 := dk3.same s5
      generalize upd H3 p (.tup [V.str "stop"]) = H5 at a5 dk5 hp5 ⊢
      refine ⟨_, rfl, _, rfl, _, rfl, _, _, rfl, rfl, ?_⟩
      refine ⟨D, C, _, m - 1, ?_, dk5, by omega, by omega, by omega, fun H6 at_ hat dk6 off6 => ?_⟩
      · show [V.ref D, V.int ((m : Nat) - 1)] = _
        rw [show (((m : Nat) : Int) - 1) = ((m - 1 : Nat) : Int) by omega]
      have a6 := a5.offs off6 dk6 hLD hLC
      have hp6 := hp5.kp (KpT.off off6 dk5)
      obtain ⟨vs, ns, x6, y6, z6, t6⟩ := a6.ex
      have hvl := y6.len
      refine ⟨_, _, rfl, rfl, L, vs, _, at_ + 1, rfl, rfl, x6, ?_, ?_⟩
      · show ixN vs.length (((at_ : Nat) : Int) + 1) = _
        rw [show (((at_ : Nat) : Int) + 1) = ((at_ + 1 : Nat) : Int) by omega]
        exact ixN_at (by omega)
      · have a7 := a6.put (k' := m) x6 hHL (DdAll.set hp6 (at_ + 1) y6) (by rw [List.length_set]; exact z6) (fun n hn => (List.mem_or_eq_of_mem_set hn).elim (t6 n) fun e => e ▸ (trivial : ddOk sg m .stop)) hLD hLC
        obtain ⟨vs, zv, ff⟩ := fin _ (T + 2 + 29 * m + 1 + 1) (by omega) a7
        exact ⟨_, rfl, L, vs, rfl, Or.inl ⟨SqL.of zv, ff⟩⟩
end
end Lw

namespace Lw
open PySem PySem.Spec PyProof.Rows L2 Mq
open SX (S)
open TL (numL)
/-! ### the law's own text of a program -/
theorem cr_or {X : Cx} {v : Value} {r1 r2 : List V → Hp → VK → Prop} (h1 : CallR X v r1) (h2 : CallR X v r2) : CallR X v (fun xs H Q => r1 xs H Q ∨ r2 xs H Q) := by
  intro pins s σ H xs us Q I r h
  rcases h with h | h
  · exact h1 pins s σ H xs us Q I r h
  · exact h2 pins s σ H xs us Q I r h
theorem sumL_count : ∀ ws : List (List Nat), ws.length ≤ sumL ws
  | [] => Nat.zero_le _
  | w :: ws => by
    have := sumL_count ws
    show ws.length + 1 ≤ (w.length + 1) + sumL ws
    omega
theorem txs_app (a b : List (List Nat)) : txs (a ++ b) = txs a ++ txs b := List.map_append
def WdV (x : V) (w : List Nat) : Prop := x = .str (S w) ∨ ∃ t : Nat, t ≤ 1000 ∧ x = .int (t : Nat) ∧ w = numL t
def Wds (xs : List V) (ws : List (List Nat)) : Prop := xs.length = ws.length ∧ ∀ (i : Nat) (x : V), xs[i]? = some x → ∃ w, ws[i]? = some w ∧ WdV x w
theorem none_of {H H' : Hp} {p : Addr} (e : Same H H') (h : H' p = none) : H p = none := by
  cases x : H p with
  | none => rfl
  | some o =>
    rw [e _ _ x] at h
    cases h
theorem wds_stop : Wds [V.str "stop"] (deedW .stop) := by
  refine ⟨rfl, fun i x h => ?_⟩
  match i, h with
  | 0, h => cases h; exact ⟨_, rfl, Or.inl rfl⟩
theorem wds_lay {c t : Nat} (ht : t ≤ 1000) : Wds [V.str "lay", .str (S [c]), .int (t : Nat)] (deedW (.lay c t)) := by
  refine ⟨rfl, fun i x h => ?_⟩
  match i, h with
  | 0, h => cases h; exact ⟨_, rfl, Or.inl rfl⟩
  | 1, h => cases h; exact ⟨_, rfl, Or.inl rfl⟩
  | 2, h => cases h; exact ⟨_, rfl, Or.inr ⟨t, ht, rfl, rfl⟩⟩
def notLook : Dd → Bool
  | .look _ => false
  | _ => true
theorem dd_wds {K : PySem.W.Frag} {H : Hp} {v : V} {n : Dd} (h : DdAt K H v n) (hs : DdSz n) (hn : notLook n = true) : ∃ (a : Addr) (z : Str) (xs : List V), v = .ref a ∧ SqT K H a (.str z :: xs) ∧ Wds (.str z :: xs) (deedW n) ∧ decide (V.str z = V.str "look") = false := by
  cases n with
  | look ts => cases hn
  | stop =>
    obtain ⟨a, e, ha⟩ := h
    exact ⟨a, _, _, e, ha, wds_stop, by decide +kernel⟩
  | lay c t =>
    obtain ⟨a, e, ha⟩ := h
    exact ⟨a, _, _, e, ha, wds_lay hs, by decide +kernel⟩
def spText (K : PySem.W.Frag) : Sp := fun vs H Q _ => ∃ (na : Addr) (sg : List Nat) (ns : List Dd), vs = [.str (S sg), .ref na] ∧ DeedsAt K H na ns ∧ (∀ n ∈ ns, DdSz n) ∧ ns.length ≤ 1000 ∧ sumL (ns.map deedT) ≤ 50000 ∧ sg.length ≤ 100 ∧
  ∀ H', Same H H' → Q (.str (S (pageT sg ns))) H'
section
variable {P : Program} {w : World} {K : PySem.W.Frag} {mg : Str → Option Value} {base : Heap}
theorem ok_text {f : Addr} {fd : FuncData} (F : Fun K "_law_text" "_law_text" s__law_text f fd) (B : Blt mg) : FnOk P w K mg base CX0 1 f fd ["_law_letters_a", "_law_deeds_a"] (spText K) := by
  refine F.ok sc__law_text (fun vs H Q E h => ?_) (fun cdv A outer s H vs Q E hr h => ?_)
  · obtain ⟨_, _, _, rfl, _⟩ := h
    rfl
  · obtain ⟨na, sg, ns, rfl, ⟨xs, hz, hall⟩, hsz, hfew, hsum, hsg, q⟩ := h
    refine ⟨_, (pss_cons (ps_set (i := 2) sc__law_text.nd rfl (Or.inl rfl) (Mq.pe_ls (pa_cons (pe_op op_add_str pe_str (pv 0)) pa_nil)))
    (pss_cons (ps_for PassesOwn.never rfl (pi_tup (pv 1)) (pg_name (i := 3) sc__law_text.nd rfl (Or.inl rfl))
      (pss_one (ps_if (pt_cmpR op_eq (pe_ix ix_tup (pv 3) pe_int (fun _ _ => rfl)) pe_str (nomark _)) (pss_one (ps_expr (pe_bm PySem.F.plainAttrs_list PySem.F.slot_list_append PySem.F.type_list_append mt_append (pv 2) (pa_cons (pe_join pe_str (pe_op op_cat (Mq.pe_ls (pa_cons pe_str pa_nil)) (pe_lc (own := [("_law_place_here", 5)]) (g := gName 5) (tt := tYes) rfl sc__law_text.nd (pi_tup (pe_ix ix_tup (pv 3) pe_int (fun _ _ => rfl))) (blkOk_by (own := [("_law_place_here", 5)]) (N := ["_law_letters_a", "_law_deeds_a", "_law_lines", "_law_deed", "_law_part", "_law_place_here"]) (sc := defScope s__law_text) (by decide +kernel)) (fun _ _ _ _ _ => pg_name (i := 5) sc__law_text.nd rfl (Or.inl rfl)) (fun _ _ _ _ _ => pts_nil) (fun _ _ _ _ _ => (pe_callTy call_str_int (by rfl) B.str (by decide +kernel) (pa_cons (pv 5) pa_nil)))))) pa_nil)))) (pss_one (ps_expr (pe_bm PySem.F.plainAttrs_list PySem.F.slot_list_append PySem.F.type_list_append mt_append (pv 2) (pa_cons (pe_join pe_str (pe_lc (own := [("_law_part", 4)]) (g := gName 4) (tt := tYes) rfl sc__law_text.nd (pi_tup (pv 3)) (blkOk_by (own := [("_law_part", 4)]) (N := ["_law_letters_a", "_law_deeds_a", "_law_lines", "_law_deed", "_law_part", "_law_place_here"]) (sc := defScope s__law_text) (by decide +kernel)) (fun _ _ _ _ _ => pg_name (i := 4) sc__law_text.nd rfl (Or.inl rfl)) (fun _ _ _ _ _ => pts_nil) (fun _ _ _ _ _ => (pe_callTy (cr_or call_str_int SkE.call_str_str) (by rfl) B.str (by decide +kernel) (pa_cons (pv 4) pa_nil))))) pa_nil)))))))
    (pss_one (ps_ret (pe_join pe_str (pv 2)))))), ?_⟩
    have e : ("program " : Str) ++ S sg = S (programL ++ [32] ++ sg) := by
      rw [show ("program " : Str) = S (programL ++ [32]) by decide +kernel, SX.S_cat]
    refine ⟨_, rfl, "program ", S sg, rfl, rfl, sz_le (by rw [SX.S_len]; show 8 + sg.length ≤ _; omega), sz_le (n := 1) (by decide), fun L hL _ => ?_⟩
    rw [e]
    have s1 := same_new (o := HO.lst [V.str (S (programL ++ [32] ++ sg))]) hL
    have z1 : upd H L (.lst [V.str (S (programL ++ [32] ++ sg))]) L = some (.lst (txs [programL ++ [32] ++ sg])) := upd_same
    generalize upd H L (.lst [V.str (S (programL ++ [32] ++ sg))]) = H1 at s1 z1 ⊢
    have hxl : xs.length = ns.length := hall.len
    refine ⟨_, rfl, na, rfl, ⟨_, Same.tup s1 hz⟩, ?_⟩
    refine for_it (walk_tup (K := K) (a := na) (xs := xs)) (fun i σ H' => Same H H' ∧ H' L = some (.lst (txs ((programL ++ [32] ++ sg) :: (ns.take i).map deedT))) ∧ ∃ o3 o4 o5, σ = [some (.str (S sg)), some (.ref na), some (.ref L), o3, o4, o5])
      ⟨s1, z1, _, _, _, rfl⟩ (fun i σ H' _ pp => Same.tup pp.1 hz) ?_ ?_
    · rintro i x σ H2x H2 hi ⟨s2, zL, o3, o4, o5, rfl⟩ ⟨rfl, hx⟩
      obtain ⟨n, hn, hat⟩ := hall.at hx
      have hsn := hsz n (List.mem_of_getElem? hn)
      have hat2 := hat.same s2
      have hws := deedW_sum hsn
      have fin : ∀ (H7 : Hp) (p3 : Addr), Same H H7 → H7 L = some (.lst (txs ((programL ++ [32] ++ sg) :: (ns.take i).map deedT))) → H7 p3 = some (.lst (txs (deedW n))) →
          SqL K H7 p3 (((deedW n).map S).map V.str) ∧ (((deedW n).map S).map (·.length)).sum + ((deedW n).map S).length * (S [32]).length ≤ sizeLine ∧ (txs ((programL ++ [32] ++ sg) :: (ns.take i).map deedT)).length < sizeLine ∧
          Same H (upd H7 L (.lst (txs ((programL ++ [32] ++ sg) :: (ns.take i).map deedT) ++ [V.str (S (TL.joinL [32] (deedW n)))]))) ∧ upd H7 L (.lst (txs ((programL ++ [32] ++ sg) :: (ns.take i).map deedT) ++ [V.str (S (TL.joinL [32] (deedW n)))])) L = some (.lst (txs ((programL ++ [32] ++ sg) :: (ns.take (i + 1)).map deedT))) := by
        intro H7 p3 s7 z7 k7
        refine ⟨SqL.of (k7.trans (by rw [map_SV])), ?_, sz_lt (by rw [List.length_map, List.length_cons, List.length_map, List.length_take]; omega), push_same hL s7, ?_⟩
        · rw [join_bound]
          exact Nat.le_trans hws (by decide)
        · rw [upd_same, List.take_add_one, hn, List.map_append]
          exact congrArg (fun z => some (HO.lst z)) (List.map_append (f := fun l : List Nat => V.str (S l)) (l₁ := (programL ++ [32] ++ sg) :: (ns.take i).map deedT) (l₂ := [deedT n])).symm
      cases hk : notLook n with
      | true =>
        obtain ⟨a, x0, ys, rfl, ha, hw, hne⟩ := dd_wds hat2 hsn hk
        refine ⟨_, rfl, a, _, 0, .str x0, rfl, rfl, ha, atI_nat (j := 0) rfl, rfl, _, rfl, ifF hne ?_⟩
        refine ⟨_, rfl, Or.inl ⟨rfl, _, SqL.of zL⟩, ⟨_, rfl⟩, _, rfl, a, rfl, ⟨_, ha⟩, fun D hD => ?_⟩
        refine lc_yes (walk_tup (K := K) (a := a) (xs := .str x0 :: ys)) (fun j H' => Same H2 H' ∧ H' D = some (.lst (txs ((deedW n).take j)))) ⟨same_new hD, upd_same⟩ (fun _ _ _ pp => Same.tup pp.1 ha) ?_ ?_
        · rintro j y H3x H3 hj ⟨s3, zD⟩ ⟨rfl, hy⟩
          obtain ⟨wd, hwd, hv⟩ := hw.2 j y hy
          have hl9 : (deedW n).length ≤ 160 := Nat.le_trans (sumL_count _) hws
          refine ⟨rfl, _, rfl, ?_⟩
          rcases hv with rfl | ⟨t, ht, rfl, rfl⟩
          · refine Or.inr ⟨_, rfl, _, zD, sz_lt (by rw [List.length_map, List.length_take]; omega), push_same hD s3, ?_⟩
            rw [upd_same, List.take_add_one, hwd]
            exact congrArg (fun z => some (HO.lst z)) (txs_app _ [_]).symm
          · refine Or.inl ⟨_, rfl, log_small ht, _, zD, sz_lt (by rw [List.length_map, List.length_take]; omega), push_same hD s3, ?_⟩
            rw [upd_same, List.take_add_one, hwd, SX.num_S]
            exact congrArg (fun z => some (HO.lst z)) (txs_app _ [_]).symm
        · rintro H3 ⟨s3, zD⟩
          rw [hw.1, List.take_length] at zD
          obtain ⟨f1, f2, f3, f4, f5⟩ := fin H3 D (s2.trans s3) (s3 _ _ zL) zD
          refine ⟨S [32], D, (deedW n).map S, rfl, rfl, Or.inl f1, f2, ?_⟩
          rw [SX.join_S]
          exact ⟨L, _, _, rfl, rfl, s3 _ _ zL, f3, f4, f5, _, _, _, rfl⟩
      | false =>
        obtain ⟨ts, rfl⟩ : ∃ ts, n = .look ts := by
          cases n with
          | look ts => exact ⟨ts, rfl⟩
          | _ => cases hk
        obtain ⟨a, b, rfl, ha, hb⟩ := hat2
        have hsn : ts.length ≤ 30 ∧ ∀ t ∈ ts, t ≤ 1000 := hsn
        refine ⟨_, rfl, a, _, 0, _, rfl, rfl, ha, atI_nat (j := 0) rfl, rfl, _, rfl, ifT (by decide +kernel) ?_⟩
        refine ⟨_, rfl, Or.inl ⟨rfl, _, SqL.of zL⟩, ⟨_, rfl⟩, sz_le (n := 1) (by decide), fun p1 hp1 _ => ?_⟩
        have t4 := same_new (o := HO.lst [V.str "look"]) hp1
        have z4 : upd H2 p1 (.lst [V.str "look"]) p1 = some (.lst (txs [lookL])) := upd_same
        have zL := t4 _ _ zL
        have ha := Same.tup t4 ha
        have hb := Same.tup t4 hb
        have s4 := s2.trans t4
        generalize upd H2 p1 (.lst [V.str "look"]) = H4 at z4 zL ha hb s4 ⊢
        refine ⟨_, rfl, a, _, 1, _, rfl, rfl, ha, atI_nat (j := 1) rfl, b, rfl, ⟨_, hb⟩, fun D hD => ?_⟩
        refine lc_yes (walk_tup (K := K) (a := b) (xs := intsV ts)) (fun j H' => Same H4 H' ∧ H' D = some (.lst (txs ((ts.take j).map numL)))) ⟨same_new hD, upd_same⟩ (fun _ _ _ pp => Same.tup pp.1 hb) ?_ ?_
        · rintro j y H5x H5 hj ⟨s5, zD⟩ ⟨rfl, hy⟩
          rw [intsV_len] at hj
          have hy' : (intsV ts)[j]? = some y := hy
          unfold intsV at hy'
          rw [List.getElem?_map, List.getElem?_eq_getElem hj] at hy'
          cases hy'
          refine ⟨rfl, _, rfl, _, rfl, log_small (hsn.2 _ (List.getElem_mem hj)), _, zD, sz_lt (by rw [List.length_map, List.length_map, List.length_take]; omega), push_same hD s5, ?_⟩
          rw [upd_same, List.take_add_one, List.getElem?_eq_getElem hj, List.map_append, SX.num_S]
          exact congrArg (fun z => some (HO.lst z)) (List.map_append (f := fun l : List Nat => V.str (S l)) (l₁ := (ts.take j).map numL) (l₂ := [numL ts[j]])).symm
        · rintro H5 ⟨s5, zD⟩
          rw [intsV_len, List.take_length] at zD
          refine ⟨p1, D, _, _, rfl, rfl, s5 _ _ z4, zD, sz_le (by rw [List.length_map, List.length_map, List.length_map]; show 1 + _ ≤ _; omega), fun p3 hp3 => ?_⟩
          have t7 := same_new (o := HO.lst (txs [lookL] ++ txs (ts.map numL))) hp3
          have z7 : upd H5 p3 (.lst (txs [lookL] ++ txs (ts.map numL))) p3 = some (.lst (txs (deedW (.look ts)))) := by
            rw [upd_same]
            rfl
          have zL := t7 _ _ (s5 _ _ zL)
          have s7 := (s4.trans s5).trans t7
          generalize upd H5 p3 (.lst (txs [lookL] ++ txs (ts.map numL))) = H7 at z7 zL s7 ⊢
          obtain ⟨f1, f2, f3, f4, f5⟩ := fin H7 p3 s7 zL z7
          refine ⟨S [32], p3, (deedW (.look ts)).map S, rfl, rfl, Or.inl f1, f2, ?_⟩
          rw [SX.join_S]
          exact ⟨L, _, _, rfl, rfl, zL, f3, f4, f5, _, _, _, rfl⟩
    · rintro σ H2 ⟨s2, zL, o3, o4, o5, rfl⟩
      rw [hxl, List.take_length] at zL
      refine ⟨⟨_, rfl⟩, _, rfl, S [10], L, ((programL ++ [32] ++ sg) :: ns.map deedT).map S, rfl, rfl, Or.inl (SqL.of (zL.trans (by rw [map_SV]))), ?_, ?_⟩
      · rw [join_bound]
        show ((programL ++ [32] ++ sg).length + 1) + sumL (ns.map deedT) ≤ _
        rw [List.length_append, List.length_append]
        show (7 + 1 + sg.length + 1) + _ ≤ _
        have : (60000 : Nat) ≤ sizeLine := by decide
        omega
      · rw [SX.join_S]
        exact q _ s2
end
end Lw

namespace Lw
open PySem PySem.Spec PyProof.Rows L2 Mq
open SX (S)
open TL (numL)
/-! ### the law's own look at a line -/
def fineL (m : Nat) (ws : List (List Nat)) : List (List Nat) := ws.filter fun w => (rdN m w).isSome
def lineW (sg : List Nat) (m : Nat) : List (List Nat) → Bool
  | w0 :: rest => if decide (w0 = layL) = true then (decide (rest.length = 2) && (letB sg (rest.getD 0 []) && (rdN m (rest.getD 1 [])).isSome)) else (decide (w0 = lookL) && (decide (rest.length = sg.length + 1) && decide ((fineL m rest).length = sg.length + 1)))
  | [] => false
def lineB (sg : List Nat) (m : Nat) (ws : List (List Nat)) : Bool := if decide (ws = [stopL]) = true then true else lineW sg m ws
theorem fine_all {m : Nat} : ∀ ws : List (List Nat), decide ((fineL m ws).length = ws.length) = (ws.map (rdN m)).all Option.isSome
  | [] => rfl
  | w :: ws => by
    have ih := fine_all (m := m) ws
    have hle : (fineL m ws).length ≤ ws.length := List.length_filter_le _ _
    unfold fineL at ih hle ⊢
    rw [List.filter_cons, List.map_cons, List.all_cons, ← ih]
    cases h : (rdN m w).isSome with
    | false =>
      rw [if_neg (by decide), List.length_cons, Bool.false_and]
      exact decide_eq_false (by omega)
    | true =>
      rw [if_pos rfl, List.length_cons, List.length_cons, Bool.true_and]
      exact decide_eq_decide.mpr ⟨fun h => by omega, fun h => by omega⟩
theorem look_some {sg : List Nat} {m : Nat} {w0 : List Nat} {rest : List (List Nat)} : (lookM sg m w0 rest).isSome = (decide (w0 = lookL) && (decide (rest.length = sg.length + 1) && decide ((fineL m rest).length = sg.length + 1))) := by
  unfold lookM rdNs
  have fa := fine_all (m := m) rest
  cases e : (rest.map (rdN m)).all Option.isSome with
  | false =>
    rw [e] at fa
    have fa := of_decide_eq_false fa
    rw [if_neg (by decide)]
    show false = _
    by_cases h1 : rest.length = sg.length + 1
    · rw [decide_eq_false (show ¬ (fineL m rest).length = sg.length + 1 by omega)]
      simp
    · rw [decide_eq_false h1]
      simp
  | true =>
    rw [e] at fa
    have fa := of_decide_eq_true fa
    rw [if_pos rfl]
    dsimp only
    rw [List.length_map, fa]
    by_cases h1 : rest.length = sg.length + 1
    · rw [decide_eq_true h1]
      cases decide (w0 = lookL) <;> rfl
    · rw [decide_eq_false h1]
      cases decide (w0 = lookL) <;> rfl
theorem lay_some {sg : List Nat} {m : Nat} {w1 w2 : List Nat} : (layM sg m w1 w2).isSome = (letB sg w1 && (rdN m w2).isSome) := by
  unfold layM rdNs
  have e0 : ([w2].map (rdN m)).all Option.isSome = (rdN m w2).isSome := by simp
  rw [e0]
  cases e : (rdN m w2).isSome with
  | false =>
    rw [if_neg (by decide), Bool.and_false]
    rfl
  | true =>
    rw [if_pos rfl]
    dsimp only
    cases letB sg w1 <;> rfl
theorem line_is (sg : List Nat) (m : Nat) (line : List Nat) : (deedM sg m line).isSome = lineB sg m (spl 32 line) := by
  unfold deedM lineB
  generalize spl 32 line = ws
  cases e : decide (ws = [stopL]) with
  | true => rfl
  | false =>
    rw [if_neg (by decide), if_neg (by decide)]
    cases ws with
    | nil => rfl
    | cons w0 rest =>
      unfold wordsM lineW
      dsimp only
      cases e1 : decide (w0 = layL) with
      | true =>
        rw [Bool.true_and, if_pos rfl]
        cases e2 : decide (rest.length = 2) with
        | true =>
          rw [if_pos rfl, lay_some, Bool.true_and]
        | false =>
          rw [if_neg (by decide), look_some, of_decide_eq_true e1, show decide (layL = lookL) = false by decide +kernel]
          rfl
      | false =>
        rw [Bool.false_and, if_neg (by decide), if_neg (by decide), look_some]
def spIsLine (K : PySem.W.Frag) : Sp := fun vs H Q _ => ∃ (sg line : List Nat) (m : Nat), vs = [.str (S sg), .int (m : Nat), .str (S line)] ∧ sg.length ≤ 80000 ∧ line.length ≤ 4000 ∧ LowL line ∧ m ≤ 4001 ∧ ∀ H', Same H H' → Q (.bl (deedM sg m line).isSome) H'
section
variable {P : Program} {w : World} {K : PySem.W.Frag} {mg : Str → Option Value} {base : Heap}
theorem ok_is_line {f fP : Addr} {fd fdP : FuncData} (F : Fun K "_law_is_line" "_law_is_line" s__law_is_line f fd) (B : Blt mg)
    (FP : Fun K "_law_place" "_law_place" s__law_place fP fdP) (gP : mg "_law_place" = some (.ref fP)) (bP : Binds K fdP ["_law_word", "_law_size"] []) :
    FnOk P w K mg base CX0 2 f fd ["_law_letters_a", "_law_size", "_law_line"] (spIsLine K) := by
  have GP : FnOk P w K mg base CX0 1 fP fdP ["_law_word", "_law_size"] spPlace := ok_place FP B
  refine F.ok sc__law_is_line (fun vs H Q E h => ?_) (fun cdv A outer s H vs Q E hr h => ?_)
  · obtain ⟨_, _, _, rfl, _⟩ := h
    rfl
  · obtain ⟨sg, line, m, rfl, hsg, hln, hlow, hm, q⟩ := h
    have hu : (A.deeper (envOfC "_law_is_line" (defScope s__law_is_line) s.heap.objs.size f cdv)).units + 64 < cLine := by
      have := hr.units
      omega
    refine ⟨_, (pss_cons (ps_set (i := 3) sc__law_is_line.nd rfl (Or.inl rfl) (pe_split (pv 2) pe_str))
    (pss_cons (ps_if (pt_cmpR (op_eqD hu) (pv 3) (Mq.pe_ls (pa_cons pe_str pa_nil)) (nomark _)) (pss_one (ps_ret pe_bl)) pss_nil)
    (pss_cons (ps_if (pt_cmpR op_eq (pe_ix ix_list (pv 3) pe_int (fun _ _ => rfl)) pe_str (nomark _)) (pss_one (ps_ret (pe_and (pe_cmpR op_eq (pe_callB call_len_seq (by rfl) B.len (by decide +kernel) (pa_cons (pv 3) pa_nil)) pe_int (nomark _)) (pe_and (pe_cmpR op_eq (pe_callB call_len (by rfl) B.len (by decide +kernel) (pa_cons (pe_ix ix_list (pv 3) pe_int (fun _ _ => rfl)) pa_nil)) pe_int (nomark _)) (pe_and (pe_cmpR op_in_sign (pe_ix ix_list (pv 3) pe_int (fun _ _ => rfl)) (pv 0) rfl) (pe_one (pe_call GP (hr.mono (by decide)) (by rfl) gP FP.kp bP .nil pass0 (pa_cons (pe_ix ix_list (pv 3) pe_int (fun _ _ => rfl)) (pa_cons (pv 1) pa_nil))))))))) pss_nil)
    (pss_cons (ps_setLc (i := 4) (own := [("_law_word", 5)]) (g := gName 5) rfl sc__law_is_line.nd rfl rfl (sw_true rfl rfl rfl (by decide +kernel)) (pi_list (pe_slice sl_list (pv 3) (po_some pe_int) po_none)) (blkOk_by (own := [("_law_word", 5)]) (N := ["_law_letters_a", "_law_size", "_law_line", "_law_words", "_law_fine", "_law_word"]) (sc := defScope s__law_is_line) (by decide +kernel)) (fun _ _ _ _ _ => pg_name (i := 5) sc__law_is_line.nd rfl (Or.inl rfl)) (fun _ _ _ _ _ => pts_one (pt_val (pe_call GP (hr.mono (by decide)) (by rfl) gP FP.kp bP .nil pass0 (pa_cons (pv 5) (pa_cons (pv 1) pa_nil))))) (fun _ _ _ _ _ => (pv 5)))
    (pss_one (ps_ret (pe_and (pe_cmpR op_eq (pe_ix ix_list (pv 3) pe_int (fun _ _ => rfl)) pe_str (nomark _)) (pe_and (pe_cmpR op_eq (pe_callB call_len_seq (by rfl) B.len (by decide +kernel) (pa_cons (pv 3) pa_nil)) (pe_op op_add pe_int (pe_callB call_len (by rfl) B.len (by decide +kernel) (pa_cons (pv 0) pa_nil))) (nomark _)) (pe_one (pe_cmpR op_eq (pe_callB call_len_seq (by rfl) B.len (by decide +kernel) (pa_cons (pv 4) pa_nil)) (pe_op op_add pe_int (pe_callB call_len (by rfl) B.len (by decide +kernel) (pa_cons (pv 0) pa_nil))) (nomark _))))))))))), ?_⟩
    have hz : (S line).length = line.length := SX.S_len line
    refine ⟨_, rfl, ⟨_, rfl⟩, S line, S [32], rfl, rfl, rfl, sz_le (by omega), fun p hp => ?_⟩
    rw [spl_S, map_SV]
    have s1 := same_new (o := HO.lst ((spl 32 line).map fun l => V.str (S l))) hp
    have z1 : upd H p (.lst ((spl 32 line).map fun l => V.str (S l))) p = some (.lst (txs (spl 32 line))) := upd_same
    generalize upd H p (.lst ((spl 32 line).map fun l => V.str (S l))) = H1 at s1 z1 ⊢
    have hws : LowLs (spl 32 line) := spl_low hlow
    have hwn : ∀ x ∈ spl 32 line, x.length ≤ 4000 := fun x hx => Nat.le_trans (spl_len hx) hln
    have hwm : (spl 32 line).length ≤ 4001 := Nat.le_trans (spl_many 32 line) (by omega)
    have hne := spl_ne 32 line
    rw [line_is] at q
    generalize spl 32 line = ws at z1 hws hwn hwm hne q ⊢
    unfold lineB at q
    refine ⟨_, rfl, sz_le (n := 1) (by decide), fun p2 hp2 _ => ?_⟩
    have s2 := same_new (o := HO.lst [V.str "stop"]) hp2
    have z2 : upd H1 p2 (.lst [V.str "stop"]) p2 = some (.lst (txs [stopL])) := upd_same
    have z1 := s2 _ _ z1
    have s12 := s1.trans s2
    have hnl : LowLs [stopL] := LowLs.one (show ∀ c ∈ stopL, c < 128 by decide)
    refine ⟨_, _, .lst (SqL.of z1) (dp_txs ws), .lst (SqL.of z2) (dp_txs [stopL]), shaped_txs hws, shaped_txs hnl, _, rfl, ?_⟩
    rw [eqv_txs]
    generalize upd H1 p2 (.lst [V.str "stop"]) = H2 at s12 z1 ⊢
    clear z2 s2 hp2 s1 hnl
    cases e0 : decide (ws = [stopL]) with
    | true =>
      rw [e0, if_pos rfl] at q
      exact ifT rfl (q H2 s12)
    | false =>
      rw [e0, if_neg (by decide)] at q
      refine ifF rfl ?_
      match ws, hne, z1, hws, hwn, hwm, q with
      | w0 :: rest, _, z1, hws, hwn, hwm, q =>
        unfold lineW at q
        dsimp only at q
        have hlen : (txs (w0 :: rest)).length = rest.length + 1 := by rw [List.length_map, List.length_cons]
        refine ⟨_, rfl, p, _, 0, _, rfl, rfl, SqL.of z1, at_line (i := 0) rfl, rfl, _, rfl, ?_⟩
        rw [show decide (V.str (S w0) = V.str "lay") = decide (w0 = layL) from S_dec w0 layL]
        cases e1 : decide (w0 = layL) with
        | true =>
          rw [e1, if_pos rfl] at q
          refine ifT rfl ⟨_, rfl, p, _, rfl, .inl (SqL.of z1), rfl, _, rfl, ?_⟩
          have e3 : decide (V.int ((txs (w0 :: rest)).length : Nat) = V.int 3) = decide (rest.length = 2) := by
            rw [hlen, dec_int]
            exact decide_eq_decide.mpr ⟨fun h => by omega, fun h => by omega⟩
          rw [e3]
          cases e2 : decide (rest.length = 2) with
          | false =>
            rw [e2] at q
            exact ifF rfl (q H2 s12)
          | true =>
            rw [e2, Bool.true_and] at q
            match rest, of_decide_eq_true e2, z1, hws, hwn, q with
            | [w1, w2], _, z1, hws, hwn, q =>
              have q : ∀ H', Same H H' → Q (.bl (letB sg w1 && (rdN m w2).isSome)) H' := q
              have h1 := hwn w1 (by simp)
              refine ifT rfl ⟨_, rfl, p, _, 1, _, rfl, rfl, SqL.of z1, at_line (i := 1) rfl, _, _, rfl, len_S (by omega), rfl, _, rfl, ?_⟩
              have e4 : decide (V.int (w1.length : Nat) = V.int 1) = decide (w1.length = 1) := by
                rw [dec_int]
                exact decide_eq_decide.mpr ⟨fun h => by omega, fun h => by omega⟩
              rw [e4]
              match w1, h1, z1, hws, hwn, q with
              | [], _, z1, hws, hwn, q => exact ifF rfl (q H2 s12)
              | a :: b :: r, _, z1, hws, hwn, q => exact ifF (decide_eq_false (by simp)) (q H2 s12)
              | [c], _, z1, hws, hwn, q =>
                refine ifT rfl ⟨_, rfl, p, _, 1, _, rfl, rfl, SqL.of z1, at_line (i := 1) rfl, _, rfl, c, S sg, rfl, rfl, _, rfl, ?_⟩
                have q : ∀ H', Same H H' → Q (.bl (decide (c ∈ sg) && (rdN m w2).isSome)) H' := q
                rw [show decide (c ∈ (S sg).cps.toList) = decide (c ∈ sg) from rfl]
                cases e5 : decide (c ∈ sg) with
                | false =>
                  rw [e5] at q
                  exact ifF rfl (q H2 s12)
                | true =>
                  rw [e5, Bool.true_and] at q
                  refine ifT rfl ⟨_, rfl, p, _, 2, _, rfl, rfl, SqL.of z1, at_line (i := 2) rfl, _, rfl, w2, m, rfl, ?_, hws _ (by simp), by omega, fun H3 s3 => q H3 (s12.trans s3)⟩
                  have := hwn w2 (by simp)
                  omega
        | false =>
          rw [e1, if_neg (by decide)] at q
          refine ifF rfl ⟨_, rfl, 1, rfl, p, _, rfl, SqL.of z1, fun L hL => ?_⟩
          rw [show cutV (txs (w0 :: rest)) (some 1) none = txs rest from cut_tail _ _]
          have s5 := same_new (o := HO.lst (txs rest)) hL
          have z5 : upd H2 L (.lst (txs rest)) L = some (.lst (txs rest)) := upd_same
          have s15 := s12.trans s5
          have z1 := s5 _ _ z1
          generalize upd H2 L (.lst (txs rest)) = H5 at z5 z1 s15 ⊢
          refine ⟨L, rfl, ⟨_, SqL.of z5⟩, fun D hD => ?_⟩
          rw [List.length_cons] at hwm
          refine lc_it (walk_list (a := L) (xs := txs rest)) (fun i H' => Same H5 H' ∧ H' D = some (.lst (txs (fineL m (rest.take i))))) ⟨same_new hD, upd_same⟩ (fun _ _ _ pp => SqL.of (pp.1 _ _ z5)) ?_ ?_
          · rintro j x H6 H7 hj ⟨s6, zD⟩ ⟨rfl, hx⟩
            rw [List.length_map] at hj
            rw [List.getElem?_map, List.getElem?_eq_getElem hj] at hx
            cases hx
            have hmem : rest[j] ∈ w0 :: rest := List.mem_cons_of_mem _ (List.getElem_mem hj)
            refine ⟨rfl, _, rfl, _, rfl, rest[j], m, rfl, Nat.le_trans (hwn _ hmem) (by decide), hws _ hmem, by omega, fun H8 s8 => ⟨_, rfl, ?_⟩⟩
            have hfl : (fineL m (rest.take j)).length ≤ j := Nat.le_trans (List.length_filter_le _ _) (by rw [List.length_take]; omega)
            have er : fineL m (rest.take (j + 1)) = fineL m (rest.take j) ++ (if (rdN m rest[j]).isSome = true then [rest[j]] else []) := by
              unfold fineL
              rw [List.take_add_one, List.getElem?_eq_getElem hj, List.filter_append]
              congr 1
              show List.filter _ [rest[j]] = _
              rw [List.filter_cons]
              rfl
            cases hb : (rdN m rest[j]).isSome with
            | false =>
              rw [hb, if_neg (by decide), List.append_nil] at er
              refine ifF rfl ⟨s6.trans s8, ?_⟩
              rw [er]
              exact s8 _ _ zD
            | true =>
              rw [hb, if_pos rfl] at er
              refine ifT rfl ⟨_, rfl, _, s8 _ _ zD, sz_lt (by rw [List.length_map]; omega), push_same hD (s6.trans s8), ?_⟩
              rw [upd_same, er]
              exact congrArg (fun z => some (HO.lst z)) (List.map_append (f := fun l : List Nat => V.str (S l)) (l₁ := fineL m (rest.take j)) (l₂ := [rest[j]])).symm
          · rintro H6 ⟨s6, zD⟩
            rw [List.length_map, List.take_length] at zD
            have z1 := s6 _ _ z1
            have s16 := s15.trans s6
            refine ⟨_, rfl, p, _, 0, _, rfl, rfl, SqL.of z1, at_line (i := 0) rfl, rfl, _, rfl, ?_⟩
            rw [show decide (V.str (S w0) = V.str "look") = decide (w0 = lookL) from S_dec w0 lookL]
            cases e2 : decide (w0 = lookL) with
            | false =>
              rw [e2] at q
              exact ifF rfl (q H6 s16)
            | true =>
              rw [e2, Bool.true_and] at q
              refine ifT rfl ⟨_, rfl, p, _, rfl, .inl (SqL.of z1), _, rfl, _, _, rfl, len_S (by omega), _, _, rfl, rfl, rfl, _, rfl, ?_⟩
              have e3 : decide (V.int ((txs (w0 :: rest)).length : Nat) = V.int ((2 : Int) + (sg.length : Nat))) = decide (rest.length = sg.length + 1) := by
                rw [hlen, dec_int]
                exact decide_eq_decide.mpr ⟨fun h => by omega, fun h => by omega⟩
              rw [e3]
              cases e4 : decide (rest.length = sg.length + 1) with
              | false =>
                rw [e4] at q
                exact ifF rfl (q H6 s16)
              | true =>
                rw [e4, Bool.true_and] at q
                refine ifT rfl ⟨_, rfl, D, _, rfl, .inl (SqL.of zD), _, rfl, _, _, rfl, len_S (by omega), _, _, rfl, rfl, rfl, ?_⟩
                have e5 : decide (V.int ((txs (fineL m rest)).length : Nat) = V.int ((1 : Int) + (sg.length : Nat))) = decide ((fineL m rest).length = sg.length + 1) := by
                  rw [List.length_map, dec_int]
                  exact decide_eq_decide.mpr ⟨fun h => by omega, fun h => by omega⟩
                rw [e5]
                exact q H6 s16
end
end Lw

namespace Lw
open PySem PySem.Spec PyProof.Rows L2 Mq
open SX (S)
open TL (numL)
/-! ### the law's own look at a text -/
def badM (t : List Nat) : Option Nat :=
  match pageM t with
  | .inr k => some k
  | .inl _ => none
def headOk : List (List Nat) → Bool
  | [w0, w1] => decide (w0 = programL) && lettersB w1
  | _ => false
theorem headOk_no {ws : List (List Nat)} (h : ¬ ws.length = 2) : headOk ws = false := by
  match ws, h with
  | [], _ => rfl
  | [_], _ => rfl
  | [_, _], h => exact (h rfl).elim
  | _ :: _ :: _ :: _, _ => rfl
theorem headW_ok (l0 : List Nat) : headW l0 = if headOk (spl 32 l0) = true then some ((spl 32 l0).getD 1 []) else none := by
  unfold headW
  generalize spl 32 l0 = ws
  match ws with
  | [] => rfl
  | [_] => rfl
  | [_, _] => rfl
  | _ :: _ :: _ :: _ => rfl
theorem lines_few {sg : List Nat} {ls : List (List Nat)} (hl : ls.length ≤ 999) : linesM sg ls = ls.map (deedM sg ls.length) := by
  refine List.ext_getElem? fun i => ?_
  unfold linesM
  rw [List.getElem?_mapIdx, List.getElem?_map]
  cases e : ls[i]? with
  | none => rfl
  | some l =>
    have hi : i < ls.length := (List.getElem?_eq_some_iff.mp e).1
    show some (if decide (i = 999) = true then none else deedM sg ls.length l) = some (deedM sg ls.length l)
    rw [decide_eq_false (by omega), if_neg (by decide)]
/-- what is noted behind the first line -/
def NotedL (ms : List (Option Dd)) (i : Nat) : List Nat → Prop
  | [] => firstN (ms.drop (i - 1)) (i - 1) = firstN ms 0
  | k :: _ => 1 ≤ k ∧ firstN ms 0 = some (k - 1)
theorem NotedL.bad {ms : List (Option Dd)} {i : Nat} {acc : List Nat} (h : NotedL ms (i + 1) acc) (hd : ms[i]? = some none) : NotedL ms (i + 2) (acc ++ [i + 1]) := by
  cases acc with
  | nil =>
    have h : firstN (ms.drop i) i = firstN ms 0 := h
    rw [firstN_step hd] at h
    exact ⟨by omega, h.symm⟩
  | cons k ks => exact h
theorem NotedL.good {ms : List (Option Dd)} {i : Nat} {n : Dd} {acc : List Nat} (h : NotedL ms (i + 1) acc) (hd : ms[i]? = some (some n)) : NotedL ms (i + 2) acc := by
  cases acc with
  | nil =>
    have h : firstN (ms.drop i) i = firstN ms 0 := h
    rw [firstN_step hd] at h
    exact h
  | cons k ks => exact h
def tHeadW (K : PySem.W.Frag) : TT := fun σ H Q => ∃ W ws, σ[2]? = some (some (.ref W)) ∧ H W = some (.lst (txs ws)) ∧ (∀ w ∈ ws, w.length ≤ 4000) ∧ LowLs ws ∧ ∀ H', Same H H' → Q (!headOk ws) H'
def spBadLine (K : PySem.W.Frag) : Sp := fun vs H Q _ => ∃ v : V, vs = [v] ∧
  ((NoTx K H v ∧ Q (.int 0) H) ∨ ∃ t : List Nat, v = .str (S t) ∧ t.length ≤ 90000 ∧ LowL t ∧ (∀ l ∈ spl 10 t, l.length ≤ 4000) ∧ (spl 10 t).length ≤ 1000 ∧ ∀ H', Same H H' → Q (optN (badM t)) H')
section
variable {P : Program} {w : World} {K : PySem.W.Frag} {mg : Str → Option Value} {base : Heap}
theorem ok_bad_line {f fA fO : Addr} {fd fdA fdO : FuncData} (F : Fun K "_law_bad_line" "_law_bad_line" s__law_bad_line f fd) (B : Blt mg)
    (FA : Fun K "_law_are_letters" "_law_are_letters" s__law_are_letters fA fdA) (gA : mg "_law_are_letters" = some (.ref fA)) (bA : Binds K fdA ["_law_thing"] []) (GA : FnOk P w K mg base CX0 1 fA fdA ["_law_thing"] (spAre K))
    (FO : Fun K "_law_is_line" "_law_is_line" s__law_is_line fO fdO) (gO : mg "_law_is_line" = some (.ref fO)) (bO : Binds K fdO ["_law_letters_a", "_law_size", "_law_line"] []) (GO : FnOk P w K mg base CX0 2 fO fdO ["_law_letters_a", "_law_size", "_law_line"] (spIsLine K)) :
    FnOk P w K mg base CX0 3 f fd ["_law_page"] (spBadLine K) := by
  refine F.ok sc__law_bad_line (fun vs H Q E h => ?_) (fun cdv A outer s H vs Q E hr h => ?_)
  · obtain ⟨_, rfl, _⟩ := h
    rfl
  · obtain ⟨v, rfl, h⟩ := h
    have hu0 : (A.deeper (envOfC "_law_bad_line" (defScope s__law_bad_line) s.heap.objs.size f cdv)).units < cLine := by
      have := hr.un
      omega
    refine ⟨_, (pss_cons (ps_if (pt_not (pt_val (pe_callB call_isi (by rfl) B.isi (by decide +kernel) (pa_cons (pv 0) (pa_cons (pe_bltn (v := .ty "str") (by rfl) B.str (by decide +kernel) rfl) pa_nil))))) (pss_one (ps_ret pe_int)) pss_nil)
    (pss_cons (ps_set (i := 1) sc__law_bad_line.nd rfl (Or.inr rfl) (pe_split (pv 0) pe_str))
    (pss_cons (ps_set (i := 2) sc__law_bad_line.nd rfl (Or.inr rfl) (pe_split (pe_ix ix_list (pv 1) pe_int (fun _ _ => rfl)) pe_str))
    (pss_cons (ps_if (PT_imp (t' := tHeadW K) (PW.pt (pw_or (pt_cmpR op_ne (pe_callB call_len_seq (by rfl) B.len (by decide +kernel) (pa_cons (pv 2) pa_nil)) pe_int (nomark _)) (pw_or (pt_cmpR op_ne (pe_ix ix_list (pv 2) pe_int (fun _ _ => rfl)) pe_str (nomark _)) (pw_or1 (pt_not (pt_val (pe_call GA (hr.mono (by decide)) (by rfl) gA FA.kp bA .nil pass0 (pa_cons (pe_ix ix_list (pv 2) pe_int (fun _ _ => rfl)) pa_nil)))))))) (fun σ H Q h => by
        obtain ⟨W, ws, h2, hW, hlen, hlow, q⟩ := h
        refine ⟨_, h2, W, _, rfl, .inl (SqL.of hW), rfl, _, rfl, ?_⟩
        have e : decide (V.int ((txs ws).length : Nat) = V.int 2) = decide (ws.length = 2) := by
          rw [dec_int, List.length_map]
          exact decide_eq_decide.mpr ⟨fun h => by omega, fun h => by omega⟩
        rw [e]
        by_cases h : ws.length = 2
        rotate_left
        · rw [headOk_no h] at q
          rw [decide_eq_false h]
          exact ifT rfl (q H (Same.refl H))
        · rw [decide_eq_true h]
          match ws, h, hW, hlen, hlow, q with
          | [w0, w1], _, hW, hlen, hlow, q =>
            have q : ∀ H', Same H H' → Q (!(decide (w0 = programL) && lettersB w1)) H' := q
            refine ifF rfl ⟨_, h2, W, _, 0, _, rfl, rfl, SqL.of hW, at_line (i := 0) rfl, rfl, _, rfl, ?_⟩
            rw [show decide (V.str (S w0) = V.str "program") = decide (w0 = programL) from S_dec w0 programL]
            cases e1 : decide (w0 = programL) with
            | false =>
              rw [e1] at q
              exact ifT rfl (q H (Same.refl H))
            | true =>
              rw [e1, Bool.true_and] at q
              refine ifF rfl ⟨_, h2, W, _, 1, _, rfl, rfl, SqL.of hW, at_line (i := 1) rfl, _, .str (S w1), 4000, 0, rfl, .str _, okD_str (hlow w1 (by simp)) (hlen w1 (by simp)), by decide, fun H1 s1 => ⟨_, rfl, q H1 s1⟩⟩)) (pss_one (ps_ret pe_int)) pss_nil)
    (pss_cons (ps_if (pt_cmpR op_eq (pe_callB call_len_seq (by rfl) B.len (by decide +kernel) (pa_cons (pv 1) pa_nil)) pe_int (nomark _)) (pss_one (ps_ret pe_int)) pss_nil)
    (pss_cons (ps_setLc (i := 3) (own := [("_law_k", 4), ("_law_line", 5)]) (g := gTup K 2 (gCons (gName 4) (gCons (gName 5) gNil))) rfl sc__law_bad_line.nd rfl rfl (sw_true rfl rfl rfl (by decide +kernel)) (pi_enum (by rfl) B.enumerate (pa_cons (pv 1) pa_nil)) (blkOk_by (own := [("_law_k", 4), ("_law_line", 5)]) (N := ["_law_page", "_law_lines", "_law_words", "_law_odd_here", "_law_k", "_law_line"]) (sc := defScope s__law_bad_line) (by decide +kernel)) (fun _ _ _ _ _ => pg_tup rfl (pgs_cons (pg_name (i := 4) sc__law_bad_line.nd rfl (Or.inl rfl)) (pgs_cons (pg_name (i := 5) sc__law_bad_line.nd rfl (Or.inl rfl)) pgs_nil))) (fun _ _ _ _ _ => pts_one (PW.pt (pw_and (pt_cmpR op_gt (pv 4) pe_int (nomark _)) (pw_and1 (pt_not (pt_val (pe_call GO (hr.mono (by decide)) (by rfl) gO FO.kp bO .nil pass0 (pa_cons (pe_ix (ix_listK (K := K) rfl) (pv 2) pe_int (fun _ _ => rfl)) (pa_cons (pe_op op_sub (pe_callB (call_lenK (K := K) rfl) (by rfl) B.len (by decide +kernel) (pa_cons (pv 1) pa_nil)) pe_int) (pa_cons (pv 5) pa_nil)))))))))) (fun _ _ _ _ _ => (pv 4)))
    (pss_one (ps_ret (pe_ifExp (pt_cmpR (op_neNil hu0) (pv 3) (Mq.pe_ls pa_nil) (nomark _)) (pe_op op_add (pe_ix ix_list (pv 3) pe_int (fun _ _ => rfl)) pe_int) pe_non))))))))), ?_⟩
    rcases h with ⟨⟨c, ty, kt⟩, q⟩ | ⟨t, rfl, ht, hlow, hsp, hsn, q⟩
    · exact ⟨_, rfl, _, .ty "str", _, _, false, rfl, .ty _, ty, kt, false, rfl, ifT rfl q⟩
    refine ⟨_, rfl, _, .ty "str", _, _, true, rfl, .ty _, .base (.str _), kit_self, true, rfl, ifF rfl ?_⟩
    have hz : (S t).length = t.length := SX.S_len t
    refine ⟨_, rfl, ⟨_, rfl⟩, S t, S [10], rfl, rfl, rfl, sz_le (by omega), fun p hp => ?_⟩
    rw [spl_S, map_SV]
    have s1 := same_new (o := HO.lst ((spl 10 t).map fun l => V.str (S l))) hp
    have z1 : upd H p (.lst ((spl 10 t).map fun l => V.str (S l))) p = some (.lst (txs (spl 10 t))) := upd_same
    generalize upd H p (.lst ((spl 10 t).map fun l => V.str (S l))) = H1 at s1 z1 ⊢
    have hw : ∀ x ∈ spl 10 t, LowL x := fun x hx c hc => hlow c (spl_mem hx hc)
    have hne := spl_ne 10 t
    unfold badM pageM headM at q
    generalize spl 10 t = lines at z1 hsp hw hne hsn q ⊢
    match lines, hne, hsp, hw, hsn, z1, q with
    | l0 :: ls, _, hsp, hw, hsn, z1, q =>
      dsimp only at q
      rw [headW_ok] at q
      have hl0 := hsp l0 List.mem_cons_self
      have hw0 := hw l0 List.mem_cons_self
      refine ⟨_, rfl, p, _, 0, _, rfl, rfl, SqL.of z1, at_line (i := 0) rfl, ⟨_, rfl⟩, S l0, S [32], rfl, rfl, rfl, sz_le (by rw [SX.S_len]; omega), fun p2 hp2 => ?_⟩
      rw [spl_S, map_SV]
      have s2 := same_new (o := HO.lst ((spl 32 l0).map fun l => V.str (S l))) hp2
      have z2 : upd H1 p2 (.lst ((spl 32 l0).map fun l => V.str (S l))) p2 = some (.lst (txs (spl 32 l0))) := upd_same
      have z1 := s2 _ _ z1
      have s12 := s1.trans s2
      generalize upd H1 p2 (.lst ((spl 32 l0).map fun l => V.str (S l))) = H2 at s12 z1 z2 ⊢
      have hwl : ∀ x ∈ spl 32 l0, x.length ≤ 4000 := fun x hx => Nat.le_trans (spl_len hx) hl0
      have hww : LowLs (spl 32 l0) := spl_low hw0
      generalize spl 32 l0 = ws at z2 hwl hww q ⊢
      refine ⟨p2, ws, rfl, z2, hwl, hww, fun H3 s3 => ?_⟩
      have z1 := s3 _ _ z1
      have z2 := s3 _ _ z2
      have s13 := s12.trans s3
      cases eh : headOk ws with
      | false =>
        rw [eh, if_neg (by decide)] at q
        exact ifT rfl (q H3 s13)
      | true =>
        rw [eh, if_pos rfl] at q
        obtain ⟨w0, w1, rfl⟩ : ∃ w0 w1, ws = [w0, w1] := by
          match ws, eh with
          | [w0, w1], _ => exact ⟨w0, w1, rfl⟩
        have q : ∀ H', Same H H' → Q (optN (match (if ls.isEmpty = true then (.inr 2 : (List Nat × List Dd) ⊕ Nat) else match firstN (linesM w1 ls) 0 with
            | some k => .inr (k + 2)
            | none => .inl (w1, (linesM w1 ls).filterMap id)) with
          | .inr k => some k
          | .inl _ => none)) H' := q
        rw [List.length_cons] at hsn
        refine ifF rfl ⟨_, rfl, p, _, rfl, .inl (SqL.of z1), rfl, _, rfl, ?_⟩
        have e : decide (V.int ((txs (l0 :: ls)).length : Nat) = V.int 1) = ls.isEmpty := by
          rw [dec_int, List.length_map]
          cases ls with
          | nil => rfl
          | cons a b => exact decide_eq_false (by rw [List.length_cons, List.length_cons]; omega)
        rw [e]
        cases he : ls.isEmpty with
        | true =>
          rw [he, if_pos rfl] at q
          exact ifT rfl (q H3 s13)
        | false =>
          rw [he, if_neg (by decide)] at q
          rw [lines_few (by omega)] at q
          have hlm : (ls.map (deedM w1 ls.length)).length = ls.length := List.length_map _
          generalize hms : ls.map (deedM w1 ls.length) = ms at q hlm
          refine ifF rfl ⟨_, rfl, p, _, rfl, SqL.of z1, fun L hL => ?_⟩
          refine lc_it (walk_enum (K := K) (a := p) (xs := txs (l0 :: ls))) (fun i H' => Same H3 H' ∧ ∃ acc : List Nat, H' L = some (.lst (acc.map fun k => V.int (k : Nat))) ∧ acc.length ≤ i ∧ NotedL ms i acc) ⟨same_new hL, [], upd_same, Nat.le_refl 0, rfl⟩ (fun i H' _ p => SqL.of (p.1 _ _ z1)) ?_ ?_
          · rintro i x H4 H5 hi ⟨s4, acc, zL, hal, hno⟩ ⟨T1, y1, y2, rfl, hT, rfl, hy1, hy2⟩
            cases hy1
            have s5 := same_new (o := HO.tup [V.int (i : Nat), y2]) hT
            have t5 := s4.trans s5
            have zL := s5 _ _ zL
            rw [List.length_map, List.length_cons] at hi
            refine ⟨T1, _, rfl, Or.inl (Or.inl upd_same), rfl, _, _, rfl, _, _, rfl, rfl, rfl, ?_⟩
            generalize upd H4 T1 (.tup [V.int (i : Nat), y2]) = H5 at t5 zL ⊢
            refine ⟨_, rfl, _, _, rfl, rfl, _, rfl, ?_⟩
            cases i with
            | zero =>
              refine ifF rfl ⟨t5, acc, zL, by omega, ?_⟩
              cases acc with
              | nil => exact hno
              | cons k ks => exact absurd hal (by rw [List.length_cons]; omega)
            | succ i =>
              refine ifT (decide_eq_true (by omega)) ?_
              have hil : i < ls.length := by omega
              have hy2' : (txs (l0 :: ls))[i + 1]? = some y2 := hy2
              have ey : y2 = .str (S ls[i]) := by
                have h1 : (l0 :: ls)[i + 1]? = some ls[i] := by rw [List.getElem?_cons_succ, List.getElem?_eq_getElem hil]
                have h2 : (txs (l0 :: ls))[i + 1]? = some (.str (S ls[i])) := by
                  show (List.map _ (l0 :: ls))[i + 1]? = _
                  rw [List.getElem?_map, h1]
                  rfl
                rw [h2] at hy2'
                exact (Option.some.inj hy2').symm
              subst ey
              have hmem : ls[i] ∈ l0 :: ls := List.mem_cons_of_mem _ (List.getElem_mem hil)
              have em : (((txs (l0 :: ls)).length : Nat) : Int) - 1 = ((ls.length : Nat) : Int) := by
                rw [List.length_map, List.length_cons]
                omega
              have hm2 : ms[i]? = some (deedM w1 ls.length ls[i]) := by
                rw [← hms, List.getElem?_map, List.getElem?_eq_getElem hil]
                rfl
              refine ⟨_, rfl, p2, _, 1, _, rfl, rfl, SqL.of (t5 _ _ z2), at_line (i := 1) rfl, _, rfl, _, _, rfl, Or.inl ⟨_, SqL.of (t5 _ _ z1), rfl⟩, _, _, rfl, rfl, _, rfl, w1, ls[i], ls.length, ?_, ?_, hsp _ hmem, hw _ hmem, by omega, fun H6 s6 => ⟨_, rfl, ?_⟩⟩
              · show [V.str (S w1), V.int ((((txs (l0 :: ls)).length : Nat) : Int) - 1), V.str (S ls[i])] = _
                rw [em]
              · have := hwl w1 (by simp)
                omega
              have zL := s6 _ _ zL
              cases hb : deedM w1 ls.length ls[i] with
              | none =>
                rw [hb] at hm2
                refine ifT rfl ⟨_, rfl, _, zL, sz_lt (by rw [List.length_map]; omega), push_same hL (t5.trans s6), acc ++ [i + 1], ?_, by rw [List.length_append]; exact Nat.succ_le_succ hal, hno.bad hm2⟩
                rw [upd_same, List.map_append]
                rfl
              | some n =>
                rw [hb] at hm2
                exact ifF rfl ⟨t5.trans s6, acc, zL, by omega, hno.good hm2⟩
          · rintro H4 ⟨s4, acc, zL, hal, hno⟩
            rw [List.length_map, List.length_cons] at hno
            refine ⟨_, rfl, sz_le (n := 0) (by decide), fun p2 hp2 _ => ?_⟩
            have s5 := same_new (o := HO.lst []) hp2
            have t5 := (s13.trans s4).trans s5
            refine ⟨L, p2, _, rfl, rfl, SqL.of (s5 _ _ zL), SqL.of upd_same, _, rfl, ?_⟩
            cases acc with
            | nil =>
              have hno : firstN (ms.drop (ls.length + 1 - 1)) (ls.length + 1 - 1) = firstN ms 0 := hno
              rw [Nat.add_sub_cancel, ← hlm, List.drop_of_length_le (Nat.le_refl _)] at hno
              rw [← hno] at q
              exact ifF rfl (q _ t5)
            | cons k ks =>
              obtain ⟨h1, hno⟩ := hno
              rw [hno] at q
              refine ifT rfl ⟨_, rfl, L, _, 0, _, rfl, rfl, SqL.of (s5 _ _ zL), atI_nat (j := 0) rfl, _, _, rfl, rfl, ?_⟩
              have q := q _ t5
              have e : (((k : Nat) : Int) + 1) = ((k - 1 + 2 : Nat) : Int) := by omega
              show Q (V.int (((k : Nat) : Int) + 1)) _
              rw [e]
              exact q
end
end Lw

namespace Mq
open PySem PySem.Spec PyProof.Rows L2
open SX (S)
/-! ### small whole numbers in bounds -/
theorem okD_int {k : Nat} (h : k ≤ 4100) : OkD 20 0 (.int (k : Nat)) := by
  have h0 : ((List.range 4101).all fun n => decide ((PyData.int (n : Nat)).shown.length ≤ 13) && ((PyData.int (n : Nat)).showable && decide ((PyData.int (n : Nat)).weight ≤ 20))) = true := by decide +kernel
  have h1 := List.all_eq_true.mp h0 k (List.mem_range.mpr (by omega))
  obtain ⟨a, b⟩ := Bool.and_eq_true_iff.mp h1
  obtain ⟨b, c⟩ := Bool.and_eq_true_iff.mp b
  refine ⟨⟨b, Nat.le_refl 0, of_decide_eq_true c, ?_⟩, rfl⟩
  show decide ((PyData.int (k : Nat)).shown.length ≤ 60) = true
  have := of_decide_eq_true a
  exact decide_eq_true (by omega)
end Mq

namespace Mq
open PySem PySem.Spec PyProof.Rows L2
open SX (S)
/-! ### bools among whole numbers, ahead -/
def bI (b : Bool) : Int := if b = true then 1 else 0
section
variable {X : Cx}
theorem op_addB : OpR X (binaryOp .Add) (fun x y H Q => ∃ k i, x = .bl k ∧ y = .int i ∧ Q (.int (bI k + i)) H) := by
  intro pins s σ H x y v u Q I rx ry h
  obtain ⟨k, i, rfl, rfl, q⟩ := h
  obtain ⟨t, rfl⟩ := ry
  cases rx
  exact PySem.IntBool.add_bool_int ⟨.int (bI k + i), H, I.tok _, ⟨_, rfl⟩, q⟩
theorem op_subB : OpR X (binaryOp .Sub) (fun x y H Q => ∃ k i, x = .bl k ∧ y = .int i ∧ Q (.int (bI k - i)) H) := by
  intro pins s σ H x y v u Q I rx ry h
  obtain ⟨k, i, rfl, rfl, q⟩ := h
  obtain ⟨t, rfl⟩ := ry
  cases rx
  exact PySem.IntBool.sub_bool_int ⟨.int (bI k - i), H, I.tok _, ⟨_, rfl⟩, q⟩
theorem op_eqB : OpR X (compareOp .Eq) (fun x y H Q => ∃ k i, x = .bl k ∧ y = .int i ∧ Q (.bl (bI k == i)) H) := by
  intro pins s σ H x y v u Q I rx ry h
  obtain ⟨k, i, rfl, rfl, q⟩ := h
  obtain ⟨t, rfl⟩ := ry
  cases rx
  exact PySem.EqBoolInt.eq_bool_int (fin_bl I q rfl)
theorem call_strB : CallR X (.type "str") (fun xs H Q => ∃ k, xs = [.bl k] ∧ Q (.str (if k then "True" else "False")) H) := by
  intro pins s σ H xs us Q I r h
  obtain ⟨k, rfl, q⟩ := h
  obtain ⟨u, rfl, e⟩ := vals1 r
  cases e
  exact PySem.P.str_of_bool ⟨.str _, H, I.tok _, ⟨_, rfl⟩, q⟩
theorem cr_or {v : Value} {r1 r2 : List V → Hp → VK → Prop} (h1 : CallR X v r1) (h2 : CallR X v r2) : CallR X v (fun xs H Q => r1 xs H Q ∨ r2 xs H Q) := by
  intro pins s σ H xs us Q I r h
  rcases h with h | h
  · exact h1 pins s σ H xs us Q I r h
  · exact h2 pins s σ H xs us Q I r h
end
/-! ### whole numbers in bounds, at any depth -/
mutual
def intB (b : Nat) : PyData → Bool
  | .int i => decide (-(b : Int) ≤ i) && decide (i ≤ (10 ^ 39 : Nat) + 6 * (b : Int))
  | .tuple ds => intAll b ds
  | _ => true
def intAll (b : Nat) : List PyData → Bool
  | [] => true
  | d :: ds => intB b d && intAll b ds
end
theorem intAll_of {b : Nat} : ∀ {ds : List PyData}, (∀ d ∈ ds, intB b d = true) → intAll b ds = true
  | [], _ => rfl
  | d :: ds, h => by
    show (intB b d && intAll b ds) = true
    rw [h d List.mem_cons_self, intAll_of fun x hx => h x (List.mem_cons_of_mem _ hx)]
    rfl
theorem intAll_mem {b : Nat} : ∀ {ds : List PyData}, intAll b ds = true → ∀ d ∈ ds, intB b d = true
  | d :: ds, h, x, hx => by
    obtain ⟨h1, h2⟩ := Bool.and_eq_true_iff.mp (show (intB b d && intAll b ds) = true from h)
    rcases List.mem_cons.mp hx with rfl | hx
    · exact h1
    · exact intAll_mem h2 x hx
theorem intAll_app {b : Nat} {ds es : List PyData} (h : intAll b ds = true) (k : intAll b es = true) : intAll b (ds ++ es) = true :=
  intAll_of fun d hd => (List.mem_append.mp hd).elim (intAll_mem h d) (intAll_mem k d)
theorem intAll_sub {b : Nat} {ds es : List PyData} (s : es.Sublist ds) (h : intAll b ds = true) : intAll b es = true := intAll_of fun d hd => intAll_mem h d (s.subset hd)
theorem intAll_rev {b : Nat} {ds : List PyData} (h : intAll b ds = true) : intAll b ds.reverse = true := intAll_of fun d hd => intAll_mem h d (List.mem_reverse.mp hd)
mutual
theorem intB_mono {b c : Nat} (hbc : b ≤ c) : ∀ d : PyData, intB b d = true → intB c d = true
  | .int i, h => by
    obtain ⟨h1, h2⟩ := Bool.and_eq_true_iff.mp (show (decide (-(b : Int) ≤ i) && decide (i ≤ (10 ^ 39 : Nat) + 6 * (b : Int))) = true from h)
    have h1 := of_decide_eq_true h1
    have h2 := of_decide_eq_true h2
    show (decide (-(c : Int) ≤ i) && decide (i ≤ (10 ^ 39 : Nat) + 6 * (c : Int))) = true
    rw [decide_eq_true (by omega), decide_eq_true (by omega)]
    rfl
  | .tuple ds, h => intAll_mono hbc ds h
  | .none, _ => rfl
  | .bool _, _ => rfl
  | .str _, _ => rfl
  | .list _, _ => rfl
  | .dict _, _ => rfl
theorem intAll_mono {b c : Nat} (hbc : b ≤ c) : ∀ ds : List PyData, intAll b ds = true → intAll c ds = true
  | [], _ => rfl
  | d :: ds, h => by
    obtain ⟨h1, h2⟩ := Bool.and_eq_true_iff.mp (show (intB b d && intAll b ds) = true from h)
    show (intB c d && intAll c ds) = true
    rw [intB_mono hbc d h1, intAll_mono hbc ds h2]
    rfl
end
theorem intB_int {b : Nat} {i : Int} (h1 : -(b : Int) ≤ i) (h2 : i ≤ (10 ^ 39 : Nat) + 6 * (b : Int)) : intB b (.int i) = true := by
  show (decide (-(b : Int) ≤ i) && decide (i ≤ (10 ^ 39 : Nat) + 6 * (b : Int))) = true
  rw [decide_eq_true h1, decide_eq_true h2]
  rfl
theorem intB_get {b : Nat} {i : Int} (h : intB b (.int i) = true) : -(b : Int) ≤ i ∧ i ≤ (10 ^ 39 : Nat) + 6 * (b : Int) := by
  obtain ⟨h1, h2⟩ := Bool.and_eq_true_iff.mp (show (decide (-(b : Int) ≤ i) && decide (i ≤ (10 ^ 39 : Nat) + 6 * (b : Int))) = true from h)
  exact ⟨of_decide_eq_true h1, of_decide_eq_true h2⟩
/-- the text of such a number -/
theorem int_text {i : Int} (h1 : -30 ≤ i) (h2 : i ≤ (10 ^ 40 : Nat)) : ∃ l : List Nat, Str.ofString (toString i) = S l ∧ l.length ≤ 45 ∧ ∀ c ∈ l, c < 128 := by
  by_cases h : i < 0
  · have key : ((List.range 30).all fun k => decide ((Str.ofString (toString (-((k : Int) + 1)))).cps.toList.length ≤ 45) && (Str.ofString (toString (-((k : Int) + 1)))).cps.toList.all fun c => decide (c < 128)) = true := by decide +kernel
    have h3 := List.all_eq_true.mp key (-i - 1).toNat (List.mem_range.mpr (by omega))
    have e : (-((((-i - 1).toNat : Nat) : Int) + 1)) = i := by omega
    rw [e] at h3
    obtain ⟨a, b⟩ := Bool.and_eq_true_iff.mp h3
    exact ⟨_, (S_of _).symm, of_decide_eq_true a, fun c hc => of_decide_eq_true (List.all_eq_true.mp b c hc)⟩
  · obtain ⟨n, rfl⟩ : ∃ n : Nat, i = (n : Int) := ⟨i.toNat, by omega⟩
    refine ⟨TL.numL n, SX.num_S n, Nat.le_trans (TL.numL_len (k := 41) (by decide) ?_) (by decide), fun c hc => ?_⟩
    · have h3 : n ≤ 10 ^ 40 := by omega
      have h4 : (10 ^ 40 : Nat) < 10 ^ 41 := by decide
      omega
    · by_cases hh : c < 48 ∨ 57 < c
      · exact (TL.numL_free hh hc).elim
      · omega
theorem int_log {i : Int} (h1 : -30 ≤ i) (h2 : i ≤ (10 ^ 40 : Nat)) : i.natAbs.log2 < 140 := by
  have h3 : i.natAbs < 2 ^ 140 := by
    have h4 : (10 ^ 40 : Nat) < 2 ^ 140 := by decide
    have h5 : (30 : Nat) < 2 ^ 140 := by decide
    omega
  rcases Nat.eq_zero_or_pos i.natAbs with h | h
  · rw [h]
    decide
  · exact (Nat.log2_lt (by omega)).mpr h3
theorem okD_intW {i : Int} (h1 : -30 ≤ i) (h2 : i ≤ (10 ^ 40 : Nat)) : OkD 150 0 (.int i) := by
  have hl := int_log h1 h2
  obtain ⟨l, e, hn, _⟩ := int_text h1 h2
  refine ⟨⟨?_, Nat.le_refl 0, ?_, ?_⟩, rfl⟩
  · show decide (i.natAbs.log2 < 1920) = true
    exact decide_eq_true (by omega)
  · show (if (i == 0) = true then 0 else i.natAbs.log2 + 1) ≤ 150
    split
    · exact Nat.zero_le _
    · omega
  · show decide ((Str.ofString (toString i)).length ≤ 60) = true
    refine decide_eq_true ?_
    rw [e, SX.S_len]
    omega
theorem intAll_one {b : Nat} {ds : List PyData} (h : intAll b ds = true) : intAll b [.tuple ds] = true := by
  show (intAll b ds && true) = true
  rw [h]
  rfl
theorem intAll_zero (b : Nat) : intAll b [.int 0] = true := by
  show (intB b (.int 0) && true) = true
  rw [intB_int (by omega) (by omega)]
  rfl
theorem boolS_text (k : Bool) : ∃ l : List Nat, (if k then "True" else "False" : Str) = S l ∧ l.length ≤ 45 ∧ ∀ c ∈ l, c < 128 := by
  cases k with
  | true => exact ⟨[84, 114, 117, 101], by decide +kernel, by decide, by decide⟩
  | false => exact ⟨[70, 97, 108, 115, 101], by decide +kernel, by decide, by decide⟩
theorem mem_twice {α : Type} {xs : List α} {x : α} (h : x ∈ (List.replicate (2 : Int).toNat xs).flatten) : x ∈ xs := by
  obtain ⟨l, h1, h2⟩ := List.mem_flatten.mp h
  rw [(List.mem_replicate.mp h1).2] at h2
  exact h2
/-- a value and its data, in bounds, its whole numbers too -/
def OdI (K : PySem.W.Frag) (N : Addr → Prop) (w n b : Nat) (H : Hp) (v : V) : Prop := ∃ d, Dv K N H v d ∧ OkD w n d ∧ intB b d = true
section
variable {K : PySem.W.Frag} {N N' : Addr → Prop} {H H' : Hp} {w n b w' n' b' : Nat} {v : V}
theorem OdI.same (h : OdI K N w n b H v) (e : Same H H') : OdI K N w n b H' v := let ⟨d, a, b, c⟩ := h; ⟨d, a.same e, b, c⟩
theorem OdI.mono (h : OdI K N w n b H v) (hN : ∀ a, N a → N' a) (hw : w ≤ w') (hn : n ≤ n') (hb : b ≤ b') : OdI K N' w' n' b' H v := let ⟨d, x, y, z⟩ := h; ⟨d, x.mono hN, y.mono hw hn, intB_mono hb d z⟩
theorem OdI.kp (h : OdI K N w n b H v) (e1 : ∀ a o, N a → H a = some o → H' a = some o) (e2 : ∀ a xs, SqT K H a xs → SqT K H' a xs) : OdI K N w n b H' v := let ⟨d, x, y, z⟩ := h; ⟨d, x.kp e1 e2, y, z⟩
end
end Mq

namespace Mq
open PySem PySem.Spec PyProof.Rows L2
/-! ### a value that is only read from here on -/
def tFrz (te : TE) : TE := fun σ H Q => te σ H fun x H1 => ∃ d u, x = .ref d ∧ H1 d = some u ∧ Mut (some u) ∧ ∀ od, Q (.ref d) (upd H1 d (.frz od u))
theorem pe_frz {X : Cx} {e : Expr} {te : TE} (h : PE X e te) : PE X e (tFrz te) := by
  refine ⟨fun pins s σ H Q I hw => ?_⟩
  refine thn (h.run pins s σ H _ I hw) fun v s1 ⟨x, H1, I1, r, d, u, ex, hd, mu, q⟩ => ?_
  subst ex
  obtain ⟨od, I2⟩ := I1.lock hd mu
  exact ⟨.ref d, _, I2, r, q od⟩
end Mq

namespace Lw
open PySem PySem.Spec PyProof.Rows L2 Mq
open SX (S)
/-! ### other values in the place of one -/
def spOdd (K : PySem.W.Frag) : Sp := fun vs H Q _ => ∃ (D C : Addr) (T : Nat) (v : V) (d : PyData) (n b : Nat) (N : Addr → Prop), vs = [.ref D, v] ∧ DeckAt D C T H ∧ T ≤ 950000 ∧ Dv K N H v d ∧ (∀ a, N a → a ≠ D ∧ a ≠ C) ∧ OkD d.weight n d ∧ d.weight ≤ 20000 ∧ intB b d = true ∧ b ≤ 5 ∧
  ∀ H' u, DeckAt D C (T + 1) H' → Off D C H H' → OdI K (fun a => N a ∨ H a = none) (2 * d.weight + 200) (n + 3) (b + 1) H' u → Q u H'
section
variable {P : Program} {w : World} {K : PySem.W.Frag} {mg : Str → Option Value} {base : Heap}
theorem ok_odd {f fP : Addr} {fd fdP : FuncData} (F : Fun K "_law_odd" "_law_odd" s__law_odd f fd) (B : Blt mg)
    (FP : Fun K "_law_pick" "_law_pick" s__law_pick fP fdP) (gP : mg "_law_pick" = some (.ref fP)) (bP : Binds K fdP ["_law_deck_here", "_law_some"] []) (GP : FnOk P w K mg base CX0 2 fP fdP ["_law_deck_here", "_law_some"] spPick) :
    FnOk P w K mg base CX0 3 f fd ["_law_deck_here", "_law_it"] (spOdd K) := by
  refine F.ok sc__law_odd (fun vs H Q E h => ?_) (fun cdv A outer s0 H vs Q E hr h => ?_)
  · obtain ⟨_, _, _, _, _, _, _, _, rfl, _⟩ := h
    rfl
  · obtain ⟨D, C, T, v, dv, nv, bv, N, rfl, hdk, hT, hv, hN, hok, hwv, hib, hbv, q⟩ := h
    refine ⟨_, (pss_cons (ps_set (i := 2) sc__law_odd.nd rfl (Or.inl rfl) (Mq.pe_ls (pa_cons pe_non (pa_cons pe_bl (pa_cons pe_bl (pa_cons pe_int (pa_cons pe_int (pa_cons (pe_un un_neg pe_int) (pa_cons pe_int (pa_cons (pe_op op_pow pe_int pe_int) (pa_cons pe_str (pa_cons pe_str (pa_cons pe_str (pa_cons pe_str (pa_cons pe_str (pa_cons pe_str (pa_cons pe_str (pa_cons pe_str (pa_cons pe_str (pa_cons (pe_tup pa_nil) (pa_cons (pe_tup (pa_cons pe_int pa_nil)) pa_nil)))))))))))))))))))))
      (pss_cons (ps_set (i := 2) sc__law_odd.nd rfl (Or.inl rfl) (pe_op op_cat (pv 2) (Mq.pe_ls (pa_cons (Mq.pe_ls pa_nil) (pa_cons pe_dnewK (pa_cons (pe_tup (pa_cons pe_str pa_nil)) (pa_cons (pe_tup (pa_cons pe_str (pa_cons (pe_tup (pa_cons pe_int (pa_cons pe_int pa_nil))) pa_nil))) (pa_cons (pe_tup (pa_cons pe_str (pa_cons pe_str (pa_cons pe_int pa_nil)))) (pa_cons (pe_tup (pa_cons pe_str (pa_cons pe_int pa_nil))) (pa_cons (pe_tup (pa_cons pe_str pa_nil)) pa_nil))))))))))
      (pss_cons (ps_if (pt_val (pe_callB call_isi (by rfl) B.isi (by decide +kernel) (pa_cons (pv 1) (pa_cons (pe_bltn (v := .ty "tuple") (by rfl) B.tuple (by decide +kernel) rfl) pa_nil)))) (pss_one (ps_set (i := 2) sc__law_odd.nd rfl (Or.inl rfl) (pe_op op_cat (pv 2) (pe_op op_rep (Mq.pe_ls (pa_cons (pe_callTy call_lsN (by rfl) B.list (by decide +kernel) (pa_cons (pv 1) pa_nil)) (pa_cons (pe_slice sl_tupN (pv 1) (po_some pe_int) po_none) (pa_cons (pe_slice sl_tupN (pv 1) po_none (po_some (pe_un un_neg pe_int))) (pa_cons (pe_op op_catN (pv 1) (pe_slice sl_tupN (pv 1) (po_some (pe_un un_neg pe_int)) po_none)) (pa_cons (pe_revT (pv 1)) (pa_cons (pe_tup (pa_cons (pv 1) pa_nil)) (pa_cons (pe_op op_catN (pv 1) (pe_tup (pa_cons pe_int pa_nil))) pa_nil)))))))) pe_int)))) pss_nil)
      (pss_cons (ps_if (pt_val (pe_callB call_isi (by rfl) B.isi (by decide +kernel) (pa_cons (pv 1) (pa_cons (pe_bltn (v := .ty "int") (by rfl) B.int (by decide +kernel) rfl) pa_nil)))) (pss_one (ps_set (i := 2) sc__law_odd.nd rfl (Or.inl rfl) (pe_op op_cat (pv 2) (pe_op op_rep (Mq.pe_ls (pa_cons (pe_op (op_or op_add op_addB) (pv 1) pe_int) (pa_cons (pe_op (op_or op_sub op_subB) (pv 1) pe_int) (pa_cons (pe_cmpR (op_or op_eq op_eqB) (pv 1) pe_int (nomark _)) (pa_cons (pe_callTy (Mq.cr_or call_str_int call_strB) (by rfl) B.str (by decide +kernel) (pa_cons (pv 1) pa_nil)) (pa_cons (pe_op (op_or op_add op_addB) (pv 1) pe_int) pa_nil)))))) pe_int)))) pss_nil)
      (pss_cons (ps_if (pt_val (pe_callB call_isi (by rfl) B.isi (by decide +kernel) (pa_cons (pv 1) (pa_cons (pe_bltn (v := .ty "str") (by rfl) B.str (by decide +kernel) rfl) pa_nil)))) (pss_one (ps_set (i := 2) sc__law_odd.nd rfl (Or.inl rfl) (pe_op op_cat (pv 2) (pe_op op_rep (Mq.pe_ls (pa_cons (pe_op op_add_str (pv 1) pe_str) (pa_cons (pe_revS (pv 1)) (pa_cons (pe_bm0 PySem.F.plainAttrs_str PySem.F.slot_str_upper PySem.F.type_str_upper mt_upper (pv 1)) (pa_cons (pe_op op_add_str (pv 1) pe_str) (pa_cons (pe_tup (pa_cons (pv 1) pa_nil)) pa_nil)))))) pe_int)))) pss_nil)
      (pss_one (ps_ret (pe_call GP (hr.mono (by decide)) (by rfl) gP FP.kp bP .nil pass0 (pa_cons (pv 0) (pa_cons (pv 2) pa_nil)))))))))), ?_⟩
    have hND : ∀ a, (N a ∨ H a = none) → a ≠ D ∧ a ≠ C := fun a ha => ha.elim (hN a) (new_ne hdk)
    have pick : ∀ (G : Hp) (ps : Addr) (xs : List V), Same H G → G ps = some (.lst xs) → H ps = none → 0 < xs.length → xs.length ≤ 1000 → (∀ v ∈ xs, OdI K (fun a => N a ∨ H a = none) (2 * dv.weight + 200) (nv + 3) (bv + 1) G v) → spPick [.ref D, .ref ps] G Q E := by
      intro G ps xs s2 zs hn h0 h1 hv
      refine ⟨D, C, T, .ref ps, rfl, hdk.same s2, by omega, Or.inr ⟨ps, xs, rfl, zs, (new_ne hdk hn).2, h0, by omega, fun H3 u hu dk3 off3 => ?_⟩⟩
      exact q H3 u dk3 ((Off.same s2).trans off3) ((hv u hu).kp (fun a o ha z => off3 a o (hND a ha).1 (hND a ha).2 z) fun a xs z => off3.tup (hdk.same s2) z)
    have s : Same H H := Same.refl H
    have to : ∀ {u : V} {d : PyData} {w m b : Nat} {H' : Hp}, Dv K (fun a => N a ∨ H a = none) H' u d → OkD w m d → intB b d = true → w ≤ 2 * dv.weight + 200 → m ≤ nv + 3 → b ≤ bv + 1 → OdI K (fun a => N a ∨ H a = none) (2 * dv.weight + 200) (nv + 3) (bv + 1) H' u := fun h k i hw hm hb => ⟨_, h, k.mono hw hm, intB_mono hb _ i⟩
    refine ⟨_, rfl, _, _, rfl, rfl, ⟨by decide, by decide, by decide⟩, sz_le (n := 0) (by decide), fun p1 hp1 => ?_⟩
    have tp1 := same_new (o := HO.tup []) hp1
    have zp1 : SqT K (upd H p1 (.tup [])) p1 [] := Or.inl (Or.inl upd_same)
    replace s := s.trans tp1
    generalize upd H p1 (.tup []) = G2 at zp1 s ⊢
    clear tp1
    refine ⟨sz_le (n := 1) (by decide), fun p3 hp3 => ?_⟩
    have tp3 := same_new (o := HO.tup [V.int 0]) hp3
    have zp3 : SqT K (upd G2 p3 (.tup [V.int 0])) p3 [V.int 0] := Or.inl (Or.inl upd_same)
    replace s := s.trans tp3
    replace zp1 := Same.tup tp3 zp1
    generalize upd G2 p3 (.tup [V.int 0]) = G4 at zp3 s zp1 ⊢
    clear tp3
    have all0 : ∀ v ∈ ([V.non, .bl true, .bl false, .int 0, .int 1, .int (-1), .int 7, .int ((10 : Int) ^ Int.toNat 39), .str "", .str "a", .str "b", .str "z", .str "A", .str "ba", .str "lay", .str "look", .str "stop", .ref p1, .ref p3] : List V), OdI K (fun a => N a ∨ H a = none) (2 * dv.weight + 200) (nv + 3) (bv + 1) G4 v := by
      intro v hv
      simp only [List.mem_cons, List.not_mem_nil, or_false] at hv
      rcases hv with rfl | rfl | rfl | rfl | rfl | rfl | rfl | rfl | rfl | rfl | rfl | rfl | rfl | rfl | rfl | rfl | rfl | rfl | rfl
      · exact ⟨_, .non, (okD_of (by decide +kernel) : OkD 200 3 _).mono (by omega) (by omega), intB_mono (by omega) _ (by decide +kernel : intB 1 _ = true)⟩
      · exact ⟨_, .bl _, (okD_of (by decide +kernel) : OkD 200 3 _).mono (by omega) (by omega), intB_mono (by omega) _ (by decide +kernel : intB 1 _ = true)⟩
      · exact ⟨_, .bl _, (okD_of (by decide +kernel) : OkD 200 3 _).mono (by omega) (by omega), intB_mono (by omega) _ (by decide +kernel : intB 1 _ = true)⟩
      · exact ⟨_, .int _, (okD_of (by decide +kernel) : OkD 200 3 _).mono (by omega) (by omega), intB_mono (by omega) _ (by decide +kernel : intB 1 _ = true)⟩
      · exact ⟨_, .int _, (okD_of (by decide +kernel) : OkD 200 3 _).mono (by omega) (by omega), intB_mono (by omega) _ (by decide +kernel : intB 1 _ = true)⟩
      · exact ⟨_, .int _, (okD_of (by decide +kernel) : OkD 200 3 _).mono (by omega) (by omega), intB_mono (by omega) _ (by decide +kernel : intB 1 _ = true)⟩
      · exact ⟨_, .int _, (okD_of (by decide +kernel) : OkD 200 3 _).mono (by omega) (by omega), intB_mono (by omega) _ (by decide +kernel : intB 1 _ = true)⟩
      · exact ⟨_, .int _, (okD_of (by decide +kernel) : OkD 200 3 _).mono (by omega) (by omega), intB_mono (by omega) _ (by decide +kernel : intB 1 _ = true)⟩
      · exact ⟨_, .str _, (okD_of (by decide +kernel) : OkD 200 3 _).mono (by omega) (by omega), intB_mono (by omega) _ (by decide +kernel : intB 1 _ = true)⟩
      · exact ⟨_, .str _, (okD_of (by decide +kernel) : OkD 200 3 _).mono (by omega) (by omega), intB_mono (by omega) _ (by decide +kernel : intB 1 _ = true)⟩
      · exact ⟨_, .str _, (okD_of (by decide +kernel) : OkD 200 3 _).mono (by omega) (by omega), intB_mono (by omega) _ (by decide +kernel : intB 1 _ = true)⟩
      · exact ⟨_, .str _, (okD_of (by decide +kernel) : OkD 200 3 _).mono (by omega) (by omega), intB_mono (by omega) _ (by decide +kernel : intB 1 _ = true)⟩
      · exact ⟨_, .str _, (okD_of (by decide +kernel) : OkD 200 3 _).mono (by omega) (by omega), intB_mono (by omega) _ (by decide +kernel : intB 1 _ = true)⟩
      · exact ⟨_, .str _, (okD_of (by decide +kernel) : OkD 200 3 _).mono (by omega) (by omega), intB_mono (by omega) _ (by decide +kernel : intB 1 _ = true)⟩
      · exact ⟨_, .str _, (okD_of (by decide +kernel) : OkD 200 3 _).mono (by omega) (by omega), intB_mono (by omega) _ (by decide +kernel : intB 1 _ = true)⟩
      · exact ⟨_, .str _, (okD_of (by decide +kernel) : OkD 200 3 _).mono (by omega) (by omega), intB_mono (by omega) _ (by decide +kernel : intB 1 _ = true)⟩
      · exact ⟨_, .str _, (okD_of (by decide +kernel) : OkD 200 3 _).mono (by omega) (by omega), intB_mono (by omega) _ (by decide +kernel : intB 1 _ = true)⟩
      · exact ⟨_, .tup zp1 (.nil), (okD_of (by decide +kernel) : OkD 200 3 _).mono (by omega) (by omega), intB_mono (by omega) _ (by decide +kernel : intB 1 _ = true)⟩
      · exact ⟨_, .tup zp3 (.cons (.int _) (.nil)), (okD_of (by decide +kernel) : OkD 200 3 _).mono (by omega) (by omega), intB_mono (by omega) _ (by decide +kernel : intB 1 _ = true)⟩
    refine ⟨sz_le (n := 19) (by decide), fun p5 hp5 mp5 => ?_⟩
    have np5 : H p5 = none := none_of s hp5
    have tp5 := same_new (o := HO.lst [V.non, .bl true, .bl false, .int 0, .int 1, .int (-1), .int 7, .int ((10 : Int) ^ Int.toNat 39), .str "", .str "a", .str "b", .str "z", .str "A", .str "ba", .str "lay", .str "look", .str "stop", .ref p1, .ref p3]) hp5
    have zp5 : upd G4 p5 (.lst [V.non, .bl true, .bl false, .int 0, .int 1, .int (-1), .int 7, .int ((10 : Int) ^ Int.toNat 39), .str "", .str "a", .str "b", .str "z", .str "A", .str "ba", .str "lay", .str "look", .str "stop", .ref p1, .ref p3]) p5 = some (.lst [V.non, .bl true, .bl false, .int 0, .int 1, .int (-1), .int 7, .int ((10 : Int) ^ Int.toNat 39), .str "", .str "a", .str "b", .str "z", .str "A", .str "ba", .str "lay", .str "look", .str "stop", .ref p1, .ref p3]) := upd_same
    replace s := s.trans tp5
    replace all0 := fun v hv => (all0 v hv).same tp5
    generalize upd G4 p5 (.lst [V.non, .bl true, .bl false, .int 0, .int 1, .int (-1), .int 7, .int ((10 : Int) ^ Int.toNat 39), .str "", .str "a", .str "b", .str "z", .str "A", .str "ba", .str "lay", .str "look", .str "stop", .ref p1, .ref p3]) = G6 at zp5 s all0 ⊢
    clear tp5
    refine ⟨_, rfl, sz_le (n := 0) (by decide), fun p7 hp7 mp7 => ?_⟩
    have np7 : H p7 = none := none_of s hp7
    have tp7 := same_new (o := HO.lst []) hp7
    have zp7 : upd G6 p7 (.lst []) p7 = some (.lst []) := upd_same
    replace s := s.trans tp7
    replace all0 := fun v hv => (all0 v hv).same tp7
    replace zp5 := tp7 _ _ zp5
    generalize upd G6 p7 (.lst []) = G8 at zp7 s all0 zp5 ⊢
    clear tp7
    refine fun p9 hp9 => ?_
    have np9 : H p9 = none := none_of s hp9
    have tp9 := same_new (o := HO.dK []) hp9
    have zp9 : upd G8 p9 (.dK []) p9 = some (.dK []) := upd_same
    replace s := s.trans tp9
    replace all0 := fun v hv => (all0 v hv).same tp9
    replace zp5 := tp9 _ _ zp5
    replace zp7 := tp9 _ _ zp7
    generalize upd G8 p9 (.dK []) = G10 at zp9 s all0 zp5 zp7 ⊢
    clear tp9
    refine ⟨sz_le (n := 1) (by decide), fun p11 hp11 => ?_⟩
    have tp11 := same_new (o := HO.tup [V.str "stop"]) hp11
    have zp11 : SqT K (upd G10 p11 (.tup [V.str "stop"])) p11 [V.str "stop"] := Or.inl (Or.inl upd_same)
    replace s := s.trans tp11
    replace all0 := fun v hv => (all0 v hv).same tp11
    replace zp5 := tp11 _ _ zp5
    replace zp7 := tp11 _ _ zp7
    replace zp9 := tp11 _ _ zp9
    generalize upd G10 p11 (.tup [V.str "stop"]) = G12 at zp11 s all0 zp5 zp7 zp9 ⊢
    clear tp11
    refine ⟨sz_le (n := 2) (by decide), fun p13 hp13 => ?_⟩
    have tp13 := same_new (o := HO.tup [V.int 0, .int 0]) hp13
    have zp13 : SqT K (upd G12 p13 (.tup [V.int 0, .int 0])) p13 [V.int 0, .int 0] := Or.inl (Or.inl upd_same)
    replace s := s.trans tp13
    replace all0 := fun v hv => (all0 v hv).same tp13
    replace zp5 := tp13 _ _ zp5
    replace zp7 := tp13 _ _ zp7
    replace zp9 := tp13 _ _ zp9
    replace zp11 := Same.tup tp13 zp11
    generalize upd G12 p13 (.tup [V.int 0, .int 0]) = G14 at zp13 s all0 zp5 zp7 zp9 zp11 ⊢
    clear tp13
    refine ⟨sz_le (n := 2) (by decide), fun p15 hp15 => ?_⟩
    have tp15 := same_new (o := HO.tup [V.str "look", .ref p13]) hp15
    have zp15 : SqT K (upd G14 p15 (.tup [V.str "look", .ref p13])) p15 [V.str "look", .ref p13] := Or.inl (Or.inl upd_same)
    replace s := s.trans tp15
    replace all0 := fun v hv => (all0 v hv).same tp15
    replace zp5 := tp15 _ _ zp5
    replace zp7 := tp15 _ _ zp7
    replace zp9 := tp15 _ _ zp9
    replace zp11 := Same.tup tp15 zp11
    replace zp13 := Same.tup tp15 zp13
    generalize upd G14 p15 (.tup [V.str "look", .ref p13]) = G16 at zp15 s all0 zp5 zp7 zp9 zp11 zp13 ⊢
    clear tp15
    refine ⟨sz_le (n := 3) (by decide), fun p17 hp17 => ?_⟩
    have tp17 := same_new (o := HO.tup [V.str "lay", .str "a", .int 0]) hp17
    have zp17 : SqT K (upd G16 p17 (.tup [V.str "lay", .str "a", .int 0])) p17 [V.str "lay", .str "a", .int 0] := Or.inl (Or.inl upd_same)
    replace s := s.trans tp17
    replace all0 := fun v hv => (all0 v hv).same tp17
    replace zp5 := tp17 _ _ zp5
    replace zp7 := tp17 _ _ zp7
    replace zp9 := tp17 _ _ zp9
    replace zp11 := Same.tup tp17 zp11
    replace zp13 := Same.tup tp17 zp13
    replace zp15 := Same.tup tp17 zp15
    generalize upd G16 p17 (.tup [V.str "lay", .str "a", .int 0]) = G18 at zp17 s all0 zp5 zp7 zp9 zp11 zp13 zp15 ⊢
    clear tp17
    refine ⟨sz_le (n := 2) (by decide), fun p19 hp19 => ?_⟩
    have tp19 := same_new (o := HO.tup [V.str "stop", .int 0]) hp19
    have zp19 : SqT K (upd G18 p19 (.tup [V.str "stop", .int 0])) p19 [V.str "stop", .int 0] := Or.inl (Or.inl upd_same)
    replace s := s.trans tp19
    replace all0 := fun v hv => (all0 v hv).same tp19
    replace zp5 := tp19 _ _ zp5
    replace zp7 := tp19 _ _ zp7
    replace zp9 := tp19 _ _ zp9
    replace zp11 := Same.tup tp19 zp11
    replace zp13 := Same.tup tp19 zp13
    replace zp15 := Same.tup tp19 zp15
    replace zp17 := Same.tup tp19 zp17
    generalize upd G18 p19 (.tup [V.str "stop", .int 0]) = G20 at zp19 s all0 zp5 zp7 zp9 zp11 zp13 zp15 zp17 ⊢
    clear tp19
    refine ⟨sz_le (n := 1) (by decide), fun p21 hp21 => ?_⟩
    have tp21 := same_new (o := HO.tup [V.str "look"]) hp21
    have zp21 : SqT K (upd G20 p21 (.tup [V.str "look"])) p21 [V.str "look"] := Or.inl (Or.inl upd_same)
    replace s := s.trans tp21
    replace all0 := fun v hv => (all0 v hv).same tp21
    replace zp5 := tp21 _ _ zp5
    replace zp7 := tp21 _ _ zp7
    replace zp9 := tp21 _ _ zp9
    replace zp11 := Same.tup tp21 zp11
    replace zp13 := Same.tup tp21 zp13
    replace zp15 := Same.tup tp21 zp15
    replace zp17 := Same.tup tp21 zp17
    replace zp19 := Same.tup tp21 zp19
    generalize upd G20 p21 (.tup [V.str "look"]) = G22 at zp21 s all0 zp5 zp7 zp9 zp11 zp13 zp15 zp17 zp19 ⊢
    clear tp21
    have all1 : ∀ v ∈ ([V.ref p7, .ref p9, .ref p11, .ref p15, .ref p17, .ref p19, .ref p21] : List V), OdI K (fun a => N a ∨ H a = none) (2 * dv.weight + 200) (nv + 3) (bv + 1) G22 v := by
      intro v hv
      simp only [List.mem_cons, List.not_mem_nil, or_false] at hv
      rcases hv with rfl | rfl | rfl | rfl | rfl | rfl | rfl
      · exact ⟨_, .lst (Or.inr np7) mp7 zp7 .nil, (okD_of (by decide +kernel) : OkD 200 3 _).mono (by omega) (by omega), intB_mono (by omega) _ (by decide +kernel : intB 1 _ = true)⟩
      · exact ⟨_, .dct (Or.inr np9) zp9, (okD_of (by decide +kernel) : OkD 200 3 _).mono (by omega) (by omega), intB_mono (by omega) _ (by decide +kernel : intB 1 _ = true)⟩
      · exact ⟨_, .tup zp11 (.cons (.str _) (.nil)), (okD_of (by decide +kernel) : OkD 200 3 _).mono (by omega) (by omega), intB_mono (by omega) _ (by decide +kernel : intB 1 _ = true)⟩
      · exact ⟨_, .tup zp15 (.cons (.str _) (.cons (.tup zp13 (.cons (.int _) (.cons (.int _) (.nil)))) (.nil))), (okD_of (by decide +kernel) : OkD 200 3 _).mono (by omega) (by omega), intB_mono (by omega) _ (by decide +kernel : intB 1 _ = true)⟩
      · exact ⟨_, .tup zp17 (.cons (.str _) (.cons (.str _) (.cons (.int _) (.nil)))), (okD_of (by decide +kernel) : OkD 200 3 _).mono (by omega) (by omega), intB_mono (by omega) _ (by decide +kernel : intB 1 _ = true)⟩
      · exact ⟨_, .tup zp19 (.cons (.str _) (.cons (.int _) (.nil))), (okD_of (by decide +kernel) : OkD 200 3 _).mono (by omega) (by omega), intB_mono (by omega) _ (by decide +kernel : intB 1 _ = true)⟩
      · exact ⟨_, .tup zp21 (.cons (.str _) (.nil)), (okD_of (by decide +kernel) : OkD 200 3 _).mono (by omega) (by omega), intB_mono (by omega) _ (by decide +kernel : intB 1 _ = true)⟩
    refine ⟨sz_le (n := 7) (by decide), fun p23 hp23 mp23 => ?_⟩
    have np23 : H p23 = none := none_of s hp23
    have tp23 := same_new (o := HO.lst [V.ref p7, .ref p9, .ref p11, .ref p15, .ref p17, .ref p19, .ref p21]) hp23
    have zp23 : upd G22 p23 (.lst [V.ref p7, .ref p9, .ref p11, .ref p15, .ref p17, .ref p19, .ref p21]) p23 = some (.lst [V.ref p7, .ref p9, .ref p11, .ref p15, .ref p17, .ref p19, .ref p21]) := upd_same
    replace s := s.trans tp23
    replace all0 := fun v hv => (all0 v hv).same tp23
    replace zp5 := tp23 _ _ zp5
    replace all1 := fun v hv => (all1 v hv).same tp23
    generalize upd G22 p23 (.lst [V.ref p7, .ref p9, .ref p11, .ref p15, .ref p17, .ref p19, .ref p21]) = G24 at zp23 s all0 zp5 all1 ⊢
    clear tp23
    refine ⟨p5, p23, _, _, rfl, rfl, zp5, zp23, sz_le (n := 26) (by decide), fun q0 hq0 => ?_⟩
    have all0 : ∀ v ∈ ([V.non, .bl true, .bl false, .int 0, .int 1, .int (-1), .int 7, .int ((10 : Int) ^ Int.toNat 39), .str "", .str "a", .str "b", .str "z", .str "A", .str "ba", .str "lay", .str "look", .str "stop", .ref p1, .ref p3] ++ [V.ref p7, .ref p9, .ref p11, .ref p15, .ref p17, .ref p19, .ref p21] : List V), OdI K (fun a => N a ∨ H a = none) (2 * dv.weight + 200) (nv + 3) (bv + 1) G24 v := fun v hv => (List.mem_append.mp hv).elim (all0 v) (all1 v)
    have hl0 : ([V.non, .bl true, .bl false, .int 0, .int 1, .int (-1), .int 7, .int ((10 : Int) ^ Int.toNat 39), .str "", .str "a", .str "b", .str "z", .str "A", .str "ba", .str "lay", .str "look", .str "stop", .ref p1, .ref p3] ++ [V.ref p7, .ref p9, .ref p11, .ref p15, .ref p17, .ref p19, .ref p21] : List V).length = 26 := rfl
    generalize ([V.non, .bl true, .bl false, .int 0, .int 1, .int (-1), .int 7, .int ((10 : Int) ^ Int.toNat 39), .str "", .str "a", .str "b", .str "z", .str "A", .str "ba", .str "lay", .str "look", .str "stop", .ref p1, .ref p3] ++ [V.ref p7, .ref p9, .ref p11, .ref p15, .ref p17, .ref p19, .ref p21] : List V) = zs0 at all0 hl0 hq0 ⊢
    clear all1 zp5 zp23
    have nq0 : H q0 = none := none_of s hq0
    have tq0 := same_new (o := HO.lst zs0) hq0
    have zq0 : upd G24 q0 (.lst zs0) q0 = some (.lst zs0) := upd_same
    replace s := s.trans tq0
    replace all0 := fun v hv => (all0 v hv).same tq0
    generalize upd G24 q0 (.lst zs0) = G25 at zq0 s all0 ⊢
    clear tq0
    cases hv with
    | non =>
      refine ⟨_, rfl, _, .ty "tuple", _, _, false, rfl, .ty _, .base .non, kit_ty (by decide +kernel), false, rfl, ifF rfl ?_⟩
      refine ⟨_, rfl, _, .ty "int", _, _, false, rfl, .ty _, .base .non, kit_ty (by decide +kernel), false, rfl, ifF rfl ?_⟩
      refine ⟨_, rfl, _, .ty "str", _, _, false, rfl, .ty _, .base .non, kit_ty (by decide +kernel), false, rfl, ifF rfl ?_⟩
      exact ⟨_, rfl, _, rfl, pick _ q0 _ s zq0 nq0 (by rw [hl0]; decide) (by rw [hl0]; decide) all0⟩
    | bl k =>
      refine ⟨_, rfl, _, .ty "tuple", _, _, false, rfl, .ty _, .base (.bl _), kit_ty (by decide +kernel), false, rfl, ifF rfl ?_⟩
      refine ⟨_, rfl, _, .ty "int", _, _, true, rfl, .ty _, .base (.bl _), kit_ty (by decide +kernel), true, rfl, ifT rfl ?_⟩
      refine ⟨_, rfl, _, rfl, Or.inr ⟨_, _, rfl, rfl, ?_⟩⟩
      refine ⟨_, rfl, Or.inr ⟨_, _, rfl, rfl, ?_⟩⟩
      refine ⟨_, rfl, Or.inr ⟨_, _, rfl, rfl, ?_⟩⟩
      refine ⟨_, rfl, Or.inr ⟨_, rfl, ?_⟩⟩
      obtain ⟨l, el, ll, lh⟩ := boolS_text k
      rw [el]
      refine ⟨_, rfl, Or.inr ⟨_, _, rfl, rfl, ?_⟩⟩
      have five : ∀ v ∈ ([V.int (bI k + 1), .int (bI k - 1), .bl (bI k == 1), .str (S l), .int (bI k + 6)] : List V), OdI K (fun a => N a ∨ H a = none) (2 * (PyData.bool k).weight + 200) (nv + 3) (bv + 1) G25 v := by
        intro v hv
        simp only [List.mem_cons, List.not_mem_nil, or_false] at hv
        rcases hv with rfl | rfl | rfl | rfl | rfl
        · exact to (b := bv + 1) (.int _) (okD_intW (by cases k <;> decide) (by cases k <;> decide)) (intB_mono (by omega : 1 ≤ bv + 1) _ (by cases k <;> decide +kernel)) (by omega) (by omega) (by omega)
        · exact to (b := bv + 1) (.int _) (okD_intW (by cases k <;> decide) (by cases k <;> decide)) (intB_mono (by omega : 1 ≤ bv + 1) _ (by cases k <;> decide +kernel)) (by omega) (by omega) (by omega)
        · exact to (.bl _) (w := 20) (m := 0) (b := 0) ⟨gs_bool _, rfl⟩ rfl (by omega) (by omega) (by omega)
        · exact to (.str _) (okD_str (w := 45) lh ll) (b := 0) rfl (by omega) (by omega) (by omega)
        · exact to (b := bv + 1) (.int _) (okD_intW (by cases k <;> decide) (by cases k <;> decide)) (intB_mono (by omega : 1 ≤ bv + 1) _ (by cases k <;> decide +kernel)) (by omega) (by omega) (by omega)
      refine ⟨sz_le (n := 5) (by decide), fun p26 hp26 mp26 => ?_⟩
      have np26 : H p26 = none := none_of s hp26
      have tp26 := same_new (o := HO.lst [V.int (bI k + 1), .int (bI k - 1), .bl (bI k == 1), .str (S l), .int (bI k + 6)]) hp26
      have zp26 : upd G25 p26 (.lst [V.int (bI k + 1), .int (bI k - 1), .bl (bI k == 1), .str (S l), .int (bI k + 6)]) p26 = some (.lst [V.int (bI k + 1), .int (bI k - 1), .bl (bI k == 1), .str (S l), .int (bI k + 6)]) := upd_same
      replace s := s.trans tp26
      replace all0 := fun v hv => (all0 v hv).same tp26
      replace zq0 := tp26 _ _ zq0
      replace five := fun v hv => (five v hv).same tp26
      generalize upd G25 p26 (.lst [V.int (bI k + 1), .int (bI k - 1), .bl (bI k == 1), .str (S l), .int (bI k + 6)]) = G27 at zp26 s all0 zq0 five ⊢
      clear tp26
      have hf0 : ([V.int (bI k + 1), .int (bI k - 1), .bl (bI k == 1), .str (S l), .int (bI k + 6)] : List V).length = 5 := rfl
      generalize ([V.int (bI k + 1), .int (bI k - 1), .bl (bI k == 1), .str (S l), .int (bI k + 6)] : List V) = fs at five hf0 zp26 ⊢
      refine ⟨p26, 2, fs, rfl, rfl, zp26, by decide, by decide, sz_le (by show fs.length * 2 ≤ 1000000; omega), fun p8 hp8 => ?_⟩
      have t8 := same_new (o := HO.lst (List.replicate (2 : Int).toNat fs).flatten) hp8
      have hfl : (List.replicate (2 : Int).toNat fs).flatten.length = 10 := by
        show (fs ++ (fs ++ [])).length = 10
        rw [List.length_append, List.length_append, hf0]
        rfl
      refine ⟨q0, p8, _, _, rfl, rfl, t8 _ _ zq0, upd_same, sz_le (by rw [hl0, hfl]; decide), fun p9 hp9 => ?_⟩
      have n9 := none_of (s.trans t8) hp9
      have t9 := same_new (o := HO.lst (zs0 ++ (List.replicate (2 : Int).toNat fs).flatten)) hp9
      have s := (s.trans t8).trans t9
      have all0 : ∀ v ∈ zs0 ++ (List.replicate (2 : Int).toNat fs).flatten, OdI K _ _ _ _ _ v := fun v hv => (List.mem_append.mp hv).elim (fun h => ((all0 v h).same t8).same t9) fun h => ((five v (mem_twice h)).same t8).same t9
      refine ⟨_, rfl, _, .ty "str", _, _, false, rfl, .ty _, .base (.bl _), kit_ty (by decide +kernel), false, rfl, ifF rfl ?_⟩
      exact ⟨_, rfl, _, rfl, pick _ p9 _ s upd_same n9 (by rw [List.length_append, hl0, hfl]; decide) (by rw [List.length_append, hl0, hfl]; decide) all0⟩
    | int i =>
      obtain ⟨hi1, hi2⟩ := intB_get hib
      have hi1 : -30 ≤ i - 10 := by omega
      have hi2 : i + 10 ≤ (10 ^ 40 : Nat) := by have h4 : (10 ^ 39 : Nat) + 100 ≤ 10 ^ 40 := by decide
                                                omega
      refine ⟨_, rfl, _, .ty "tuple", _, _, false, rfl, .ty _, .base (.int _), kit_ty (by decide +kernel), false, rfl, ifF rfl ?_⟩
      refine ⟨_, rfl, _, .ty "int", _, _, true, rfl, .ty _, .base (.int _), kit_ty (by decide +kernel), true, rfl, ifT rfl ?_⟩
      refine ⟨_, rfl, _, rfl, Or.inl ⟨_, _, rfl, rfl, ?_⟩⟩
      refine ⟨_, rfl, Or.inl ⟨_, _, rfl, rfl, ?_⟩⟩
      refine ⟨_, rfl, Or.inl ⟨rfl, ?_⟩⟩
      refine ⟨_, rfl, Or.inl ⟨_, rfl, Nat.lt_trans (int_log (by omega) (by omega)) (by decide), ?_⟩⟩
      obtain ⟨l, el, ll, lh⟩ := int_text (i := i) (by omega) (by omega)
      rw [el]
      refine ⟨_, rfl, Or.inl ⟨_, _, rfl, rfl, ?_⟩⟩
      have five : ∀ v ∈ ([V.int (i + 1), .int (i - 1), .bl (decide (V.int i = V.int 1)), .str (S l), .int (i + 6)] : List V), OdI K (fun a => N a ∨ H a = none) (2 * (PyData.int i).weight + 200) (nv + 3) (bv + 1) G25 v := by
        intro v hv
        simp only [List.mem_cons, List.not_mem_nil, or_false] at hv
        rcases hv with rfl | rfl | rfl | rfl | rfl
        · exact to (b := bv + 1) (.int _) (okD_intW (by omega) (by omega)) (intB_int (by have := (intB_get hib).1; omega) (by have := (intB_get hib).2; omega)) (by omega) (by omega) (by omega)
        · exact to (b := bv + 1) (.int _) (okD_intW (by omega) (by omega)) (intB_int (by have := (intB_get hib).1; omega) (by have := (intB_get hib).2; omega)) (by omega) (by omega) (by omega)
        · exact to (.bl _) (w := 20) (m := 0) (b := 0) ⟨gs_bool _, rfl⟩ rfl (by omega) (by omega) (by omega)
        · exact to (.str _) (okD_str (w := 45) lh ll) (b := 0) rfl (by omega) (by omega) (by omega)
        · exact to (b := bv + 1) (.int _) (okD_intW (by omega) (by omega)) (intB_int (by have := (intB_get hib).1; omega) (by have := (intB_get hib).2; omega)) (by omega) (by omega) (by omega)
      refine ⟨sz_le (n := 5) (by decide), fun p26 hp26 mp26 => ?_⟩
      have np26 : H p26 = none := none_of s hp26
      have tp26 := same_new (o := HO.lst [V.int (i + 1), .int (i - 1), .bl (decide (V.int i = V.int 1)), .str (S l), .int (i + 6)]) hp26
      have zp26 : upd G25 p26 (.lst [V.int (i + 1), .int (i - 1), .bl (decide (V.int i = V.int 1)), .str (S l), .int (i + 6)]) p26 = some (.lst [V.int (i + 1), .int (i - 1), .bl (decide (V.int i = V.int 1)), .str (S l), .int (i + 6)]) := upd_same
      replace s := s.trans tp26
      replace all0 := fun v hv => (all0 v hv).same tp26
      replace zq0 := tp26 _ _ zq0
      replace five := fun v hv => (five v hv).same tp26
      generalize upd G25 p26 (.lst [V.int (i + 1), .int (i - 1), .bl (decide (V.int i = V.int 1)), .str (S l), .int (i + 6)]) = G27 at zp26 s all0 zq0 five ⊢
      clear tp26
      have hf0 : ([V.int (i + 1), .int (i - 1), .bl (decide (V.int i = V.int 1)), .str (S l), .int (i + 6)] : List V).length = 5 := rfl
      generalize ([V.int (i + 1), .int (i - 1), .bl (decide (V.int i = V.int 1)), .str (S l), .int (i + 6)] : List V) = fs at five hf0 zp26 ⊢
      refine ⟨p26, 2, fs, rfl, rfl, zp26, by decide, by decide, sz_le (by show fs.length * 2 ≤ 1000000; omega), fun p8 hp8 => ?_⟩
      have t8 := same_new (o := HO.lst (List.replicate (2 : Int).toNat fs).flatten) hp8
      have hfl : (List.replicate (2 : Int).toNat fs).flatten.length = 10 := by
        show (fs ++ (fs ++ [])).length = 10
        rw [List.length_append, List.length_append, hf0]
        rfl
      refine ⟨q0, p8, _, _, rfl, rfl, t8 _ _ zq0, upd_same, sz_le (by rw [hl0, hfl]; decide), fun p9 hp9 => ?_⟩
      have n9 := none_of (s.trans t8) hp9
      have t9 := same_new (o := HO.lst (zs0 ++ (List.replicate (2 : Int).toNat fs).flatten)) hp9
      have s := (s.trans t8).trans t9
      have all0 : ∀ v ∈ zs0 ++ (List.replicate (2 : Int).toNat fs).flatten, OdI K _ _ _ _ _ v := fun v hv => (List.mem_append.mp hv).elim (fun h => ((all0 v h).same t8).same t9) fun h => ((five v (mem_twice h)).same t8).same t9
      refine ⟨_, rfl, _, .ty "str", _, _, false, rfl, .ty _, .base (.int _), kit_ty (by decide +kernel), false, rfl, ifF rfl ?_⟩
      exact ⟨_, rfl, _, rfl, pick _ p9 _ s upd_same n9 (by rw [List.length_append, hl0, hfl]; decide) (by rw [List.length_append, hl0, hfl]; decide) all0⟩
    | str x =>
      obtain ⟨l, rfl⟩ : ∃ l, x = S l := ⟨x.cps.toList, (Mq.S_of x).symm⟩
      have hlow : ∀ c ∈ l, c < 128 := hok.text.2
      have hlw : (PyData.str (S l)).weight = l.length := rfl
      rw [hlw] at hwv to
      have hl9 : (S l).length ≤ 20000 := by
        rw [SX.S_len]
        exact hwv
      have low1 : ∀ cs : List Nat, (∀ c ∈ cs, c < 128) → OkD (l.length + cs.length) 0 (.str (S (l ++ cs))) := fun cs h3 => okD_str (fun x hx => (List.mem_append.mp hx).elim (hlow x) (h3 x)) (by rw [List.length_append]; exact Nat.le_refl _)
      refine ⟨_, rfl, _, .ty "tuple", _, _, false, rfl, .ty _, .base (.str _), kit_ty (by decide +kernel), false, rfl, ifF rfl ?_⟩
      refine ⟨_, rfl, _, .ty "int", _, _, false, rfl, .ty _, .base (.str _), kit_ty (by decide +kernel), false, rfl, ifF rfl ?_⟩
      refine ⟨_, rfl, _, .ty "str", _, _, true, rfl, .ty _, .base (.str _), kit_ty (by decide +kernel), true, rfl, ifT rfl ?_⟩
      refine ⟨_, rfl, _, rfl, S l, "a", rfl, rfl, sz_le (by rw [show ("a" : Str).length = 1 by decide +kernel]; omega), ?_⟩
      rw [show (S l ++ "a" : Str) = S (l ++ [97]) by rw [show ("a" : Str) = S [97] by decide +kernel, SX.S_cat]]
      refine ⟨_, rfl, S l, rfl, sz_le (by omega), ?_⟩
      obtain ⟨lu, eu, ul, uh⟩ := upper_low l hlow
      refine ⟨_, rfl, rfl, S l, rfl, rfl, by omega, ?_⟩
      rw [eu]
      refine ⟨_, rfl, S l, "z", rfl, rfl, sz_le (by rw [show ("z" : Str).length = 1 by decide +kernel]; omega), ?_⟩
      rw [show (S l ++ "z" : Str) = S (l ++ [122]) by rw [show ("z" : Str) = S [122] by decide +kernel, SX.S_cat]]
      refine ⟨_, rfl, sz_le (n := 1) (by decide), fun p26 hp26 => ?_⟩
      have tp26 := same_new (o := HO.tup [V.str (S l)]) hp26
      have zp26 : SqT K (upd G25 p26 (.tup [V.str (S l)])) p26 [V.str (S l)] := Or.inl (Or.inl upd_same)
      replace s := s.trans tp26
      replace all0 := fun v hv => (all0 v hv).same tp26
      replace zq0 := tp26 _ _ zq0
      generalize upd G25 p26 (.tup [V.str (S l)]) = G27 at zp26 s all0 zq0 ⊢
      clear tp26
      have five : ∀ v ∈ ([V.str (S (l ++ [97])), .str (revS (S l)), .str (S lu), .str (S (l ++ [122])), .ref p26] : List V), OdI K (fun a => N a ∨ H a = none) (2 * l.length + 200) (nv + 3) (bv + 1) G27 v := by
        intro v hv
        simp only [List.mem_cons, List.not_mem_nil, or_false] at hv
        rcases hv with rfl | rfl | rfl | rfl | rfl
        · exact to (.str _) (low1 [97] (by decide)) (b := 0) rfl (by show l.length + 1 ≤ _; omega) (by omega) (by omega)
        · exact to (d := .str (S l.reverse)) (.str _) (okD_str (w := l.length) (fun c hc => hlow c (List.mem_reverse.mp hc)) (by rw [List.length_reverse]; exact Nat.le_refl _)) (b := 0) rfl (by omega) (by omega) (by omega)
        · exact to (.str _) (okD_str (w := l.length) uh (by omega)) (b := 0) rfl (by omega) (by omega) (by omega)
        · exact to (.str _) (low1 [122] (by decide)) (b := 0) rfl (by show l.length + 1 ≤ _; omega) (by omega) (by omega)
        · exact to (.tup zp26 (.cons (.str _) .nil)) (LsOk.cons (okD_str (w := l.length) hlow (Nat.le_refl _)) (LsOk.nil (w := 0))).tup (b := 0) rfl (by omega) (by omega) (by omega)
      refine ⟨sz_le (n := 5) (by decide), fun p28 hp28 mp28 => ?_⟩
      have np28 : H p28 = none := none_of s hp28
      have tp28 := same_new (o := HO.lst [V.str (S (l ++ [97])), .str (revS (S l)), .str (S lu), .str (S (l ++ [122])), .ref p26]) hp28
      have zp28 : upd G27 p28 (.lst [V.str (S (l ++ [97])), .str (revS (S l)), .str (S lu), .str (S (l ++ [122])), .ref p26]) p28 = some (.lst [V.str (S (l ++ [97])), .str (revS (S l)), .str (S lu), .str (S (l ++ [122])), .ref p26]) := upd_same
      replace s := s.trans tp28
      replace all0 := fun v hv => (all0 v hv).same tp28
      replace zq0 := tp28 _ _ zq0
      replace five := fun v hv => (five v hv).same tp28
      generalize upd G27 p28 (.lst [V.str (S (l ++ [97])), .str (revS (S l)), .str (S lu), .str (S (l ++ [122])), .ref p26]) = G29 at zp28 s all0 zq0 five ⊢
      clear tp28
      have hf0 : ([V.str (S (l ++ [97])), .str (revS (S l)), .str (S lu), .str (S (l ++ [122])), .ref p26] : List V).length = 5 := rfl
      generalize ([V.str (S (l ++ [97])), .str (revS (S l)), .str (S lu), .str (S (l ++ [122])), .ref p26] : List V) = fs at five hf0 zp28 ⊢
      refine ⟨p28, 2, fs, rfl, rfl, zp28, by decide, by decide, sz_le (by show fs.length * 2 ≤ 1000000; omega), fun p8 hp8 => ?_⟩
      have t8 := same_new (o := HO.lst (List.replicate (2 : Int).toNat fs).flatten) hp8
      have hfl : (List.replicate (2 : Int).toNat fs).flatten.length = 10 := by
        show (fs ++ (fs ++ [])).length = 10
        rw [List.length_append, List.length_append, hf0]
        rfl
      refine ⟨q0, p8, _, _, rfl, rfl, t8 _ _ zq0, upd_same, sz_le (by rw [hl0, hfl]; decide), fun p9 hp9 => ?_⟩
      have n9 := none_of (s.trans t8) hp9
      have t9 := same_new (o := HO.lst (zs0 ++ (List.replicate (2 : Int).toNat fs).flatten)) hp9
      have s := (s.trans t8).trans t9
      have all0 : ∀ v ∈ zs0 ++ (List.replicate (2 : Int).toNat fs).flatten, OdI K _ _ _ _ _ v := fun v hv => (List.mem_append.mp hv).elim (fun h => ((all0 v h).same t8).same t9) fun h => ((five v (mem_twice h)).same t8).same t9
      exact ⟨_, rfl, _, rfl, pick _ p9 _ s upd_same n9 (by rw [List.length_append, hl0, hfl]; decide) (by rw [List.length_append, hl0, hfl]; decide) all0⟩
    | @lst p xs ds na nm hz hd =>
      refine ⟨_, rfl, _, .ty "tuple", _, _, false, rfl, .ty _, ty_list (SqL.of (s _ _ hz)), kit_ty (by decide +kernel), false, rfl, ifF rfl ?_⟩
      refine ⟨_, rfl, _, .ty "int", _, _, false, rfl, .ty _, ty_list (SqL.of (s _ _ hz)), kit_ty (by decide +kernel), false, rfl, ifF rfl ?_⟩
      refine ⟨_, rfl, _, .ty "str", _, _, false, rfl, .ty _, ty_list (SqL.of (s _ _ hz)), kit_ty (by decide +kernel), false, rfl, ifF rfl ?_⟩
      exact ⟨_, rfl, _, rfl, pick _ q0 _ s zq0 nq0 (by rw [hl0]; decide) (by rw [hl0]; decide) all0⟩
    | @tup p xs ds hz htd =>
      obtain ⟨m, rfl, lo⟩ := hok.tup
      have hW : (PyData.tuple ds).weight = PyData.weightAll ds := rfl
      rw [hW] at hwv to lo
      have hI : intAll bv ds = true := hib
      have hlen : xs.length ≤ 20000 := by
        rw [htd.len]
        exact Nat.le_trans lo.len hwv
      have dvs : ∀ {H' : Hp}, Same H H' → DvAll K (fun a => N a ∨ H a = none) H' xs ds := fun e => (htd.same e).mono fun _ h => Or.inl h
      refine ⟨_, rfl, _, .ty "tuple", _, _, true, rfl, .ty _, ty_tup (Same.tup s hz), kit_ty (by decide +kernel), true, rfl, ifT rfl ?_⟩
      refine ⟨_, rfl, _, rfl, _, _, rfl, Same.tup s hz, fun p26 hp26 mp26 => ?_⟩
      have np26 : H p26 = none := none_of s hp26
      have tp26 := same_new (o := HO.lst xs) hp26
      have zp26 : upd G25 p26 (.lst xs) p26 = some (.lst xs) := upd_same
      replace s := s.trans tp26
      replace all0 := fun v hv => (all0 v hv).same tp26
      replace zq0 := tp26 _ _ zq0
      generalize upd G25 p26 (.lst xs) = G27 at zp26 s all0 zq0 ⊢
      clear tp26
      refine ⟨_, rfl, _, rfl, _, _, rfl, Same.tup s hz, fun p28 G29 tp28 zp28 => ?_⟩
      replace s := s.trans tp28
      replace all0 := fun v hv => (all0 v hv).same tp28
      replace zq0 := tp28 _ _ zq0
      replace zp26 := tp28 _ _ zp26
      clear tp28
      refine ⟨_, rfl, _, rfl, _, rfl, _, _, rfl, Same.tup s hz, fun p30 G31 tp30 zp30 => ?_⟩
      replace s := s.trans tp30
      replace all0 := fun v hv => (all0 v hv).same tp30
      replace zq0 := tp30 _ _ zq0
      replace zp26 := tp30 _ _ zp26
      replace zp28 := Same.tup tp30 zp28
      clear tp30
      refine ⟨_, rfl, _, rfl, _, rfl, _, rfl, _, _, rfl, Same.tup s hz, fun p32 G33 tp32 zp32 => ?_⟩
      replace s := s.trans tp32
      replace all0 := fun v hv => (all0 v hv).same tp32
      replace zq0 := tp32 _ _ zq0
      replace zp26 := tp32 _ _ zp26
      replace zp28 := Same.tup tp32 zp28
      replace zp30 := Same.tup tp32 zp30
      clear tp32
      refine ⟨_, p32, _, _, rfl, rfl, Same.tup s hz, zp32, sz_le (Nat.le_trans (Nat.add_le_add_left (cutV_length _ _ _) _) (by omega)), fun p34 G35 tp34 zp34 => ?_⟩
      replace s := s.trans tp34
      replace all0 := fun v hv => (all0 v hv).same tp34
      replace zq0 := tp34 _ _ zq0
      replace zp26 := tp34 _ _ zp26
      replace zp28 := Same.tup tp34 zp28
      replace zp30 := Same.tup tp34 zp30
      replace zp32 := Same.tup tp34 zp32
      clear tp34
      refine ⟨_, rfl, _, _, rfl, Same.tup s hz, fun p36 hp36 => ?_⟩
      have tp36 := same_new (o := HO.tup xs.reverse) hp36
      have zp36 : SqT K (upd G35 p36 (.tup xs.reverse)) p36 xs.reverse := Or.inl (Or.inl upd_same)
      replace s := s.trans tp36
      replace all0 := fun v hv => (all0 v hv).same tp36
      replace zq0 := tp36 _ _ zq0
      replace zp26 := tp36 _ _ zp26
      replace zp28 := Same.tup tp36 zp28
      replace zp30 := Same.tup tp36 zp30
      replace zp32 := Same.tup tp36 zp32
      replace zp34 := Same.tup tp36 zp34
      generalize upd G35 p36 (.tup xs.reverse) = G37 at zp36 s all0 zq0 zp26 zp28 zp30 zp32 zp34 ⊢
      clear tp36
      refine ⟨_, rfl, sz_le (n := 1) (by decide), fun p38 hp38 => ?_⟩
      have tp38 := same_new (o := HO.tup [V.ref p]) hp38
      have zp38 : SqT K (upd G37 p38 (.tup [V.ref p])) p38 [V.ref p] := Or.inl (Or.inl upd_same)
      replace s := s.trans tp38
      replace all0 := fun v hv => (all0 v hv).same tp38
      replace zq0 := tp38 _ _ zq0
      replace zp26 := tp38 _ _ zp26
      replace zp28 := Same.tup tp38 zp28
      replace zp30 := Same.tup tp38 zp30
      replace zp32 := Same.tup tp38 zp32
      replace zp34 := Same.tup tp38 zp34
      replace zp36 := Same.tup tp38 zp36
      generalize upd G37 p38 (.tup [V.ref p]) = G39 at zp38 s all0 zq0 zp26 zp28 zp30 zp32 zp34 zp36 ⊢
      clear tp38
      refine ⟨_, rfl, sz_le (n := 1) (by decide), fun p40 hp40 => ?_⟩
      have tp40 := same_new (o := HO.tup [V.int 0]) hp40
      have zp40 : SqT K (upd G39 p40 (.tup [V.int 0])) p40 [V.int 0] := Or.inl (Or.inl upd_same)
      replace s := s.trans tp40
      replace all0 := fun v hv => (all0 v hv).same tp40
      replace zq0 := tp40 _ _ zq0
      replace zp26 := tp40 _ _ zp26
      replace zp28 := Same.tup tp40 zp28
      replace zp30 := Same.tup tp40 zp30
      replace zp32 := Same.tup tp40 zp32
      replace zp34 := Same.tup tp40 zp34
      replace zp36 := Same.tup tp40 zp36
      replace zp38 := Same.tup tp40 zp38
      generalize upd G39 p40 (.tup [V.int 0]) = G41 at zp40 s all0 zq0 zp26 zp28 zp30 zp32 zp34 zp36 zp38 ⊢
      clear tp40
      refine ⟨_, p40, _, _, rfl, rfl, Same.tup s hz, zp40, sz_le (by show xs.length + 1 ≤ 1000000; omega), fun p42 G43 tp42 zp42 => ?_⟩
      replace s := s.trans tp42
      replace all0 := fun v hv => (all0 v hv).same tp42
      replace zq0 := tp42 _ _ zq0
      replace zp26 := tp42 _ _ zp26
      replace zp28 := Same.tup tp42 zp28
      replace zp30 := Same.tup tp42 zp30
      replace zp32 := Same.tup tp42 zp32
      replace zp34 := Same.tup tp42 zp34
      replace zp36 := Same.tup tp42 zp36
      replace zp38 := Same.tup tp42 zp38
      replace zp40 := Same.tup tp42 zp40
      clear tp42
      have five : ∀ v ∈ ([V.ref p26, .ref p28, .ref p30, .ref p34, .ref p36, .ref p38, .ref p42] : List V), OdI K (fun a => N a ∨ H a = none) (2 * PyData.weightAll ds + 200) (m + 1 + 3) (bv + 1) G43 v := by
        intro v hv
        simp only [List.mem_cons, List.not_mem_nil, or_false] at hv
        rcases hv with rfl | rfl | rfl | rfl | rfl | rfl | rfl
        · exact to (.lst (Or.inr np26) mp26 zp26 (dvs s)) lo.lst (b := 0) rfl (by omega) (by omega) (by omega)
        · obtain ⟨es, sb, dve⟩ := (dvs s).cut (some 1) none
          exact to (.tup zp28 dve) (lo.sub sb).tup (intAll_sub sb hI) (by omega) (by omega) (by omega)
        · obtain ⟨es, sb, dve⟩ := (dvs s).cut none (some (-1))
          exact to (.tup zp30 dve) (lo.sub sb).tup (intAll_sub sb hI) (by omega) (by omega) (by omega)
        · obtain ⟨es, sb, dve⟩ := (dvs s).cut (some (-1)) none
          exact to (.tup zp34 ((dvs s).app dve)) (lo.app (lo.sub sb)).tup (intAll_app hI (intAll_sub sb hI)) (by omega) (by omega) (by omega)
        · exact to (.tup zp36 (dvs s).rev) lo.rev.tup (intAll_rev hI) (by omega) (by omega) (by omega)
        · exact to (.tup zp38 (.cons (.tup (Same.tup s hz) (dvs s)) .nil)) (LsOk.cons lo.tup (LsOk.nil (w := 0))).tup (intAll_one hI) (by omega) (by omega) (by omega)
        · exact to (.tup zp42 ((dvs s).app (.cons (.int _) .nil))) (lo.app (LsOk.cons ((okD_of (by decide +kernel) : OkD 5 0 (.int 0)).mono (Nat.le_refl _) (Nat.zero_le m)) (LsOk.nil (w := 0)))).tup (intAll_app hI (intAll_zero bv)) (by omega) (by omega) (by omega)
      refine ⟨sz_le (n := 7) (by decide), fun p44 hp44 mp44 => ?_⟩
      have np44 : H p44 = none := none_of s hp44
      have tp44 := same_new (o := HO.lst [V.ref p26, .ref p28, .ref p30, .ref p34, .ref p36, .ref p38, .ref p42]) hp44
      have zp44 : upd G43 p44 (.lst [V.ref p26, .ref p28, .ref p30, .ref p34, .ref p36, .ref p38, .ref p42]) p44 = some (.lst [V.ref p26, .ref p28, .ref p30, .ref p34, .ref p36, .ref p38, .ref p42]) := upd_same
      replace s := s.trans tp44
      replace all0 := fun v hv => (all0 v hv).same tp44
      replace zq0 := tp44 _ _ zq0
      replace five := fun v hv => (five v hv).same tp44
      generalize upd G43 p44 (.lst [V.ref p26, .ref p28, .ref p30, .ref p34, .ref p36, .ref p38, .ref p42]) = G45 at zp44 s all0 zq0 five ⊢
      clear tp44
      have hf0 : ([V.ref p26, .ref p28, .ref p30, .ref p34, .ref p36, .ref p38, .ref p42] : List V).length = 7 := rfl
      generalize ([V.ref p26, .ref p28, .ref p30, .ref p34, .ref p36, .ref p38, .ref p42] : List V) = fs at five hf0 zp44 ⊢
      refine ⟨p44, 2, fs, rfl, rfl, zp44, by decide, by decide, sz_le (by show fs.length * 2 ≤ 1000000; omega), fun p8 hp8 => ?_⟩
      have t8 := same_new (o := HO.lst (List.replicate (2 : Int).toNat fs).flatten) hp8
      have hfl : (List.replicate (2 : Int).toNat fs).flatten.length = 14 := by
        show (fs ++ (fs ++ [])).length = 14
        rw [List.length_append, List.length_append, hf0]
        rfl
      refine ⟨q0, p8, _, _, rfl, rfl, t8 _ _ zq0, upd_same, sz_le (by rw [hl0, hfl]; decide), fun p9 hp9 => ?_⟩
      have n9 := none_of (s.trans t8) hp9
      have t9 := same_new (o := HO.lst (zs0 ++ (List.replicate (2 : Int).toNat fs).flatten)) hp9
      have s := (s.trans t8).trans t9
      have all0 : ∀ v ∈ zs0 ++ (List.replicate (2 : Int).toNat fs).flatten, OdI K _ _ _ _ _ v := fun v hv => (List.mem_append.mp hv).elim (fun h => ((all0 v h).same t8).same t9) fun h => ((five v (mem_twice h)).same t8).same t9
      refine ⟨_, rfl, _, .ty "int", _, _, false, rfl, .ty _, ty_tup (Same.tup s hz), kit_ty (by decide +kernel), false, rfl, ifF rfl ?_⟩
      refine ⟨_, rfl, _, .ty "str", _, _, false, rfl, .ty _, ty_tup (Same.tup s hz), kit_ty (by decide +kernel), false, rfl, ifF rfl ?_⟩
      exact ⟨_, rfl, _, rfl, pick _ p9 _ s upd_same n9 (by rw [List.length_append, hl0, hfl]; decide) (by rw [List.length_append, hl0, hfl]; decide) all0⟩
    | @dct p na hz =>
      refine ⟨_, rfl, _, .ty "tuple", _, _, false, rfl, .ty _, .base (.dK (s _ _ hz)), kit_ty (by decide +kernel), false, rfl, ifF rfl ?_⟩
      refine ⟨_, rfl, _, .ty "int", _, _, false, rfl, .ty _, .base (.dK (s _ _ hz)), kit_ty (by decide +kernel), false, rfl, ifF rfl ?_⟩
      refine ⟨_, rfl, _, .ty "str", _, _, false, rfl, .ty _, .base (.dK (s _ _ hz)), kit_ty (by decide +kernel), false, rfl, ifF rfl ?_⟩
      exact ⟨_, rfl, _, rfl, pick _ q0 _ s zq0 nq0 (by rw [hl0]; decide) (by rw [hl0]; decide) all0⟩
end
end Lw

namespace Lw
open PySem PySem.Spec PyProof.Rows L2 Mq
open SX (S)
/-! ### a value with something otherwise, at any depth -/
theorem none_off {D C : Addr} {T : Nat} {H H' : Hp} {p : Addr} (e : Off D C H H') (k : DeckAt D C T H') (h : H' p = none) : H p = none := by
  obtain ⟨a, b⟩ := new_ne k h
  cases x : H p with
  | none => rfl
  | some o =>
    rw [e _ _ a b x] at h
    cases h
theorem pt_dead {X : Cx} {e : Expr} : PT X e (fun _ _ _ => False) := ⟨fun _ _ _ _ _ _ h => h.elim⟩
def spBent (K : PySem.W.Frag) (n : Nat) : Sp := fun vs H Q _ => ∃ (D C : Addr) (T : Nat) (v : V) (d : PyData) (b : Nat) (N : Addr → Prop), vs = [.ref D, v] ∧ DeckAt D C T H ∧ T + 4 * (n + 1) ≤ 900000 ∧ Dv K N H v d ∧ (∀ a, N a → a ≠ D ∧ a ≠ C) ∧ OkD d.weight n d ∧ d.weight ≤ 20000 ∧ n ≤ 20 ∧ intB b d = true ∧ b ≤ 5 ∧
  ∀ H' u T', T' ≤ T + 4 * (n + 1) → DeckAt D C T' H' → Off D C H H' → OdI K (fun a => N a ∨ H a = none) (2 * d.weight + 200) (n + 3) (b + 1) H' u → Q u H'
section
variable {P : Program} {w : World} {K : PySem.W.Frag} {mg : Str → Option Value} {base : Heap}
theorem dv_ty {N : Addr → Prop} {H : Hp} {v : V} {d : PyData} (h : Dv K N H v d) (nt : ∀ ds, d ≠ .tuple ds) : ∃ a, TyX K H v (.type a) ∧ a ∈ sevenT ∧ a ≠ "tuple" := by
  cases h with
  | non => exact ⟨_, .base .non, by decide, by decide⟩
  | bl b => exact ⟨_, .base (.bl _), by decide, by decide⟩
  | int i => exact ⟨_, .base (.int _), by decide, by decide⟩
  | str x => exact ⟨_, .base (.str x), by decide, by decide⟩
  | lst _ _ h _ => exact ⟨_, ty_list (SqL.of h), by decide, by decide⟩
  | tup _ _ => exact (nt _ rfl).elim
  | dct _ h => exact ⟨_, .base (.dK h), by decide, by decide⟩
theorem ok_bent0 {f fO : Addr} {fd fdO : FuncData} (F : Fun K "_law_bent" "_law_bent" s__law_bent f fd) (B : Blt mg)
    (FO : Fun K "_law_odd" "_law_odd" s__law_odd fO fdO) (gO : mg "_law_odd" = some (.ref fO)) (bO : Binds K fdO ["_law_deck_here", "_law_it"] []) (GO : FnOk P w K mg base CX0 3 fO fdO ["_law_deck_here", "_law_it"] (spOdd K)) :
    FnOk P w K mg base CX0 4 f fd ["_law_deck_here", "_law_it"] (spBent K 0) := by
  refine F.ok sc__law_bent (fun vs H Q E h => ?_) (fun cdv A outer s H vs Q E hr h => ?_)
  · obtain ⟨_, _, _, _, _, _, _, rfl, _⟩ := h
    rfl
  · obtain ⟨D, C, T, v, d, b, N, rfl, hdk, hT, htd, hN, hok, hw, hn, hib, hb, q⟩ := h
    refine ⟨_, (pss_cons (ps_if (PW.pt (pw_or (pt_not (pt_val (pe_callB call_isi (by rfl) B.isi (by decide +kernel) (pa_cons (pv 1) (pa_cons (pe_bltn (v := .ty "tuple") (by rfl) B.tuple (by decide +kernel) rfl) pa_nil))))) (pw_or pt_dead (pw_or1 pt_dead)))) (pss_one (ps_ret (pe_call GO (hr.mono (by decide)) (by rfl) gO FO.kp bO .nil pass0 (pa_cons (pv 0) (pa_cons (pv 1) pa_nil))))) pss_nil)
      (pss_cons ps_dead (pss_one ps_dead))), ?_⟩
    obtain ⟨a, t, m, n⟩ := dv_ty htd (fun ds e => by
      subst e
      obtain ⟨m, e, _⟩ := hok.tup
      omega)
    refine ⟨_, rfl, _, .ty "tuple", _, _, false, rfl, .ty _, t, kit_noT m n, false, rfl, ifT rfl (ifT rfl ?_)⟩
    refine ⟨_, rfl, _, rfl, D, C, T, _, d, 0, b, N, rfl, hdk, by omega, htd, hN, hok, hw, hib, hb, fun H' u dk off od => ?_⟩
    exact q H' u _ (by omega) dk off (od.mono (fun _ z => z) (by omega) (by omega) (by omega))
theorem ok_bentS {f fO fD : Addr} {fd fdO fdD : FuncData} {k : Nat} (F : Fun K "_law_bent" "_law_bent" s__law_bent f fd) (B : Blt mg)
    (FD : Fun K "_law_draw" "_law_draw" s__law_draw fD fdD) (gD : mg "_law_draw" = some (.ref fD)) (bD : Binds K fdD ["_law_deck_here", "_law_below"] []) (GD : FnOk P w K mg base CX0 1 fD fdD ["_law_deck_here", "_law_below"] spDraw)
    (FO : Fun K "_law_odd" "_law_odd" s__law_odd fO fdO) (gO : mg "_law_odd" = some (.ref fO)) (bO : Binds K fdO ["_law_deck_here", "_law_it"] []) (GO : FnOk P w K mg base CX0 3 fO fdO ["_law_deck_here", "_law_it"] (spOdd K))
    (gB : mg "_law_bent" = some (.ref f)) (bB : Binds K fd ["_law_deck_here", "_law_it"] []) (GB : FnOk P w K mg base CX0 (4 + k) f fd ["_law_deck_here", "_law_it"] (spBent K k)) :
    FnOk P w K mg base CX0 (4 + k + 1) f fd ["_law_deck_here", "_law_it"] (spBent K (k + 1)) := by
  refine F.ok sc__law_bent (fun vs H Q E h => ?_) (fun cdv A outer s H vs Q E hr h => ?_)
  · obtain ⟨_, _, _, _, _, _, _, rfl, _⟩ := h
    rfl
  · obtain ⟨D, C, T, v, d, b, N, rfl, hdk, hT, htd, hN, hok, hw, hk, hib, hb, q⟩ := h
    have hu0 : (A.deeper (envOfC "_law_bent" (defScope s__law_bent) s.heap.objs.size f cdv)).units < cLine := by
      have := hr.un
      omega
    have hr3 : Room 3 (A.deeper (envOfC "_law_bent" (defScope s__law_bent) s.heap.objs.size f cdv)) := hr.mono (by omega)
    have hr1 : Room 1 (A.deeper (envOfC "_law_bent" (defScope s__law_bent) s.heap.objs.size f cdv)) := hr.mono (by omega)
    refine ⟨_, (pss_cons (ps_if (PW.pt (pw_or (pt_not (pt_val (pe_callB call_isi (by rfl) B.isi (by decide +kernel) (pa_cons (pv 1) (pa_cons (pe_bltn (v := .ty "tuple") (by rfl) B.tuple (by decide +kernel) rfl) pa_nil))))) (pw_or (pt_cmpR (op_eqTup0 hu0) (pv 1) (pe_tup pa_nil) (nomark _)) (pw_or1 (pt_cmpR op_eq (pe_call GD hr1 (by rfl) gD FD.kp bD .nil pass0 (pa_cons (pv 0) (pa_cons pe_int pa_nil))) pe_int (nomark _)))))) (pss_one (ps_ret (pe_call GO hr3 (by rfl) gO FO.kp bO .nil pass0 (pa_cons (pv 0) (pa_cons (pv 1) pa_nil))))) pss_nil)
    (pss_cons (ps_set (i := 2) sc__law_bent.nd rfl (Or.inl rfl) (pe_call GD hr1 (by rfl) gD FD.kp bD .nil pass0 (pa_cons (pv 0) (pa_cons (pe_callB call_len (by rfl) B.len (by decide +kernel) (pa_cons (pv 1) pa_nil)) pa_nil))))
    (pss_one (ps_ret (pe_op op_catN (pe_op op_catN (pe_slice sl_tupN (pv 1) po_none (po_some (pv 2))) (pe_tup (pa_cons (pe_call GB hr (by rfl) gB F.kp bB .nil pass0 (pa_cons (pv 0) (pa_cons (pe_ix ix_tup (pv 1) (pv 2) (fun _ _ => rfl)) pa_nil))) pa_nil))) (pe_slice sl_tupN (pv 1) (po_some (pe_op op_add (pv 2) pe_int)) po_none)))))), ?_⟩
    have odd : ∀ (H1 : Hp) (T1 : Nat), T1 ≤ T + 1 → DeckAt D C T1 H1 → Off D C H H1 → spOdd K [.ref D, v] H1 Q E := by
      intro H1 T1 hT1 dk1 off1
      refine ⟨D, C, T1, v, d, k + 1, b, N, rfl, dk1, by omega, htd.kp (fun a o ha z => off1 a o (hN a ha).1 (hN a ha).2 z) (fun a xs z => off1.tup hdk z), hN, hok, hw, hib, hb, fun H2 u dk2 off2 od => ?_⟩
      exact q H2 u _ (by omega) dk2 (off1.trans off2) (od.mono (fun x hx => hx.imp id (none_off off1 dk1)) (by omega) (by omega) (by omega))
    by_cases nt : ∀ ds, d ≠ .tuple ds
    · obtain ⟨a, t, m, n⟩ := dv_ty htd nt
      refine ⟨_, rfl, _, .ty "tuple", _, _, false, rfl, .ty _, t, kit_noT m n, false, rfl, ifT rfl (ifT rfl ⟨_, rfl, _, rfl, ?_⟩)⟩
      exact odd H T (by omega) hdk (Off.refl _ _ _)
    cases htd with
    | non => exact (nt fun _ z => nomatch z).elim
    | bl _ => exact (nt fun _ z => nomatch z).elim
    | int _ => exact (nt fun _ z => nomatch z).elim
    | str _ => exact (nt fun _ z => nomatch z).elim
    | lst _ _ _ _ => exact (nt fun _ z => nomatch z).elim
    | dct _ _ => exact (nt fun _ z => nomatch z).elim
    | @tup p xs ds hz htd =>
      clear nt
      obtain ⟨m, hm, lo⟩ := hok.tup
      obtain rfl : k = m := by omega
      have hW : (PyData.tuple ds).weight = PyData.weightAll ds := rfl
      rw [hW] at hw q lo
      have hI : intAll b ds = true := hib
      have hl : xs.length = ds.length := htd.len
      have hlen : xs.length ≤ 20000 := by
        rw [hl]
        exact Nat.le_trans lo.len hw
      have kpA : ∀ {H' : Hp}, Off D C H H' → DvAll K N H' xs ds := fun off => htd.kp (fun a o ha z => off a o (hN a ha).1 (hN a ha).2 z) (fun a xs z => off.tup hdk z)
      refine ⟨_, rfl, _, .ty "tuple", _, _, true, rfl, .ty _, ty_tup hz, kit_ty (by decide +kernel), true, rfl, ifF rfl ?_⟩
      refine ⟨_, rfl, sz_le (n := 0) (by decide), fun p0 hp0 => ?_⟩
      have t0 := same_new (o := HO.tup []) hp0
      have k0 : SqT K (upd H p0 (.tup [])) p0 [] := Or.inl (Or.inl upd_same)
      have dk0 := hdk.same t0
      refine ⟨_, _, _, rfl, rfl, Same.tup t0 hz, k0, _, rfl, ?_⟩
      generalize upd H p0 (.tup []) = G0 at t0 k0 dk0 ⊢
      cases hxe : xs.isEmpty with
      | true =>
        refine ifT rfl (ifT rfl ⟨_, rfl, _, rfl, ?_⟩)
        exact odd G0 T (by omega) dk0 (Off.same t0)
      | false =>
      have h0 : 0 < xs.length := by
        cases xs with
        | nil => cases hxe
        | cons _ _ => exact Nat.zero_lt_succ _
      refine ifF rfl ?_
      refine ⟨_, rfl, D, C, T, 6, rfl, dk0, by omega, by decide, by decide, fun H1 r hr6 dk1 off1 => ?_⟩
      have off01 := (Off.same (D := D) (C := C) t0).trans off1
      refine ⟨rfl, _, rfl, ite2 (fun hc => ?_) (fun hc => ?_)⟩
      · refine ⟨_, rfl, _, rfl, ?_⟩
        exact odd H1 (T + 1) (by omega) dk1 off01
      have hz1 := off01.tup hdk hz
      refine ⟨_, rfl, _, rfl, _, _, rfl, len_tup hz1, D, C, T + 1, xs.length, rfl, dk1, by omega, h0, by omega, fun H3 t ht dk3 off3 => ?_⟩
      have off03 := off01.trans off3
      have hz3 := off03.tup hdk hz
      have nn : ∀ x, H3 x = none → H x = none := fun x hx => none_off off03 dk3 hx
      have td3 := kpA off03
      have htl : t < xs.length := ht
      have htd' : t < ds.length := by omega
      obtain ⟨dt, hdt, tdt⟩ := td3.at (List.getElem?_eq_getElem htl)
      have edt : ds[t] = dt := by
        rw [List.getElem?_eq_getElem htd'] at hdt
        exact Option.some.inj hdt
      have okt := (lo.mem (List.mem_of_getElem? hdt)).exact
      have esplit : ds = ds.take t ++ dt :: ds.drop (t + 1) := by
        rw [← edt, ← List.drop_eq_getElem_cons htd', List.take_append_drop]
      have hwt : PyData.weightAll ds = PyData.weightAll (ds.take t) + (dt.weight + 1 + PyData.weightAll (ds.drop (t + 1))) := by
        conv => lhs; rw [esplit, weight_app]
        rfl
      refine ⟨_, rfl, _, rfl, _, rfl, p, _, rfl, hz3, fun p1 J1 t1 z1 => ?_⟩
      have off0J := off03.trans (Off.same t1)
      refine ⟨_, rfl, _, rfl, _, rfl, p, _, _, _, rfl, rfl, Same.tup t1 hz3, atI_nat (j := t) (List.getElem?_eq_getElem htl), D, C, T + 1 + 1, xs[t], dt, b, N, rfl, dk3.same t1, by omega, tdt.same t1, hN, okt, by omega, by omega, intAll_mem hI dt (List.mem_of_getElem? hdt), hb, fun H5 u T5 hT5 dk5 off5 od5 => ?_⟩
      have kp5 : KpT K J1 H5 := KpT.off off5 (dk3.same t1)
      have hz5 := kp5 _ _ (Same.tup t1 hz3)
      have z15 := kp5 _ _ z1
      have off05 := off0J.trans off5
      have od5 := od5.mono (N' := fun a => N a ∨ H a = none) (fun y hy => hy.imp id fun h => nn y (none_of t1 h)) (Nat.le_refl _) (Nat.le_refl _) (Nat.le_refl _)
      refine ⟨sz_le (n := 1) (by decide), fun p2 hp2 => ?_⟩
      have t2 := same_new (o := HO.tup [u]) hp2
      refine ⟨p1, p2, _, [u], rfl, rfl, Same.tup t2 z15, Or.inl (Or.inl upd_same), sz_le (Nat.le_trans (Nat.add_le_add_right (cutV_length _ _ _) _) (by show xs.length + 1 ≤ 1000000; omega)), fun p3 J3 t3 z3 => ?_⟩
      refine ⟨_, rfl, _, rfl, _, _, rfl, rfl, _, rfl, p, _, rfl, Same.tup (t2.trans t3) hz5, fun p4 J4 t4 z4 => ?_⟩
      refine ⟨p3, p4, _, _, rfl, rfl, Same.tup t4 z3, z4, ?_, fun p5 J5 t5 z6 => ?_⟩
      · rw [List.length_append]
        exact sz_le (Nat.le_trans (Nat.add_le_add (Nat.add_le_add_right (cutV_length _ _ _) _) (cutV_length _ _ _)) (by show xs.length + 1 + xs.length ≤ 1000000; omega))
      have t25 := ((t2.trans t3).trans t4).trans t5
      obtain ⟨d', dvu, oku, iu⟩ := od5
      have dv5 : DvAll K (fun a => N a ∨ H a = none) J5 xs ds := (kpA (off05.trans (Off.same t25))).mono fun _ h => Or.inl h
      rw [cut_front, show cutV xs (some (((t : Nat) : Int) + 1)) none = xs.drop (t + 1) from cut_back xs (t + 1)] at z6
      have l1 := (lo.sub (List.take_sublist t ds)).exact
      have l2 := (lo.sub (List.drop_sublist (t + 1) ds)).exact
      have l3 : LsOk _ (k + 3) (ds.take t ++ [d'] ++ ds.drop (t + 1)) := ((l1.mono (Nat.le_refl _) (by omega)).app (LsOk.cons oku (LsOk.nil (w := 0)))).app (l2.mono (Nat.le_refl _) (by omega))
      have hI1 := intAll_mono (Nat.le_succ b) ds hI
      have i3 : intAll (b + 1) (ds.take t ++ [d'] ++ ds.drop (t + 1)) = true := intAll_app (intAll_app (intAll_sub (List.take_sublist t ds) hI1) (intAll_of fun x hx => by rw [List.mem_singleton.mp hx]; exact iu)) (intAll_sub (List.drop_sublist (t + 1) ds) hI1)
      exact q J5 _ T5 (by omega) (dk5.same t25) (off05.trans (Off.same t25)) ⟨_, .tup z6 (((dv5.take t).app (.cons (dvu.same t25) .nil)).app (dv5.drop (t + 1))), l3.tup.mono (by omega) (by omega), i3⟩
theorem ok_bent {f fO fD : Addr} {fd fdO fdD : FuncData} (F : Fun K "_law_bent" "_law_bent" s__law_bent f fd) (B : Blt mg)
    (FD : Fun K "_law_draw" "_law_draw" s__law_draw fD fdD) (gD : mg "_law_draw" = some (.ref fD)) (bD : Binds K fdD ["_law_deck_here", "_law_below"] []) (GD : FnOk P w K mg base CX0 1 fD fdD ["_law_deck_here", "_law_below"] spDraw)
    (FO : Fun K "_law_odd" "_law_odd" s__law_odd fO fdO) (gO : mg "_law_odd" = some (.ref fO)) (bO : Binds K fdO ["_law_deck_here", "_law_it"] []) (GO : FnOk P w K mg base CX0 3 fO fdO ["_law_deck_here", "_law_it"] (spOdd K))
    (gB : mg "_law_bent" = some (.ref f)) (bB : Binds K fd ["_law_deck_here", "_law_it"] []) : ∀ k : Nat, FnOk P w K mg base CX0 (4 + k) f fd ["_law_deck_here", "_law_it"] (spBent K k)
  | 0 => ok_bent0 F B FO gO bO GO
  | k + 1 => ok_bentS F B FD gD bD GD FO gO bO GO gB bB (ok_bent F B FD gD bD GD FO gO bO GO gB bB k)
end
end Lw

namespace Mq
open PySem PySem.Spec PyProof.Rows L2
open SX (S)
/-! ### texts by their lines: how long, how many -/
def cutT (c : Nat) : List Nat → List (List Nat)
  | [] => [[]]
  | d :: r => if d = c then [] :: cutT c r else match cutT c r with
    | [] => [[d]]
    | p :: ps => (d :: p) :: ps
theorem joinL_step (sep p q : List Nat) (r : List (List Nat)) : TL.joinL sep (p :: q :: r) = p ++ (sep ++ TL.joinL sep (q :: r)) := rfl
theorem joinL_cons {sep p : List Nat} {r : List (List Nat)} (h : r ≠ []) : TL.joinL sep (p :: r) = p ++ (sep ++ TL.joinL sep r) := by
  cases r with
  | nil => exact (h rfl).elim
  | cons q r => rfl
theorem cutT_ok (c : Nat) : ∀ a : List Nat, TL.joinL [c] (cutT c a) = a ∧ cutT c a ≠ [] ∧ ∀ p ∈ cutT c a, c ∉ p
  | [] => ⟨rfl, by simp [cutT], fun p hp => by rw [List.mem_singleton.mp hp]; exact fun h => by cases h⟩
  | d :: r => by
    obtain ⟨h1, h2, h3⟩ := cutT_ok c r
    unfold cutT
    by_cases e : d = c
    · rw [if_pos e]
      refine ⟨?_, by simp, fun p hp => ?_⟩
      · rw [joinL_cons h2, h1, e]
        rfl
      · rcases List.mem_cons.mp hp with e3 | hp
        · rw [e3]
          exact fun h => by cases h
        · exact h3 p hp
    · rw [if_neg e]
      cases e2 : cutT c r with
      | nil => exact (h2 e2).elim
      | cons p ps =>
        rw [e2] at h1 h3
        refine ⟨?_, by simp, fun q hq => ?_⟩
        · cases ps with
          | nil => show d :: p = d :: r; rw [show p = r from h1]
          | cons q qs =>
            rw [joinL_step] at h1 ⊢
            rw [← h1]
            rfl
        · rcases List.mem_cons.mp hq with e3 | hq
          · rw [e3]
            intro h
            rcases List.mem_cons.mp h with h | h
            · exact e h.symm
            · exact h3 p List.mem_cons_self h
          · exact h3 q (List.mem_cons_of_mem _ hq)
theorem spl_freeT {c : Nat} (hc : c < 256) (a : List Nat) : ∀ p ∈ spl c a, c ∉ p := by
  obtain ⟨h1, h2, h3⟩ := cutT_ok c a
  have e := spl_of hc h2 h3
  rw [h1] at e
  rw [e]
  exact h3
theorem joinL_glue (c : Nat) (l r : List Nat) (bs : List (List Nat)) : ∀ as : List (List Nat), TL.joinL [c] (as ++ [l]) ++ TL.joinL [c] (r :: bs) = TL.joinL [c] (as ++ [l ++ r] ++ bs)
  | [] => by
    cases bs with
    | nil => rfl
    | cons b bs =>
      show l ++ (r ++ ([c] ++ TL.joinL [c] (b :: bs))) = (l ++ r) ++ ([c] ++ TL.joinL [c] (b :: bs))
      rw [List.append_assoc]
  | x :: as => by
    have ih := joinL_glue c l r bs as
    show TL.joinL [c] (x :: (as ++ [l])) ++ _ = TL.joinL [c] (x :: (as ++ [l ++ r] ++ bs))
    rw [joinL_cons (p := x) (r := as ++ [l]) (by simp), joinL_cons (p := x) (r := as ++ [l ++ r] ++ bs) (by simp), ← ih]
    simp
theorem spl_app {c : Nat} (hc : c < 256) (a b : List Nat) : ∃ as l r bs, spl c a = as ++ [l] ∧ spl c b = r :: bs ∧ spl c (a ++ b) = as ++ [l ++ r] ++ bs := by
  have fa := spl_freeT hc a
  have fb := spl_freeT hc b
  have ja := spl_join c a
  have jb := spl_join c b
  rcases List.eq_nil_or_concat (spl c a) with e | ⟨as, l, e⟩
  · exact (spl_ne c a e).elim
  · rw [List.concat_eq_append] at e
    cases e2 : spl c b with
    | nil => exact (spl_ne c b e2).elim
    | cons r bs =>
      rw [e] at fa ja
      rw [e2] at fb jb
      refine ⟨as, l, r, bs, e, rfl, ?_⟩
      have j := joinL_glue c l r bs as
      rw [ja, jb] at j
      rw [j]
      refine spl_of hc (by simp) fun p hp => ?_
      rcases List.mem_append.mp hp with hp | hp
      · rcases List.mem_append.mp hp with hp | hp
        · exact fa p (List.mem_append_left _ hp)
        · rw [List.mem_singleton.mp hp]
          intro h
          rcases List.mem_append.mp h with h | h
          · exact fa l (by simp) h
          · exact fb r (by simp) h
      · exact fb p (List.mem_cons_of_mem _ hp)
def lnS (ps : List (List Nat)) : Nat := (ps.map fun p => p.length + 1).sum
theorem lnS_app (a b : List (List Nat)) : lnS (a ++ b) = lnS a + lnS b := by
  unfold lnS
  rw [List.map_append, List.sum_append]
theorem lnS_one (p : List Nat) : lnS [p] = p.length + 1 := by
  unfold lnS
  simp
theorem lnS_spl (c : Nat) (a : List Nat) : lnS (spl c a) = a.length + 1 := spl_sum c a
theorem lnS_cut (ps : List (List Nat)) (k : Nat) : lnS (ps.take k) + lnS (ps.drop k) = lnS ps := by
  rw [← lnS_app, List.take_append_drop]
theorem lnS_drop (ps : List (List Nat)) (k : Nat) : lnS (ps.drop (k + 1)) ≤ lnS (ps.drop k) := by
  rcases Nat.lt_or_ge k ps.length with h | h
  · rw [List.drop_eq_getElem_cons h, show ps[k] :: ps.drop (k + 1) = [ps[k]] ++ ps.drop (k + 1) from rfl, lnS_app]
    omega
  · rw [List.drop_of_length_le (by omega), List.drop_of_length_le h]
    exact Nat.le_refl _
theorem lnS_at {ps : List (List Nat)} {k : Nat} (h : k < ps.length) : lnS (ps.drop k) = (ps[k]).length + 1 + lnS (ps.drop (k + 1)) := by
  rw [List.drop_eq_getElem_cons h, show ps[k] :: ps.drop (k + 1) = [ps[k]] ++ ps.drop (k + 1) from rfl, lnS_app, lnS_one]
structure Tx (L m k : Nat) (t : List Nat) : Prop where
  len : t.length ≤ L
  low : ∀ c ∈ t, c < 128
  lns : ∀ l ∈ spl 10 t, l.length ≤ m
  nl : (spl 10 t).length ≤ k
theorem Tx.mono {L m k L' m' k' : Nat} {t : List Nat} (h : Tx L m k t) (hL : L ≤ L') (hm : m ≤ m') (hk : k ≤ k') : Tx L' m' k' t := ⟨Nat.le_trans h.len hL, h.low, fun l hl => Nat.le_trans (h.lns l hl) hm, Nat.le_trans h.nl hk⟩
theorem tx_nil {L m k : Nat} (hk : 1 ≤ k) : Tx L m k [] := by
  have e : spl 10 [] = [[]] := by decide +kernel
  refine ⟨Nat.zero_le _, (fun _ h => by cases h), fun l hl => ?_, by rw [e]; exact hk⟩
  rw [e] at hl
  rw [List.mem_singleton.mp hl]
  exact Nat.zero_le _
theorem tx_join {L m k : Nat} {ws : List (List Nat)} (hf : ∀ w ∈ ws, 10 ∉ w) (hl : ∀ w ∈ ws, ∀ c ∈ w, c < 128) (hs : lnS ws ≤ L + 1) (hm : ∀ w ∈ ws, w.length ≤ m) (hk : ws.length ≤ k) (h1 : 1 ≤ k) : Tx L m k (TL.joinL [10] ws) := by
  by_cases e : ws = []
  · subst e
    exact tx_nil h1
  · have e2 := spl_of (c := 10) (by decide) e hf
    refine ⟨?_, fun c hc => ?_, by rw [e2]; exact hm, by rw [e2]; exact hk⟩
    · have h2 := join_len 10 ws e
      have h3 : (TL.joinL [10] ws).length + 1 = lnS ws := h2
      omega
    · rcases join_in 10 hc with h | ⟨p, hp, h⟩
      · omega
      · exact hl p hp c h
theorem tx_app {L m k L' m' k' : Nat} {t u : List Nat} (h : Tx L m k t) (g : Tx L' m' k' u) : Tx (L + L') (m + m') (k + k') (t ++ u) := by
  obtain ⟨as, l, r, bs, e1, e2, e3⟩ := spl_app (c := 10) (by decide) t u
  have hn := h.nl
  have gn := g.nl
  have hl := h.lns
  have gl := g.lns
  rw [e1] at hn hl
  rw [e2] at gn gl
  refine ⟨by rw [List.length_append]; have := h.len; have := g.len; omega, fun c hc => (List.mem_append.mp hc).elim (h.low c) (g.low c), fun p hp => ?_, ?_⟩
  · rw [e3] at hp
    rcases List.mem_append.mp hp with hp | hp
    · rcases List.mem_append.mp hp with hp | hp
      · have := hl p (List.mem_append_left _ hp)
        omega
      · rw [List.mem_singleton.mp hp, List.length_append]
        have := hl l (by simp)
        have := gl r (by simp)
        omega
    · have := gl p (List.mem_cons_of_mem _ hp)
      omega
  · rw [e3, List.length_append, List.length_append]
    rw [List.length_append] at hn
    rw [List.length_cons] at gn
    show as.length + 1 + bs.length ≤ _
    have : as.length + 1 ≤ k := hn
    omega
theorem tx_parts {L m k : Nat} {t : List Nat} (h : Tx L m k t) (n : Nat) : Tx L m k (t.take n) ∧ Tx L m k (t.drop n) := by
  obtain ⟨as, l, r, bs, e1, e2, e3⟩ := spl_app (c := 10) (by decide) (t.take n) (t.drop n)
  rw [List.take_append_drop] at e3
  have hn := h.nl
  have hl := h.lns
  rw [e3] at hn hl
  rw [List.length_append, List.length_append] at hn
  have hn : as.length + 1 + bs.length ≤ k := hn
  have hlr : (l ++ r).length ≤ m := hl _ (by simp)
  rw [List.length_append] at hlr
  have ht := h.len
  refine ⟨⟨by rw [List.length_take]; omega, fun c hc => h.low c (List.mem_of_mem_take hc), fun p hp => ?_, ?_⟩, ⟨by rw [List.length_drop]; omega, fun c hc => h.low c (List.mem_of_mem_drop hc), fun p hp => ?_, ?_⟩⟩
  · rw [e1] at hp
    rcases List.mem_append.mp hp with hp | hp
    · exact hl p (by simp [hp])
    · rw [List.mem_singleton.mp hp]
      omega
  · rw [e1, List.length_append]
    show as.length + 1 ≤ k
    omega
  · rw [e2] at hp
    rcases List.mem_cons.mp hp with rfl | hp
    · omega
    · exact hl p (by simp [hp])
  · rw [e2, List.length_cons]
    omega
/-! capital letters, letter by letter -/
theorem upper_map : ∃ f : Nat → Nat, (∀ c, c < 128 → f c < 128 ∧ (f c = 10 ↔ c = 10)) ∧ ∀ l : List Nat, (∀ c ∈ l, c < 128) → Txt.upper (S l) = S (l.map f) := by
  have h1 : ((List.range 128).all fun c => match Unicode.upperOf c with | [d] => decide (d < 128) && (decide (d = 10) == decide (c = 10)) | _ => false) = true := by decide +kernel
  have h2 : ∀ c, c < 128 → ∃ d, Unicode.upperOf c = [d] ∧ d < 128 ∧ (d = 10 ↔ c = 10) := by
    intro c hc
    have h3 := List.all_eq_true.mp h1 c (List.mem_range.mpr hc)
    split at h3
    · rename_i d e
      obtain ⟨h4, h5⟩ := Bool.and_eq_true_iff.mp h3
      exact ⟨d, e, of_decide_eq_true h4, decide_eq_decide.mp (eq_of_beq h5)⟩
    · cases h3
  refine ⟨fun c => (Unicode.upperOf c).headD 0, fun c hc => ?_, fun l h => ?_⟩
  · obtain ⟨d, e, h3, h4⟩ := h2 c hc
    show (Unicode.upperOf c).headD 0 < 128 ∧ ((Unicode.upperOf c).headD 0 = 10 ↔ c = 10)
    rw [e]
    exact ⟨h3, h4⟩
  · have e1 : (placed (S l) fun _ c => Unicode.upperOf c).toList = l.map fun c => (Unicode.upperOf c).headD 0 := by
      unfold placed
      rw [Array.toList_flatten, Array.toList_mapIdx]
      show ((List.mapIdx (fun (_ : Nat) (c : Nat) => (Unicode.upperOf c).toArray) l).map Array.toList).flatten = _
      rw [show ((List.mapIdx (fun (_ : Nat) (c : Nat) => (Unicode.upperOf c).toArray) l).map Array.toList) = l.map Unicode.upperOf from ?_]
      · clear h1
        induction l with
        | nil => rfl
        | cons c l ih =>
          obtain ⟨d, hd, _⟩ := h2 c (h c List.mem_cons_self)
          rw [List.map_cons, List.flatten_cons, List.map_cons, ih fun x hx => h x (List.mem_cons_of_mem _ hx), hd]
          rfl
      · refine List.ext_getElem? fun i => ?_
        rw [List.getElem?_map, List.getElem?_mapIdx, List.getElem?_map, Option.map_map]
        rfl
    show Str.mk _ = Str.mk _
    exact congrArg Str.mk (Array.toList_inj.mp e1)
theorem joinL_map (f : Nat → Nat) (c d : Nat) (hf : f c = d) : ∀ ws : List (List Nat), (TL.joinL [c] ws).map f = TL.joinL [d] (ws.map (List.map f))
  | [] => rfl
  | [x] => rfl
  | x :: y :: r => by
    have ih := joinL_map f c d hf (y :: r)
    rw [joinL_step, List.map_append, List.map_append, ih]
    show x.map f ++ ([f c] ++ _) = x.map f ++ ([d] ++ _)
    rw [hf]
    rfl
theorem tx_upper {L m k : Nat} {t : List Nat} (h : Tx L m k t) : ∃ u, Txt.upper (S t) = S u ∧ Tx L m k u := by
  obtain ⟨f, hf, hu⟩ := upper_map
  refine ⟨t.map f, hu t h.low, ?_⟩
  have e : t.map f = TL.joinL [10] ((spl 10 t).map (List.map f)) := by
    rw [← joinL_map f 10 10 ((hf 10 (by decide)).2.mpr rfl), spl_join]
  have hfree := spl_freeT (c := 10) (by decide) t
  have hlow : ∀ w ∈ spl 10 t, ∀ c ∈ w, c < 128 := fun w hw c hc => h.low c (spl_mem hw hc)
  have e2 : spl 10 (t.map f) = (spl 10 t).map (List.map f) := by
    rw [e]
    refine spl_of (by decide) (by simpa using spl_ne 10 t) fun p hp => ?_
    obtain ⟨w, hw, rfl⟩ := List.mem_map.mp hp
    intro h10
    obtain ⟨c, hc, e3⟩ := List.mem_map.mp h10
    exact hfree w hw (((hf c (hlow w hw c hc)).2.mp e3) ▸ hc)
  refine ⟨by rw [List.length_map]; exact h.len, fun c hc => ?_, fun p hp => ?_, ?_⟩
  · obtain ⟨d, hd, rfl⟩ := List.mem_map.mp hc
    exact (hf d (h.low d hd)).1
  · rw [e2] at hp
    obtain ⟨w, hw, rfl⟩ := List.mem_map.mp hp
    rw [List.length_map]
    exact h.lns w hw
  · rw [e2, List.length_map]
    exact h.nl
def txB (L m k : Nat) (t : List Nat) : Bool := decide (t.length ≤ L) && (t.all (fun c => decide (c < 128)) && ((spl 10 t).all (fun l => decide (l.length ≤ m)) && decide ((spl 10 t).length ≤ k)))
theorem tx_of {L m k : Nat} {t : List Nat} (h : txB L m k t = true) : Tx L m k t := by
  unfold txB at h
  obtain ⟨h1, h⟩ := Bool.and_eq_true_iff.mp h
  obtain ⟨h2, h⟩ := Bool.and_eq_true_iff.mp h
  obtain ⟨h3, h4⟩ := Bool.and_eq_true_iff.mp h
  exact ⟨of_decide_eq_true h1, fun c hc => of_decide_eq_true (List.all_eq_true.mp h2 c hc), fun l hl => of_decide_eq_true (List.all_eq_true.mp h3 l hl), of_decide_eq_true h4⟩
end Mq

namespace Lw
open PySem PySem.Spec PyProof.Rows L2 Mq
open SX (S)
open TL (numL)
/-! ### a text with something otherwise -/
def poolW : List (List Nat) := [[48], [48, 48], [49], [45, 49], [55], [97], [98], [122], layL, lookL, stopL, [], programL]
def poolS : List (List Nat) := [[32], [97], [48], [49], [10], [45], [], [65]]
theorem poolW_is : ([V.str "0", V.str "00", V.str "1", V.str "-1", V.str "7", V.str "a", V.str "b", V.str "z", V.str "lay", V.str "look", V.str "stop", V.str "", V.str "program"] : List V) = txs poolW := by decide +kernel
theorem poolS_is : ([V.str " ", V.str "a", V.str "0", V.str "1", V.str "\n", V.str "-", V.str "", V.str "A"] : List V) = txs poolS := by decide +kernel
theorem poolW_ok : ∀ w ∈ poolW, LowL w ∧ 10 ∉ w ∧ w.length ≤ 7 := by
  have h : poolW.all (fun w => w.all (fun c => decide (c < 128) && decide (c ≠ 10)) && decide (w.length ≤ 7)) = true := by decide +kernel
  intro w hw
  obtain ⟨a, b⟩ := Bool.and_eq_true_iff.mp (List.all_eq_true.mp h w hw)
  have a : ∀ c ∈ w, c < 128 ∧ c ≠ 10 := fun c hc => by
    obtain ⟨x, y⟩ := Bool.and_eq_true_iff.mp (List.all_eq_true.mp a c hc)
    exact ⟨of_decide_eq_true x, of_decide_eq_true y⟩
  exact ⟨fun c hc => (a c hc).1, fun h => (a 10 h).2 rfl, of_decide_eq_true b⟩
theorem poolS_ok : ∀ w ∈ poolS, Tx 1 1 2 w := by
  have h : poolS.all (fun w => txB 1 1 2 w) = true := by decide +kernel
  exact fun w hw => tx_of (List.all_eq_true.mp h w hw)
def spBentText : Sp := fun vs H Q _ => ∃ (D C : Addr) (T : Nat) (t : List Nat) (L m k : Nat), vs = [.ref D, .str (S t)] ∧ DeckAt D C T H ∧ T ≤ 890000 ∧ Tx L m k t ∧ L ≤ 4000 ∧ m ≤ 1000 ∧ k ≤ 900 ∧
  ∀ H' l, Tx (L + m + 12) (2 * m + 10) (2 * k + 2) l → DeckAt D C (T + 6) H' → Off D C H H' → Q (.str (S l)) H'
section
variable {P : Program} {w : World} {K : PySem.W.Frag} {mg : Str → Option Value} {base : Heap}
theorem ok_bent_text {f fD fP : Addr} {fd fdD fdP : FuncData} (F : Fun K "_law_bent_text" "_law_bent_text" s__law_bent_text f fd) (B : Blt mg)
    (FD : Fun K "_law_draw" "_law_draw" s__law_draw fD fdD) (gD : mg "_law_draw" = some (.ref fD)) (bD : Binds K fdD ["_law_deck_here", "_law_below"] []) (GD : FnOk P w K mg base CX0 1 fD fdD ["_law_deck_here", "_law_below"] spDraw)
    (FP : Fun K "_law_pick" "_law_pick" s__law_pick fP fdP) (gP : mg "_law_pick" = some (.ref fP)) (bP : Binds K fdP ["_law_deck_here", "_law_some"] []) (GP : FnOk P w K mg base CX0 2 fP fdP ["_law_deck_here", "_law_some"] spPick) :
    FnOk P w K mg base CX0 3 f fd ["_law_deck_here", "_law_page"] spBentText := by
  refine F.ok sc__law_bent_text (fun vs H Q E h => ?_) (fun cdv A outer s H vs Q E hr h => ?_)
  · obtain ⟨_, _, _, _, _, _, _, rfl, _⟩ := h
    rfl
  · obtain ⟨D, C, T, t, L, m, k, rfl, hdk, hT, hpg, hL4, hm1, hk9, q⟩ := h
    refine ⟨_, (pss_cons (ps_par (i := 2) (j := 3) rfl sc__law_bent_text.nd rfl rfl (by decide) rfl rfl (pa_cons (pe_split (pv 1) pe_str) (pa_cons (pe_call GD (hr.mono (by decide)) (by rfl) gD FD.kp bD .nil pass0 (pa_cons (pv 0) (pa_cons pe_int pa_nil))) pa_nil)) (by rfl))
    (pss_cons (ps_set (i := 4) sc__law_bent_text.nd rfl (Or.inl rfl) (pe_call GD (hr.mono (by decide)) (by rfl) gD FD.kp bD .nil pass0 (pa_cons (pv 0) (pa_cons (pe_callB call_len_seq (by rfl) B.len (by decide +kernel) (pa_cons (pv 2) pa_nil)) pa_nil))))
    (pss_cons (ps_if (pt_cmpR op_eq (pv 3) pe_int (nomark _)) (pss_one (ps_ret (pe_join pe_str (pe_op op_cat (pe_slice sl_list (pv 2) po_none (po_some (pv 4))) (pe_slice sl_list (pv 2) (po_some (pe_op op_add (pv 4) pe_int)) po_none))))) pss_nil)
    (pss_cons (ps_if (pt_cmpR op_eq (pv 3) pe_int (nomark _)) (pss_one (ps_ret (pe_join pe_str (pe_op op_cat (pe_slice sl_list (pv 2) po_none (po_some (pe_op op_add (pv 4) pe_int))) (pe_slice sl_list (pv 2) (po_some (pv 4)) po_none))))) pss_nil)
    (pss_cons (ps_if (pt_cmpR op_eq (pv 3) pe_int (nomark _)) (pss_cons (ps_set (i := 5) sc__law_bent_text.nd rfl (Or.inl rfl) (Mq.pe_ls (pa_cons (pe_op op_add_str (pv 1) pe_str) (pa_cons (pe_op op_add_str pe_str (pv 1)) (pa_cons (pe_op op_add_str (pv 1) pe_str) (pa_cons (pe_ix ix_list (pv 2) pe_int (fun _ _ => rfl)) (pa_cons pe_str (pa_cons pe_str (pa_cons pe_str (pa_cons (pe_bm0 PySem.F.plainAttrs_str PySem.F.slot_str_upper PySem.F.type_str_upper mt_upper (pv 1)) pa_nil))))))))))
      (pss_one (ps_ret (pe_call GP (hr.mono (by decide)) (by rfl) gP FP.kp bP .nil pass0 (pa_cons (pv 0) (pa_cons (pv 5) pa_nil)))))) pss_nil)
    (pss_cons (ps_if (pt_cmpR op_eq (pv 3) pe_int (nomark _)) (pss_cons (ps_set (i := 6) sc__law_bent_text.nd rfl (Or.inl rfl) (pe_split (pe_ix ix_list (pv 2) (pv 4) (fun _ _ => rfl)) pe_str))
      (pss_cons (ps_set (i := 7) sc__law_bent_text.nd rfl (Or.inl rfl) (pe_call GD (hr.mono (by decide)) (by rfl) gD FD.kp bD .nil pass0 (pa_cons (pv 0) (pa_cons (pe_callB call_len_seq (by rfl) B.len (by decide +kernel) (pa_cons (pv 6) pa_nil)) pa_nil))))
      (pss_cons (ps_asg (pe_call GP (hr.mono (by decide)) (by rfl) gP FP.kp bP .nil pass0 (pa_cons (pv 0) (pa_cons (Mq.pe_ls (pa_cons pe_str (pa_cons pe_str (pa_cons pe_str (pa_cons pe_str (pa_cons pe_str (pa_cons pe_str (pa_cons pe_str (pa_cons pe_str (pa_cons pe_str (pa_cons pe_str (pa_cons pe_str (pa_cons pe_str (pa_cons pe_str pa_nil)))))))))))))) pa_nil))) (pg_sub (pv 6) (pv 7) set_list))
      (pss_one (ps_ret (pe_join pe_str (pe_op op_cat (pe_op op_cat (pe_slice sl_list (pv 2) po_none (po_some (pv 4))) (Mq.pe_ls (pa_cons (pe_join pe_str (pv 6)) pa_nil))) (pe_slice sl_list (pv 2) (po_some (pe_op op_add (pv 4) pe_int)) po_none)))))))) pss_nil)
    (pss_cons (ps_par (i := 7) (j := 8) rfl sc__law_bent_text.nd rfl rfl (by decide) rfl rfl (pa_cons (pe_call GD (hr.mono (by decide)) (by rfl) gD FD.kp bD .nil pass0 (pa_cons (pv 0) (pa_cons (pe_op op_add (pe_callB call_len (by rfl) B.len (by decide +kernel) (pa_cons (pv 1) pa_nil)) pe_int) pa_nil))) (pa_cons (pe_call GP (hr.mono (by decide)) (by rfl) gP FP.kp bP .nil pass0 (pa_cons (pv 0) (pa_cons (Mq.pe_ls (pa_cons pe_str (pa_cons pe_str (pa_cons pe_str (pa_cons pe_str (pa_cons pe_str (pa_cons pe_str (pa_cons pe_str (pa_cons pe_str pa_nil))))))))) pa_nil))) pa_nil)) (by rfl))
    (pss_one (ps_ret (pe_op op_add_str (pe_op op_add_str (pe_slice sl_str (pv 1) po_none (po_some (pv 7))) (pv 8)) (pe_slice sl_str (pv 1) (po_some (pe_op op_add (pv 7) (pe_call GD (hr.mono (by decide)) (by rfl) gD FD.kp bD .nil pass0 (pa_cons (pv 0) (pa_cons pe_int pa_nil))))) po_none))))))))))), ?_⟩
    have hz : (S t).length = t.length := SX.S_len t
    have htl := hpg.len
    have hz9 : (S t).length ≤ 4000 := by omega
    refine ⟨_, rfl, ⟨_, rfl⟩, S t, S [10], rfl, rfl, rfl, sz_le (by omega), fun W hW => ?_⟩
    rw [spl_S, map_SV]
    obtain ⟨nD, nC⟩ := new_ne hdk hW
    have s1 := same_new (o := HO.lst (txs (spl 10 t))) hW
    have z1 : upd H W (.lst (txs (spl 10 t))) W = some (.lst (txs (spl 10 t))) := upd_same
    have dk1 := hdk.same s1
    have off1 : Off D C H (upd H W (.lst (txs (spl 10 t)))) := Off.same s1
    generalize upd H W (.lst (txs (spl 10 t))) = H1 at s1 z1 dk1 off1 ⊢
    have hsum : lnS (spl 10 t) = t.length + 1 := spl_sum 10 t
    have hwm : ∀ l ∈ spl 10 t, l.length ≤ m := hpg.lns
    have hwk : (spl 10 t).length ≤ k := hpg.nl
    have hwl : ∀ l ∈ spl 10 t, ∀ c ∈ l, c < 128 := fun l hl c hc => hpg.low c (spl_mem hl hc)
    have hwf : ∀ l ∈ spl 10 t, 10 ∉ l := spl_freeT (by decide) t
    have hnn := spl_ne 10 t
    have hne := pos_of hnn
    generalize spl 10 t = ws at z1 hwm hwk hwl hwf hsum hne hnn ⊢
    refine ⟨_, rfl, D, C, T, 8, rfl, dk1, by omega, by decide, by decide, fun H2 way hway dk2 off2 => ?_⟩
    have z2 := off2 W _ nD nC z1
    refine ⟨_, _, rfl, ?_⟩
    refine ⟨_, rfl, _, rfl, W, _, rfl, .inl (SqL.of z2), D, C, T + 1, ws.length, ?_, dk2, by omega, hne, by omega, fun H3 at_ hat dk3 off3 => ?_⟩
    · rw [List.length_map]
      rfl
    have z3 := off3 W _ nD nC z2
    have off13 := (off1.trans off2).trans off3
    have ea : ((at_ : Nat) : Int) + 1 = ((at_ + 1 : Nat) : Int) := by omega
    have hcut := lnS_cut ws at_
    have hcut1 := lnS_cut ws (at_ + 1)
    have hdat := lnS_at hat
    have hlm := hwm _ (List.getElem_mem hat)
    have hsz : ∀ (ps qs : List (List Nat)), ps.length ≤ 2000 → qs.length ≤ 2000 → (txs ps).length + (txs qs).length ≤ sizeLine := fun ps qs h1 h2 => sz_le (by rw [List.length_map, List.length_map]; omega)
    have htk : ∀ n, (ws.take n).length ≤ ws.length := fun n => by rw [List.length_take]; omega
    have hdp : ∀ n, (ws.drop n).length ≤ ws.length := fun n => by rw [List.length_drop]; omega
    have mT : ∀ n, ∀ l ∈ ws.take n, l ∈ ws := fun n l hl => List.mem_of_mem_take hl
    have mD : ∀ n, ∀ l ∈ ws.drop n, l ∈ ws := fun n l hl => List.mem_of_mem_drop hl
    have okj : ∀ (Hf : Hp) (pf : Addr) (us : List (List Nat)), Hf pf = some (.lst (txs us)) → lnS us ≤ 20000 → SqL K Hf pf ((us.map S).map V.str) ∧ ((us.map S).map (·.length)).sum + (us.map S).length * (S [10]).length ≤ sizeLine := by
      intro Hf pf us h1 h2
      refine ⟨SqL.of (h1.trans (by rw [map_SV])), ?_⟩
      rw [join_bound]
      exact sz_le (Nat.le_trans h2 (by decide))
    refine ⟨_, rfl, rfl, _, rfl, ite2 (fun _ => ?_) (fun _ => ?_)⟩
    · refine ⟨⟨_, rfl⟩, _, rfl, _, rfl, _, rfl, W, _, rfl, SqL.of z3, fun p1 hp1 => ?_⟩
      rw [txs_to]
      have t1 := same_new (o := HO.lst (txs (ws.take at_))) hp1
      have y1 : upd H3 p1 (.lst (txs (ws.take at_))) p1 = some (.lst (txs (ws.take at_))) := upd_same
      have w1 := t1 _ _ z3
      generalize upd H3 p1 (.lst (txs (ws.take at_))) = G1 at t1 y1 w1 ⊢
      refine ⟨_, rfl, _, rfl, _, _, rfl, rfl, _, rfl, W, _, rfl, SqL.of w1, fun p2 hp2 => ?_⟩
      rw [ea, txs_from]
      have t2 := same_new (o := HO.lst (txs (ws.drop (at_ + 1)))) hp2
      refine ⟨p1, p2, _, _, rfl, rfl, t2 _ _ y1, upd_same, hsz _ _ (by have := htk at_; omega) (by have := hdp (at_ + 1); omega), fun p3 hp3 => ?_⟩
      rw [← txs_app]
      have t3 := same_new (o := HO.lst (txs (ws.take at_ ++ ws.drop (at_ + 1)))) hp3
      have t13 := (t1.trans t2).trans t3
      have e5 := lnS_app (ws.take at_) (ws.drop (at_ + 1))
      obtain ⟨f1, f2⟩ := okj _ p3 (ws.take at_ ++ ws.drop (at_ + 1)) upd_same (by omega)
      refine ⟨S [10], p3, (ws.take at_ ++ ws.drop (at_ + 1)).map S, rfl, rfl, Or.inl f1, f2, ?_⟩
      rw [SX.join_S]
      have mem : ∀ l ∈ ws.take at_ ++ ws.drop (at_ + 1), l ∈ ws := fun l hl => (List.mem_append.mp hl).elim (mT _ l) (mD _ l)
      have hl9 : (ws.take at_ ++ ws.drop (at_ + 1)).length ≤ k + k := by
        rw [List.length_append]
        have := htk at_
        have := hdp (at_ + 1)
        omega
      exact q _ _ (tx_join (fun l hl => hwf l (mem l hl)) (fun l hl => hwl l (mem l hl)) (by omega) (fun l hl => by have := hwm l (mem l hl); omega) (by omega) (by omega)) ((dk3.same t13).mono (by omega)) (off13.trans (Off.same t13))
    refine ⟨_, rfl, rfl, _, rfl, ite2 (fun _ => ?_) (fun _ => ?_)⟩
    · refine ⟨⟨_, rfl⟩, _, rfl, _, rfl, _, _, rfl, rfl, _, rfl, W, _, rfl, SqL.of z3, fun p1 hp1 => ?_⟩
      rw [ea, txs_to]
      have t1 := same_new (o := HO.lst (txs (ws.take (at_ + 1)))) hp1
      have y1 : upd H3 p1 (.lst (txs (ws.take (at_ + 1)))) p1 = some (.lst (txs (ws.take (at_ + 1)))) := upd_same
      have w1 := t1 _ _ z3
      generalize upd H3 p1 (.lst (txs (ws.take (at_ + 1)))) = G1 at t1 y1 w1 ⊢
      refine ⟨_, rfl, _, rfl, _, rfl, W, _, rfl, SqL.of w1, fun p2 hp2 => ?_⟩
      rw [txs_from]
      have t2 := same_new (o := HO.lst (txs (ws.drop at_))) hp2
      refine ⟨p1, p2, _, _, rfl, rfl, t2 _ _ y1, upd_same, hsz _ _ (by have := htk (at_ + 1); omega) (by have := hdp at_; omega), fun p3 hp3 => ?_⟩
      rw [← txs_app]
      have t3 := same_new (o := HO.lst (txs (ws.take (at_ + 1) ++ ws.drop at_))) hp3
      have t13 := (t1.trans t2).trans t3
      have e5 := lnS_app (ws.take (at_ + 1)) (ws.drop at_)
      obtain ⟨f1, f2⟩ := okj _ p3 (ws.take (at_ + 1) ++ ws.drop at_) upd_same (by omega)
      refine ⟨S [10], p3, (ws.take (at_ + 1) ++ ws.drop at_).map S, rfl, rfl, Or.inl f1, f2, ?_⟩
      rw [SX.join_S]
      have mem : ∀ l ∈ ws.take (at_ + 1) ++ ws.drop at_, l ∈ ws := fun l hl => (List.mem_append.mp hl).elim (mT _ l) (mD _ l)
      have hl9 : (ws.take (at_ + 1) ++ ws.drop at_).length ≤ k + k := by
        rw [List.length_append]
        have := htk (at_ + 1)
        have := hdp at_
        omega
      exact q _ _ (tx_join (fun l hl => hwf l (mem l hl)) (fun l hl => hwl l (mem l hl)) (by omega) (fun l hl => by have := hwm l (mem l hl); omega) (by omega) (by omega)) ((dk3.same t13).mono (by omega)) (off13.trans (Off.same t13))
    refine ⟨_, rfl, rfl, _, rfl, ite2 (fun _ => ?_) (fun _ => ?_)⟩
    · obtain ⟨u, eu, hu⟩ := tx_upper hpg
      have nl1 : ("\n" : Str) = S [10] := by decide +kernel
      have sp1 : (" " : Str) = S [32] := by decide +kernel
      refine ⟨_, rfl, S t, "\n", rfl, rfl, sz_le (by rw [nl1, SX.S_len [10]]; show _ + 1 ≤ _; omega), ?_⟩
      rw [nl1, SX.S_cat]
      refine ⟨_, rfl, S [10], S t, rfl, rfl, sz_le (by rw [SX.S_len [10]]; show 1 + _ ≤ _; omega), ?_⟩
      rw [SX.S_cat]
      refine ⟨_, rfl, S t, " ", rfl, rfl, sz_le (by rw [sp1, SX.S_len [32]]; show _ + 1 ≤ _; omega), ?_⟩
      rw [sp1, SX.S_cat]
      refine ⟨_, rfl, W, _, 0, _, rfl, rfl, SqL.of z3, txs_at hne, _, rfl, rfl, S t, rfl, rfl, by omega, ?_⟩
      rw [eu]
      refine ⟨sz_le (n := 8) (by decide), fun p hp _ => ?_⟩
      have all : ∀ l ∈ [t ++ [10], [10] ++ t, t ++ [32], ws[0], [], programL, programL ++ [32, 97, 98], u], Tx (L + m + 12) (2 * m + 10) (2 * k + 2) l := by
        have c1 : Tx 1 1 2 [10] := tx_of (by decide +kernel)
        have c2 : Tx 1 1 2 [32] := tx_of (by decide +kernel)
        have c3 : Tx 10 10 2 programL := tx_of (by decide +kernel)
        have c4 : Tx 10 10 2 (programL ++ [32, 97, 98]) := tx_of (by decide +kernel)
        intro l hl
        simp only [List.mem_cons, List.not_mem_nil, or_false] at hl
        rcases hl with rfl | rfl | rfl | rfl | rfl | rfl | rfl | rfl
        · exact (tx_app hpg c1).mono (by omega) (by omega) (by omega)
        · exact (tx_app c1 hpg).mono (by omega) (by omega) (by omega)
        · exact (tx_app hpg c2).mono (by omega) (by omega) (by omega)
        · have h0 := tx_join (L := L + m + 12) (m := m) (k := 2 * k + 2) (ws := [ws[0]]) (fun w hw => by rw [List.mem_singleton.mp hw]; exact hwf _ (List.getElem_mem hne)) (fun w hw => by rw [List.mem_singleton.mp hw]; exact hwl _ (List.getElem_mem hne)) (by rw [lnS_one]; have := hwm _ (List.getElem_mem hne); omega) (fun w hw => by rw [List.mem_singleton.mp hw]; exact hwm _ (List.getElem_mem hne)) (by show 1 ≤ _; omega) (by omega)
          exact h0.mono (Nat.le_refl _) (by omega) (Nat.le_refl _)
        · exact tx_nil (by omega)
        · exact c3.mono (by omega) (by omega) (by omega)
        · exact c4.mono (by omega) (by omega) (by omega)
        · exact hu.mono (by omega) (by omega) (by omega)
      have egs : [V.str (S (t ++ [10])), V.str (S ([10] ++ t)), V.str (S (t ++ [32])), V.str (S ws[0]), V.str "", V.str "program", V.str "program ab", V.str (S u)] = txs [t ++ [10], [10] ++ t, t ++ [32], ws[0], [], programL, programL ++ [32, 97, 98], u] := by
        rw [show ("program" : Str) = S programL by decide +kernel, show ("program ab" : Str) = S (programL ++ [32, 97, 98]) by decide +kernel]
        rfl
      have hgl : [t ++ [10], [10] ++ t, t ++ [32], ws[0], [], programL, programL ++ [32, 97, 98], u].length = 8 := rfl
      rw [egs]
      generalize [t ++ [10], [10] ++ t, t ++ [32], ws[0], [], programL, programL ++ [32, 97, 98], u] = us at all hgl ⊢
      have t1 := same_new (o := HO.lst (txs us)) hp
      obtain ⟨pD, pC⟩ := new_ne dk3 hp
      refine ⟨_, rfl, _, rfl, D, C, T + 2, .ref p, rfl, dk3.same t1, by omega, Or.inr ⟨p, _, rfl, upd_same, pC, by rw [List.length_map, hgl]; decide, by rw [List.length_map, hgl]; decide, fun H9 v hv dk9 off9 => ?_⟩⟩
      obtain ⟨x, hx, rfl⟩ := List.mem_map.mp hv
      exact q H9 x (all x hx) (dk9.mono (by omega)) ((off13.trans (Off.same t1)).trans off9)
    refine ⟨_, rfl, rfl, _, rfl, ite2 (fun _ => ?_) (fun _ => ?_)⟩
    · have hll : (ws[at_]).length ≤ t.length := by
        have h1 := sum_ge (List.getElem_mem hat)
        have h2 : (ws.map fun p => p.length + 1).sum = t.length + 1 := hsum
        omega
      refine ⟨_, rfl, _, rfl, W, _, _, _, rfl, rfl, SqL.of z3, txs_at hat, ⟨_, rfl⟩, S ws[at_], S [32], rfl, rfl, rfl, sz_le (by rw [SX.S_len]; omega), fun V2 hV2 => ?_⟩
      rw [spl_S, map_SV]
      obtain ⟨vD, vC⟩ := new_ne dk3 hV2
      have hVW : V2 ≠ W := by
        rintro rfl
        rw [z3] at hV2
        cases hV2
      have s5 := same_new (o := HO.lst (txs (spl 32 ws[at_]))) hV2
      have v5 : upd H3 V2 (.lst (txs (spl 32 ws[at_]))) V2 = some (.lst (txs (spl 32 ws[at_]))) := upd_same
      have z5 := s5 _ _ z3
      have dk5 := dk3.same s5
      have off15 := off13.trans (Off.same s5)
      have hV0 : H V2 = none := by
        cases e : H V2 with
        | none => rfl
        | some o =>
          rw [off13 V2 o vD vC e] at hV2
          cases hV2
      generalize upd H3 V2 (.lst (txs (spl 32 ws[at_]))) = H5 at s5 v5 z5 dk5 off15 ⊢
      have hwp := pos_of (spl_ne 32 ws[at_])
      have hwc : (spl 32 ws[at_]).length ≤ (ws[at_]).length + 1 := spl_many 32 _
      refine ⟨_, rfl, _, rfl, V2, _, rfl, .inl (SqL.of v5), D, C, T + 2, (spl 32 ws[at_]).length, ?_, dk5, by omega, hwp, by omega, fun H6 sp hsp dk6 off6 => ?_⟩
      · rw [List.length_map]
        rfl
      have z6 := off6 W _ nD nC z5
      have v6 := off6 V2 _ vD vC v5
      have off16 := off15.trans off6
      refine ⟨_, rfl, sz_le (n := 13) (by decide), fun p hp _ => ?_⟩
      rw [poolW_is]
      have t13 := same_new (o := HO.lst (txs poolW)) hp
      have dk7 := dk6.same t13
      obtain ⟨pD, pC⟩ := new_ne dk6 hp
      refine ⟨D, C, T + 3, .ref p, rfl, dk7, by omega, Or.inr ⟨p, _, rfl, upd_same, pC, by decide, by decide, fun H9 v hv dk9 off9 => ?_⟩⟩
      obtain ⟨w, hwl2, rfl⟩ := List.mem_map.mp hv
      obtain ⟨wlo, wfr, wn⟩ := poolW_ok w hwl2
      have z9 := off9 W _ nD nC (t13 _ _ z6)
      have v9 := off9 V2 _ vD vC (t13 _ _ v6)
      refine ⟨_, rfl, _, rfl, V2, _, _, sp, rfl, rfl, v9, ixN_at (by rw [List.length_map]; exact hsp), ?_⟩
      rw [show (txs (spl 32 ws[at_])).set sp (V.str (S w)) = txs ((spl 32 ws[at_]).set sp w) from List.map_set.symm]
      have e2 := sumL_set (spl 32 ws[at_]) sp w
      have e3 : sumL (spl 32 ws[at_]) = (ws[at_]).length + 1 := spl_sum 32 ws[at_]
      have e4 := joinL_le 32 ((spl 32 ws[at_]).set sp w)
      have hjlow : ∀ c ∈ TL.joinL [32] ((spl 32 ws[at_]).set sp w), c < 128 ∧ c ≠ 10 := by
        intro c hc
        rcases join_in 32 hc with h | ⟨p, hp, h⟩
        · omega
        · rcases List.mem_or_eq_of_mem_set hp with hp | rfl
          · have hm := spl_mem hp h
            exact ⟨hwl _ (List.getElem_mem hat) c hm, fun e => hwf _ (List.getElem_mem hat) (e ▸ hm)⟩
          · exact ⟨wlo c h, fun e => wfr (e ▸ h)⟩
      have hjlen : (TL.joinL [32] ((spl 32 ws[at_]).set sp w)).length + 1 ≤ (ws[at_]).length + 1 + 8 := by
        have h1 := join_len 32 ((spl 32 ws[at_]).set sp w) (fun e => spl_ne 32 ws[at_] (List.length_eq_zero_iff.mp (by have := congrArg List.length e; rw [List.length_set] at this; exact this)))
        have h2 : (TL.joinL [32] ((spl 32 ws[at_]).set sp w)).length + 1 = sumL ((spl 32 ws[at_]).set sp w) := h1
        omega
      have zW : upd H9 V2 (.lst (txs ((spl 32 ws[at_]).set sp w))) W = some (.lst (txs ws)) := (upd_ne (Ne.symm hVW)).trans z9
      have zV : upd H9 V2 (.lst (txs ((spl 32 ws[at_]).set sp w))) V2 = some (.lst (txs ((spl 32 ws[at_]).set sp w))) := upd_same
      have dkX := deck_lst (o := .lst (txs ((spl 32 ws[at_]).set sp w))) dk9 vD vC
      have offX := off_lst (o := .lst (txs ((spl 32 ws[at_]).set sp w))) ((off16.trans (Off.same t13)).trans off9) hV0
      generalize upd H9 V2 (.lst (txs ((spl 32 ws[at_]).set sp w))) = HX at zW zV dkX offX ⊢
      refine ⟨⟨_, rfl⟩, _, rfl, _, rfl, _, rfl, W, _, rfl, SqL.of zW, fun p1 hp1 => ?_⟩
      rw [txs_to]
      have t1 := same_new (o := HO.lst (txs (ws.take at_))) hp1
      have y1 : upd HX p1 (.lst (txs (ws.take at_))) p1 = some (.lst (txs (ws.take at_))) := upd_same
      have w1 := t1 _ _ zW
      have zV := t1 _ _ zV
      generalize upd HX p1 (.lst (txs (ws.take at_))) = G1 at t1 y1 w1 zV ⊢
      refine ⟨⟨_, rfl⟩, _, rfl, S [32], V2, ((spl 32 ws[at_]).set sp w).map S, rfl, rfl, Or.inl (SqL.of (zV.trans (by rw [map_SV]))), by rw [join_bound]; exact sz_le (by omega), ?_⟩
      rw [SX.join_S]
      generalize TL.joinL [32] ((spl 32 ws[at_]).set sp w) = l' at hjlow hjlen ⊢
      refine ⟨sz_le (n := 1) (by decide), fun p2 hp2 _ => ?_⟩
      have t2 := same_new (o := HO.lst [V.str (S l')]) hp2
      have y2 := t2 _ _ y1
      have w2 := t2 _ _ w1
      have x2 : upd G1 p2 (.lst [V.str (S l')]) p2 = some (.lst (txs [l'])) := upd_same
      have t12 := t1.trans t2
      generalize upd G1 p2 (.lst [V.str (S l')]) = G2 at t12 y2 w2 x2 ⊢
      refine ⟨p1, p2, _, _, rfl, rfl, y2, x2, hsz _ _ (by have := htk at_; omega) (by show 1 ≤ 2000; decide), fun p3 hp3 => ?_⟩
      rw [← txs_app]
      have t3 := same_new (o := HO.lst (txs (ws.take at_ ++ [l']))) hp3
      have y3 : upd G2 p3 (.lst (txs (ws.take at_ ++ [l']))) p3 = some (.lst (txs (ws.take at_ ++ [l']))) := upd_same
      have w3 := t3 _ _ w2
      have t13' := t12.trans t3
      generalize upd G2 p3 (.lst (txs (ws.take at_ ++ [l']))) = G3 at t13' y3 w3 ⊢
      refine ⟨_, rfl, _, rfl, _, _, rfl, rfl, _, rfl, W, _, rfl, SqL.of w3, fun p4 hp4 => ?_⟩
      rw [ea, txs_from]
      have t4 := same_new (o := HO.lst (txs (ws.drop (at_ + 1)))) hp4
      have lt1 : (ws.take at_ ++ [l']).length ≤ ws.length + 1 := by rw [List.length_append]; have := htk at_; show _ + 1 ≤ _; omega
      refine ⟨p3, p4, _, _, rfl, rfl, t4 _ _ y3, upd_same, hsz _ _ (by omega) (by have := hdp (at_ + 1); omega), fun p5 hp5 => ?_⟩
      rw [← txs_app]
      have t5 := same_new (o := HO.lst (txs (ws.take at_ ++ [l'] ++ ws.drop (at_ + 1)))) hp5
      have t15 := (t13'.trans t4).trans t5
      have e5 : lnS (ws.take at_ ++ [l'] ++ ws.drop (at_ + 1)) = lnS (ws.take at_) + (l'.length + 1) + lnS (ws.drop (at_ + 1)) := by rw [lnS_app, lnS_app, lnS_one]
      obtain ⟨f1, f2⟩ := okj _ p5 (ws.take at_ ++ [l'] ++ ws.drop (at_ + 1)) upd_same (by omega)
      refine ⟨S [10], p5, (ws.take at_ ++ [l'] ++ ws.drop (at_ + 1)).map S, rfl, rfl, Or.inl f1, f2, ?_⟩
      rw [SX.join_S]
      have mem : ∀ l ∈ ws.take at_ ++ [l'] ++ ws.drop (at_ + 1), l ∈ ws ∨ l = l' := fun l hl => (List.mem_append.mp hl).elim (fun hl => (List.mem_append.mp hl).elim (fun h => Or.inl (mT _ l h)) fun h => Or.inr (List.mem_singleton.mp h)) fun h => Or.inl (mD _ l h)
      have hl9 : (ws.take at_ ++ [l'] ++ ws.drop (at_ + 1)).length ≤ k + 1 + k := by
        rw [List.length_append]
        have := hdp (at_ + 1)
        omega
      exact q _ _ (tx_join (fun l hl => (mem l hl).elim (hwf l) fun e => by rw [e]; exact fun h => (hjlow 10 h).2 rfl) (fun l hl => (mem l hl).elim (hwl l) fun e => by rw [e]; exact fun c hc => (hjlow c hc).1) (by omega) (fun l hl => (mem l hl).elim (fun h => by have := hwm l h; omega) fun e => by rw [e]; omega) (by omega) (by omega)) ((dkX.same t15).mono (by omega)) (offX.trans (Off.same t15))
    refine ⟨_, rfl, _, rfl, _, _, rfl, len_S (by omega), _, _, rfl, rfl, D, C, T + 2, t.length + 1, ?_, dk3, by omega, by omega, by omega, fun H4 sp hsp dk4 off4 => ?_⟩
    · show [V.ref D, V.int (((t.length : Nat) : Int) + 1)] = _
      rw [show (((t.length : Nat) : Int) + 1) = ((t.length + 1 : Nat) : Int) by omega]
    have off14 := off13.trans off4
    refine ⟨_, rfl, sz_le (n := 8) (by decide), fun p hp _ => ?_⟩
    rw [poolS_is]
    have t1 := same_new (o := HO.lst (txs poolS)) hp
    obtain ⟨pD, pC⟩ := new_ne dk4 hp
    refine ⟨D, C, T + 3, .ref p, rfl, dk4.same t1, by omega, Or.inr ⟨p, _, rfl, upd_same, pC, by decide, by decide, fun H5 v hv dk5 off5 => ?_⟩⟩
    obtain ⟨g, hg, rfl⟩ := List.mem_map.mp hv
    have tg := poolS_ok g hg
    have tgl := tg.len
    refine ⟨_, _, rfl, ?_⟩
    refine ⟨_, rfl, _, rfl, _, rfl, S t, rfl, sz_le (by omega), ?_⟩
    rw [cutS_to]
    have p1 := (tx_parts hpg sp).1
    have p1l := p1.len
    refine ⟨_, rfl, S (t.take sp), S g, rfl, rfl, sz_le (by rw [SX.S_len, SX.S_len]; omega), ?_⟩
    rw [SX.S_cat]
    refine ⟨_, rfl, _, rfl, _, rfl, D, C, T + 4, 2, rfl, dk5, by omega, by decide, by decide, fun H6 d hd dk6 off6 => ?_⟩
    refine ⟨_, _, rfl, rfl, _, rfl, S t, rfl, sz_le (by omega), ?_⟩
    rw [show (((sp : Nat) : Int) + ((d : Nat) : Int)) = ((sp + d : Nat) : Int) by omega, cutS_from]
    have p2 := (tx_parts hpg (sp + d)).2
    have p2l := p2.len
    refine ⟨S (t.take sp ++ g), S (t.drop (sp + d)), rfl, rfl, sz_le (by rw [SX.S_len, SX.S_len, List.length_append]; omega), ?_⟩
    rw [SX.S_cat]
    have p3 := tx_app (tx_app p1 tg) p2
    have lens : (t.take sp ++ g ++ t.drop (sp + d)).length ≤ L + m + 12 := by
      rw [List.length_append, List.length_append, List.length_take, List.length_drop]
      omega
    exact q H6 _ ⟨lens, p3.low, fun l hl => by have := p3.lns l hl; omega, by have := p3.nl; omega⟩ (dk6.mono (by omega)) (((off14.trans (Off.same t1)).trans off5).trans off6)
end
end Lw

namespace Lw
open PySem PySem.Spec PyProof.Rows L2 Mq
open ClX (CRead CMet)
open SX (S)
/-! ### a program made, or what the error bears; a program read, or what the error bears -/
structure ErrP (K : PySem.W.Frag) (mg : Str → Option Value) (CT CM fB : Addr) : Prop where
  txt : MqE_part.Txt K mg "BadProgram" "BadProgram.__init__" CT fB
  xf : XfC K CT
  nt : PySem.W.findIn K (.ref CT) "part" = some none
  held : HeldC K CT
  gM : mg "MillError" = some (.ref CM)
  kit : PySem.W.kitOne K (.ref CT) (.ref CM) = some true
  exm : PySem.W.exmOne K (.ref CT) (.ref CT) = some true
structure ErrL (K : PySem.W.Frag) (mg : Str → Option Value) (CT CM fB : Addr) : Prop where
  txt : MqE_line.Txt K mg "BadText" "BadText.__init__" CT fB
  xf : XfC K CT
  nt : PySem.W.findIn K (.ref CT) "line" = some none
  held : HeldC K CT
  gM : mg "MillError" = some (.ref CM)
  kit : PySem.W.kitOne K (.ref CT) (.ref CM) = some true
  exm : PySem.W.exmOne K (.ref CT) (.ref CT) = some true
def app2 {α : Type} (a b : List α) : List α := a ++ b
theorem kbn_11 {K : PySem.W.Frag} {x qual : Str} {st : Stmt} {f : Addr} {fd : FuncData} {p1 p2 : Str} (F : Fun K x qual st f fd)
    (h : ∀ (kV doc pm : Value) (an : Option Addr) (cdv ct : Value) (a b : Value), bindArgs (PySem.W.fnOf x qual (defArgs st) (defBody st) (defScope st) .none kV doc pm an cdv ct) ⟨[a], [(p2, b)]⟩ = pure [(p1, a), (p2, b)]) :
    KBn K fd [p1, p2] 1 [p2] app2 app2 := by
  obtain ⟨oc, od, kV, doc, pm, an, cdv, ct, osl, rfl, lk, hcd⟩ := F.ex
  refine ⟨fun s us ws _ h1 h2 => ?_, fun a b => a.append b⟩
  match us, ws, h1, h2 with
  | [a], [b], _, _ => exact .of_eq (h kV doc pm an cdv ct a b)
/-- a list ["bad", k, True] -/
def badV (k : V) : List V := [.str "bad", k, .bl true]
def hearBad (k : V) (H : Hp) (Q : VK) : Prop := ∀ H' p, Same H H' → p ≠ sysModules → H' p = some (.lst (badV k)) → Q (.ref p) H'
def spMade (K : PySem.W.Frag) (C : Addr) : Sp := fun vs H Q _ => ∃ (v1 v2 : V) (d1 d2 : PyData) (b : Bool), vs = [v1, v2, .bl b] ∧ Dg K H v1 d1 ∧ Dg K H v2 d2 ∧ d1.weight ≤ 80000 ∧ d2.weight ≤ 80000 ∧
  match dueM d1 d2 with
  | some p => hearBad p.v H Q
  | none => ∀ H' r sg na, Same H H' → v1 = .str (S sg) → v2 = .ref na → PgAt H' C r sg na → Q (.ref r) H'
def spHeard (K : PySem.W.Frag) (C : Addr) : Sp := fun vs H Q _ => ∃ (v : V) (b : Bool), vs = [v, .bl b] ∧
  ((NoTx K H v ∧ hearBad (.int (0 : Nat)) H Q) ∨ ∃ t : List Nat, v = .str (S t) ∧ t.length ≤ 12000 ∧ LowL t ∧ (∀ l ∈ spl 10 t, l.length ≤ 4000) ∧ (spl 10 t).length ≤ 4002 ∧ (∀ sg ns, pageM t = .inl (sg, ns) → PyData.weightAll (ns.map ddD) ≤ 80000) ∧
    match pageM t with
    | .inr k => hearBad (.int (k : Nat)) H Q
    | .inl (sg, ns) => ∀ H' r na, Same H H' → PgAt H' C r sg na → DeedsAt K H' na ns → Q (.ref r) H')
section
variable {P : Program} {w : World} {K : PySem.W.Frag} {mg : Str → Option Value} {base : Heap} {C CT CM : Addr}
theorem ok_made {f fI fB : Addr} {fd fdI : FuncData} (F : Fun K "_law_made" "_law_made" s__law_made f fd) (B : Blt mg) (T : ErrP K mg CT CM fB) (gC : mg "Program" = some (.ref C))
    (MK : Mk K C fI) (bI : Binds K fdI ["self", "letters", "deeds"] []) (kI : KBn K fdI ["self", "letters", "deeds"] 1 ["deeds", "letters"] app2r app2r) (GI : FnOk P w K mg base (L2.CX P w) 6 fI fdI ["self", "letters", "deeds"] (spInitA K C CT)) :
    FnG P w K mg base CX0 9 f fd ["_law_letters_a", "_law_deeds_a", "_law_is_named"] (spMade K C) := by
  refine Mq.Fun.okG F sc__law_made (fun vs H Q E h => ?_) (fun cdv A outer s H vs Q E gA hr h => ?_)
  · obtain ⟨_, _, _, _, _, rfl, _⟩ := h
    rfl
  · obtain ⟨v1, v2, d1, d2, b, rfl, g1, g2, hw1, hw2, q⟩ := h
    have hr7 : Room 7 (A.deeper (envOfC "_law_made" (defScope s__law_made) s.heap.objs.size f cdv)) := hr.mono (by decide)
    refine ⟨_, (pss_cons (ps_set (i := 3) sc__law_made.nd rfl (Or.inl rfl) pe_non)
      (pss_cons (ps_try_as (i := 4) (Wout := fun _ _ _ _ => False) (c := .ref CT) rfl rfl sc__law_made.nd rfl rfl ⟨rfl, by decide, Or.inl T.txt.gC⟩ takes0
        (fun W pn xe tk _ => pss_one (ps_set (i := 3) sc__law_made.nd rfl (Or.inl rfl) (pe_ifExp (pt_val (pv 2))
            (pe_makeKS (ES := WE W) MK GI hr7 (by rfl) gC kI (fun σ => passAt tk σ) (pk_cons (pv 1) (pk_cons (pv 0) pk_nil)))
            (pe_makeS (m := 2) (ES := WE W) MK GI hr7 (by rfl) gC bI rfl (fun σ => passAt tk σ) (pa_cons (pv 0) (pa_cons (pv 1) pa_nil))))))
        (fun a oe cls d pn hz hf => pss_one (ps_set (i := 3) sc__law_made.nd rfl (Or.inl rfl) (Mq.pe_ls (pa_cons pe_str (pa_cons (pe_xf T.xf T.nt hz hf (pv 4)) (pa_cons (pe_callB (call_heldX T.held hz hf) (by rfl) B.isi (by decide +kernel) (pa_cons (pv 4) (pa_cons (pe_glob (v := .ref CM) (by rfl) T.gM rfl) pa_nil))) pa_nil)))))))
      (pss_one (ps_ret (pv 3))))), ?_⟩
    have fresh : ∀ x dx, H x = none → H dx = none → dx ≠ x → Same H (upd (upd H dx (.own x)) x (.ins C dx [])) := by
      intro x dx hx hdx hne
      have hx5 : upd H dx (.own x) x = none := (upd_ne (Ne.symm hne)).trans hx
      exact (same_new (o := HO.own x) hdx).trans (same_new (o := HO.ins C dx []) hx5)
    have good : ∀ x dx, H x = none → H dx = none → dx ≠ x → ∀ (H1 : Hp), (∀ b o, upd (upd H dx (.own x)) x (.ins C dx []) b = some o → b ≠ x → H1 b = some o) → Same H H1 := by
      intro x dx hx hdx hne H1 kp b o e
      refine kp b o (fresh x dx hx hdx hne b o e) ?_
      rintro rfl
      rw [hx] at e
      cases e
    have finB : ∀ p : Wr, hearBad p.v H Q → ∀ H1 dd, Same H H1 → H1 dd = none → ∀ q, upd H1 dd (.xd [("part", p.v)]) q = none → q ≠ sysModules → Q (.ref q) (upd (upd H1 dd (.xd [("part", p.v)])) q (.lst [.str "bad", p.v, .bl true])) := by
      intro p q H1 dd s1 hdd r hr hne
      exact q _ r ((s1.trans (same_new hdd)).trans (same_new hr)) hne upd_same
    cases b with
    | true =>
      refine ⟨_, rfl, _, rfl, ifT rfl ?_⟩
      refine ⟨_, rfl, _, rfl, rfl, fun x dx hx hdx hne => ?_⟩
      have s6 := fresh x dx hx hdx hne
      refine ⟨x, dx, v1, v2, d1, d2, rfl, upd_same, g1.same s6, g2.same s6, hw1, hw2, ?_⟩
      cases e : dueM d1 d2 with
      | some p =>
        rw [e] at q
        intro H1 dd s1 hdd
        refine ⟨true, T.exm, fun _ a0 ha0 => ?_, fun z => nomatch z⟩
        exact ⟨_, rfl, rfl, rfl, dd, _, _, rfl, upd_same, rfl, _, rfl, rfl, dd, CM, _, true, rfl, rfl, upd_same, T.kit, sz_le (n := 3) (by decide), fun r hr hne => ⟨_, rfl, finB p q H1 dd (s6.trans s1) hdd r hr hne⟩⟩
      | none =>
        rw [e] at q
        intro H1 sg na e1 e2 e3 hb kp
        exact ⟨rfl, _, rfl, q H1 x sg na (good x dx hx hdx hne H1 kp) e1 e3 hb⟩
    | false =>
      refine ⟨_, rfl, _, rfl, ifF rfl ?_⟩
      refine ⟨_, rfl, _, rfl, rfl, fun x dx hx hdx hne => ?_⟩
      have s6 := fresh x dx hx hdx hne
      refine ⟨x, dx, v1, v2, d1, d2, rfl, upd_same, g1.same s6, g2.same s6, hw1, hw2, ?_⟩
      cases e : dueM d1 d2 with
      | some p =>
        rw [e] at q
        intro H1 dd s1 hdd
        refine ⟨true, T.exm, fun _ a0 ha0 => ?_, fun z => nomatch z⟩
        exact ⟨_, rfl, rfl, rfl, dd, _, _, rfl, upd_same, rfl, _, rfl, rfl, dd, CM, _, true, rfl, rfl, upd_same, T.kit, sz_le (n := 3) (by decide), fun r hr hne => ⟨_, rfl, finB p q H1 dd (s6.trans s1) hdd r hr hne⟩⟩
      | none =>
        rw [e] at q
        intro H1 sg na e1 e2 e3 hb kp
        exact ⟨rfl, _, rfl, q H1 x sg na (good x dx hx hdx hne H1 kp) e1 e3 hb⟩
theorem ok_heard {f fR fB p0 CR : Addr} {fd fdR : FuncData} {mc : Value} (F : Fun K "_law_heard" "_law_heard" s__law_heard f fd) (B : Blt mg) (T : ErrL K mg CT CM fB) (gC : mg "Program" = some (.ref C))
    (rd : CRead K C mc) (cm : CMet K C mc "read" p0 fR) (bR : Binds K fdR ["cls", "text"] []) (kR : KBn K fdR ["cls", "text"] 1 ["text"] app2 app2) (GR : FnOk P w K mg base (L2.CX P w) 8 fR fdR ["cls", "text"] (spRead K C CT)) :
    FnG P w K mg base CX0 10 f fd ["_law_page", "_law_is_named"] (spHeard K C) := by
  refine Mq.Fun.okG F sc__law_heard (fun vs H Q E h => ?_) (fun cdv A outer s H vs Q E gA hr h => ?_)
  · obtain ⟨_, _, rfl, _⟩ := h
    rfl
  · obtain ⟨v, b, rfl, h⟩ := h
    have hr8 : Room 8 (A.deeper (envOfC "_law_heard" (defScope s__law_heard) s.heap.objs.size f cdv)) := hr.mono (by decide)
    refine ⟨_, (pss_cons (ps_set (i := 2) sc__law_heard.nd rfl (Or.inl rfl) pe_non)
      (pss_cons (ps_try_as (i := 3) (Wout := fun _ _ _ _ => False) (c := .ref CT) rfl rfl sc__law_heard.nd rfl rfl ⟨rfl, by decide, Or.inl T.txt.gC⟩ takes0
        (fun W pn xe tk _ => pss_one (ps_set (i := 2) sc__law_heard.nd rfl (Or.inl rfl) (pe_ifExp (pt_val (pv 1))
            (pe_cmethK (ES := WE W) (pe_glob (v := .ref C) (by rfl) gC rfl) rd cm GR hr8 kR (fun σ => passAt tk σ) (pk_cons (pv 0) pk_nil))
            (pe_cmethS (n := 1) (ES := WE W) (pe_glob (v := .ref C) (by rfl) gC rfl) rd cm GR hr8 bR rfl (fun σ => passAt tk σ) (pa_cons (pv 0) pa_nil)))))
        (fun a oe cls d pn hz hf => pss_one (ps_set (i := 2) sc__law_heard.nd rfl (Or.inl rfl) (Mq.pe_ls (pa_cons pe_str (pa_cons (pe_xf T.xf T.nt hz hf (pv 3)) (pa_cons (pe_callB (call_heldX T.held hz hf) (by rfl) B.isi (by decide +kernel) (pa_cons (pv 3) (pa_cons (pe_glob (v := .ref CM) (by rfl) T.gM rfl) pa_nil))) pa_nil)))))))
      (pss_one (ps_ret (pv 2))))), ?_⟩
    have finB : ∀ k : Nat, hearBad (.int (k : Nat)) H Q → ∀ H1 dd, Same H H1 → H1 dd = none → ∀ p, upd H1 dd (.xd [("line", .int (k : Nat))]) p = none → p ≠ sysModules → Q (.ref p) (upd (upd H1 dd (.xd [("line", .int (k : Nat))])) p (.lst [.str "bad", .int (k : Nat), .bl true])) := by
      intro k q H1 dd s1 hdd p hp hne
      exact q _ p ((s1.trans (same_new hdd)).trans (same_new hp)) hne upd_same
    cases b with
    | true =>
      refine ⟨_, rfl, _, rfl, ifT rfl ?_⟩
      refine ⟨rfl, _, rfl, rfl, v, rfl, ?_⟩
      rcases h with ⟨hn, q⟩ | ⟨t, rfl, ht, hlow, hsp, hsn, hwt, q⟩
      · refine Or.inl ⟨hn, fun H1 dd s1 hdd => ?_⟩
        unfold lineD
        refine ⟨true, T.exm, fun _ a0 ha0 => ?_, fun z => nomatch z⟩
        exact ⟨_, rfl, rfl, rfl, dd, _, _, rfl, upd_same, rfl, _, rfl, rfl, dd, CM, _, true, rfl, rfl, upd_same, T.kit, sz_le (n := 3) (by decide), fun p hp hne => ⟨_, rfl, finB 0 q H1 dd s1 hdd p hp hne⟩⟩
      · refine Or.inr ⟨t, rfl, ht, hlow, hsp, hsn, hwt, ?_⟩
        cases hp : pageM t with
        | inr k =>
          rw [hp] at q
          intro H1 dd s1 hdd
          unfold lineD
          refine ⟨true, T.exm, fun _ a0 ha0 => ?_, fun z => nomatch z⟩
          exact ⟨_, rfl, rfl, rfl, dd, _, _, rfl, upd_same, rfl, _, rfl, rfl, dd, CM, _, true, rfl, rfl, upd_same, T.kit, sz_le (n := 3) (by decide), fun p hp hne => ⟨_, rfl, finB k q H1 dd s1 hdd p hp hne⟩⟩
        | inl a =>
          obtain ⟨sg, ns⟩ := a
          rw [hp] at q
          intro H1 r na s1 hb hna
          exact ⟨_, rfl, q H1 r na s1 hb hna⟩
    | false =>
      refine ⟨_, rfl, _, rfl, ifF rfl ?_⟩
      refine ⟨rfl, _, rfl, rfl, v, rfl, ?_⟩
      rcases h with ⟨hn, q⟩ | ⟨t, rfl, ht, hlow, hsp, hsn, hwt, q⟩
      · refine Or.inl ⟨hn, fun H1 dd s1 hdd => ?_⟩
        unfold lineD
        refine ⟨true, T.exm, fun _ a0 ha0 => ?_, fun z => nomatch z⟩
        exact ⟨_, rfl, rfl, rfl, dd, _, _, rfl, upd_same, rfl, _, rfl, rfl, dd, CM, _, true, rfl, rfl, upd_same, T.kit, sz_le (n := 3) (by decide), fun p hp hne => ⟨_, rfl, finB 0 q H1 dd s1 hdd p hp hne⟩⟩
      · refine Or.inr ⟨t, rfl, ht, hlow, hsp, hsn, hwt, ?_⟩
        cases hp : pageM t with
        | inr k =>
          rw [hp] at q
          intro H1 dd s1 hdd
          unfold lineD
          refine ⟨true, T.exm, fun _ a0 ha0 => ?_, fun z => nomatch z⟩
          exact ⟨_, rfl, rfl, rfl, dd, _, _, rfl, upd_same, rfl, _, rfl, rfl, dd, CM, _, true, rfl, rfl, upd_same, T.kit, sz_le (n := 3) (by decide), fun p hp hne => ⟨_, rfl, finB k q H1 dd s1 hdd p hp hne⟩⟩
        | inl a =>
          obtain ⟨sg, ns⟩ := a
          rw [hp] at q
          intro H1 r na s1 hb hna
          exact ⟨_, rfl, q H1 r na s1 hb hna⟩
end
end Lw

namespace Mq
open PySem PySem.Spec PyProof.Rows L2
open SX (S)
open TL (numL tl joinL)
/-! ### data that are told apart by their repr: whole numbers from 0 on, plain texts, tuples of these -/
def safeC (c : Nat) : Bool := decide (32 ≤ c) && (decide (c < 127) && (decide (c ≠ 39) && decide (c ≠ 92)))
inductive Cd : PyData → Prop
  | nat (n : Nat) : Cd (.int (n : Nat))
  | str (l : List Nat) (h : ∀ c ∈ l, safeC c = true) : Cd (.str (S l))
  | tup (ds : List PyData) (h : ∀ d ∈ ds, Cd d) : Cd (.tuple ds)
def shL (d : PyData) : List Nat := tl d.shown
theorem shL_nat (n : Nat) : shL (.int (n : Nat)) = numL n := by
  show tl (Str.ofString (toString ((n : Nat) : Int))) = _
  rw [SX.num_S]
theorem safe_repr {c : Nat} (h : safeC c = true) : Builtin.Str.reprChar 39 c = [c] ∧ c ≠ 39 := by
  have key : ((List.range 127).all fun c => !safeC c || (decide (Builtin.Str.reprChar 39 c = [c]) && decide (c ≠ 39))) = true := by decide +kernel
  have hc : c < 127 := by
    unfold safeC at h
    obtain ⟨_, h⟩ := Bool.and_eq_true_iff.mp h
    exact of_decide_eq_true (Bool.and_eq_true_iff.mp h).1
  have h2 := List.all_eq_true.mp key c (List.mem_range.mpr hc)
  rw [h, Bool.not_true, Bool.false_or] at h2
  obtain ⟨a, b⟩ := Bool.and_eq_true_iff.mp h2
  exact ⟨of_decide_eq_true a, of_decide_eq_true b⟩
theorem fold_safe : ∀ (l : List Nat) (acc : Array Nat), (∀ c ∈ l, safeC c = true) → (l.foldl (fun out c => out ++ (Builtin.Str.reprChar 39 c).toArray) acc).toList = acc.toList ++ l
  | [], acc, _ => (List.append_nil _).symm
  | c :: l, acc, h => by
    rw [List.foldl_cons, fold_safe l _ fun x hx => h x (List.mem_cons_of_mem _ hx), (safe_repr (h c List.mem_cons_self)).1]
    simp
theorem shL_str {l : List Nat} (h : ∀ c ∈ l, safeC c = true) : shL (.str (S l)) = 39 :: (l ++ [39]) := by
  show tl (reprText (S l)) = _
  have hq : reprQuote (S l) = 39 := by
    unfold reprQuote
    have e : (S l).cps.contains 39 = false := by
      rw [Bool.eq_false_iff]
      intro hc
      have h1 : (39 : Nat) ∈ l := by
        have := Array.contains_iff_mem.mp hc
        simpa [S] using this
      exact (safe_repr (h 39 h1)).2 rfl
    rw [e]
    rfl
  unfold reprText
  rw [hq]
  show ((Array.foldl (fun out c => out ++ (Builtin.Str.reprChar 39 c).toArray) #[39] (S l).cps).push 39).toList = _
  rw [Array.toList_push, ← Array.foldl_toList]
  show (l.foldl (fun out c => out ++ (Builtin.Str.reprChar 39 c).toArray) #[39]).toList ++ [39] = _
  rw [fold_safe l _ h]
  rfl
theorem shownAll_map : ∀ ds : List PyData, PyData.shownAll ds = ds.map PyData.shown
  | [] => by simp only [PyData.shownAll, List.map_nil]
  | d :: ds => by
    simp only [PyData.shownAll, List.map_cons]
    rw [shownAll_map ds]
def endT (n : Nat) : List Nat := if n = 1 then [44, 41] else [41]
theorem shL_tup (ds : List PyData) : shL (.tuple ds) = [40] ++ joinL [44, 32] (ds.map shL) ++ endT ds.length := by
  have e : PyData.shown (.tuple ds) = tupleText (PyData.shownAll ds) := by simp only [PyData.shown]
  show tl (PyData.shown (.tuple ds)) = _
  rw [e]
  unfold tupleText
  rw [TL.tl_append, TL.tl_append, TL.tl_join, shownAll_map, List.map_map, List.length_map]
  have e1 : tl ("(" : Str) = [40] := by decide +kernel
  have e2 : tl (", " : Str) = [44, 32] := by decide +kernel
  rw [e1, e2]
  congr 1
  unfold endT
  by_cases h : ds.length = 1
  · rw [if_pos h, h]
    decide +kernel
  · rw [if_neg h, if_neg (by simpa using h)]
    decide +kernel
/-! what stands behind -/
def Sep (r : List Nat) : Prop := r = [] ∨ ∃ c r', r = c :: r' ∧ (c = 44 ∨ c = 41)
theorem nat_split : ∀ (a b r r' : List Nat), (∀ c ∈ a, 48 ≤ c ∧ c ≤ 57) → (∀ c ∈ b, 48 ≤ c ∧ c ≤ 57) → Sep r → Sep r' → a ++ r = b ++ r' → a = b ∧ r = r'
  | [], [], r, r', _, _, _, _, e => ⟨rfl, e⟩
  | [], d :: b, r, r', _, hb, hr, _, e => by
    have hd := hb d List.mem_cons_self
    rcases hr with rfl | ⟨c, r2, rfl, hc⟩
    · cases e
    · injection e with e1 _
      omega
  | c :: a, [], r, r', ha, _, _, hr, e => by
    have hd := ha c List.mem_cons_self
    rcases hr with rfl | ⟨d, r2, rfl, hc⟩
    · cases e
    · injection e with e1 _
      omega
  | c :: a, d :: b, r, r', ha, hb, hr, hr', e => by
    injection e with e1 e2
    obtain ⟨h1, h2⟩ := nat_split a b r r' (fun x hx => ha x (List.mem_cons_of_mem _ hx)) (fun x hx => hb x (List.mem_cons_of_mem _ hx)) hr hr' e2
    exact ⟨by rw [e1, h1], h2⟩
theorem str_split : ∀ (a b r r' : List Nat), 39 ∉ a → 39 ∉ b → a ++ 39 :: r = b ++ 39 :: r' → a = b ∧ r = r'
  | [], [], r, r', _, _, e => by
    injection e with _ e
    exact ⟨rfl, e⟩
  | [], d :: b, r, r', _, hb, e => by
    injection e with e1 _
    exact (hb (by rw [← e1]; exact List.mem_cons_self)).elim
  | c :: a, [], r, r', ha, _, e => by
    injection e with e1 _
    exact (ha (by rw [e1]; exact List.mem_cons_self)).elim
  | c :: a, d :: b, r, r', ha, hb, e => by
    injection e with e1 e2
    obtain ⟨h1, h2⟩ := str_split a b r r' (fun h => ha (List.mem_cons_of_mem _ h)) (fun h => hb (List.mem_cons_of_mem _ h)) e2
    exact ⟨by rw [e1, h1], h2⟩
theorem num_dig (n : Nat) : ∀ c ∈ numL n, 48 ≤ c ∧ c ≤ 57 := fun c hc => by
  by_cases h : c < 48 ∨ 57 < c
  · exact (TL.numL_free h hc).elim
  · omega
theorem cd_head {d : PyData} (h : Cd d) : ∃ c l, shL d = c :: l ∧ ((48 ≤ c ∧ c ≤ 57) ∨ c = 39 ∨ c = 40) := by
  cases h with
  | nat n =>
    rw [shL_nat]
    cases e : numL n with
    | nil => exact (TL.numL_ne n e).elim
    | cons c l => exact ⟨c, l, rfl, Or.inl (num_dig n c (by rw [e]; exact List.mem_cons_self))⟩
  | str l hl => exact ⟨39, _, shL_str hl, Or.inr (Or.inl rfl)⟩
  | tup ds hd => exact ⟨40, _, by rw [shL_tup]; rfl, Or.inr (Or.inr rfl)⟩
def InjD (d : PyData) : Prop := ∀ e, Cd e → ∀ r r', Sep r → Sep r' → shL d ++ r = shL e ++ r' → d = e ∧ r = r'
/-- the end of a tuple -/
def EndR (r : List Nat) : Prop := (∃ z, r = 41 :: z) ∨ ∃ z, r = 44 :: 41 :: z
theorem EndR.sep {r : List Nat} (h : EndR r) : Sep r := by
  rcases h with ⟨z, rfl⟩ | ⟨z, rfl⟩
  · exact Or.inr ⟨_, _, rfl, Or.inr rfl⟩
  · exact Or.inr ⟨_, _, rfl, Or.inl rfl⟩
theorem join_inj : ∀ (ds es : List PyData), ds ≠ [] → es ≠ [] → (∀ d ∈ ds, InjD d) → (∀ e ∈ es, Cd e) → ∀ r r', EndR r → EndR r' →
    joinL [44, 32] (ds.map shL) ++ r = joinL [44, 32] (es.map shL) ++ r' → ds = es ∧ r = r'
  | [], _, h, _, _, _, _, _, _, _, _ => (h rfl).elim
  | _ :: _, [], _, h, _, _, _, _, _, _, _ => (h rfl).elim
  | [d], [e], _, _, hd, he, r, r', hr, hr', x => by
    obtain ⟨h1, h2⟩ := hd d (by simp) e (he e (by simp)) r r' hr.sep hr'.sep x
    exact ⟨by rw [h1], h2⟩
  | [d], e :: e2 :: es, _, _, hd, he, r, r', hr, hr', x => by
    have x : shL d ++ r = shL e ++ ([44, 32] ++ joinL [44, 32] ((e2 :: es).map shL) ++ r') := by
      have x : shL d ++ r = (shL e ++ ([44, 32] ++ joinL [44, 32] ((e2 :: es).map shL))) ++ r' := x
      rw [x]
      simp
    obtain ⟨_, h2⟩ := hd d (by simp) e (he e (by simp)) r _ hr.sep (Or.inr ⟨44, _, rfl, Or.inl rfl⟩) x
    rcases hr with ⟨z, rfl⟩ | ⟨z, rfl⟩
    · injection h2 with h3 _
      cases h3
    · injection h2 with _ h3
      injection h3 with h4 _
      cases h4
  | d :: d2 :: ds, [e], _, _, hd, he, r, r', hr, hr', x => by
    have x : shL d ++ ([44, 32] ++ joinL [44, 32] ((d2 :: ds).map shL) ++ r) = shL e ++ r' := by
      have x : (shL d ++ ([44, 32] ++ joinL [44, 32] ((d2 :: ds).map shL))) ++ r = shL e ++ r' := x
      rw [← x]
      simp
    obtain ⟨_, h2⟩ := hd d (by simp) e (he e (by simp)) _ r' (Or.inr ⟨44, _, rfl, Or.inl rfl⟩) hr'.sep x
    rcases hr' with ⟨z, rfl⟩ | ⟨z, rfl⟩
    · injection h2 with h3 _
      cases h3
    · injection h2 with _ h3
      injection h3 with h4 _
      cases h4
  | d :: d2 :: ds, e :: e2 :: es, _, _, hd, he, r, r', hr, hr', x => by
    have x : shL d ++ ([44, 32] ++ (joinL [44, 32] ((d2 :: ds).map shL) ++ r)) = shL e ++ ([44, 32] ++ (joinL [44, 32] ((e2 :: es).map shL) ++ r')) := by
      have x : (shL d ++ ([44, 32] ++ joinL [44, 32] ((d2 :: ds).map shL))) ++ r = (shL e ++ ([44, 32] ++ joinL [44, 32] ((e2 :: es).map shL))) ++ r' := x
      simpa using x
    obtain ⟨h1, h2⟩ := hd d (by simp) e (he e (by simp)) _ _ (Or.inr ⟨44, _, rfl, Or.inl rfl⟩) (Or.inr ⟨44, _, rfl, Or.inl rfl⟩) x
    injection h2 with _ h3
    injection h3 with _ h4
    obtain ⟨h5, h6⟩ := join_inj (d2 :: ds) (e2 :: es) (by simp) (by simp) (fun z hz => hd z (List.mem_cons_of_mem _ hz)) (fun z hz => he z (List.mem_cons_of_mem _ hz)) r r' hr hr' h4
    exact ⟨by rw [h1, h5], h6⟩
theorem end_R (n : Nat) (r : List Nat) : EndR (endT n ++ r) := by
  unfold endT
  split
  · exact Or.inr ⟨r, rfl⟩
  · exact Or.inl ⟨r, rfl⟩
theorem tup_inj {ds : List PyData} (hd : ∀ d ∈ ds, InjD d) (hc : ∀ d ∈ ds, Cd d) : InjD (.tuple ds) := by
  intro e he r r' hr hr' x
  cases he with
  | nat n =>
    rw [shL_tup, shL_nat] at x
    cases e2 : numL n with
    | nil => exact (TL.numL_ne n e2).elim
    | cons c l =>
      have := num_dig n c (by rw [e2]; exact List.mem_cons_self)
      rw [e2] at x
      injection x with x1 _
      omega
  | str l hl =>
    rw [shL_tup, shL_str hl] at x
    injection x with x1 _
    cases x1
  | tup es hes =>
    rw [shL_tup, shL_tup] at x
    have x : joinL [44, 32] (ds.map shL) ++ (endT ds.length ++ r) = joinL [44, 32] (es.map shL) ++ (endT es.length ++ r') := by
      have x : ([40] ++ joinL [44, 32] (ds.map shL) ++ endT ds.length) ++ r = ([40] ++ joinL [44, 32] (es.map shL) ++ endT es.length) ++ r' := x
      simpa using x
    have hh : ∀ (fs : List PyData), fs ≠ [] → (∀ f ∈ fs, Cd f) → ∀ z, ∃ c l, joinL [44, 32] (fs.map shL) ++ z = c :: l ∧ c ≠ 41 := by
      intro fs h1 h2 z
      match fs, h1, h2 with
      | f :: fs, _, h2 =>
        obtain ⟨c, l, e1, e2⟩ := cd_head (h2 f (by simp))
        cases fs with
        | nil => exact ⟨c, l ++ z, by show shL f ++ z = _; rw [e1]; rfl, by omega⟩
        | cons g gs => exact ⟨c, _, by show (shL f ++ ([44, 32] ++ joinL [44, 32] ((g :: gs).map shL))) ++ z = _; rw [e1]; rfl, by omega⟩
    by_cases h1 : ds = []
    · by_cases h2 : es = []
      · subst h1
        subst h2
        injection x with _ x
        exact ⟨rfl, x⟩
      · subst h1
        obtain ⟨c, l, e1, e2⟩ := hh es h2 hes (endT es.length ++ r')
        rw [e1] at x
        injection x with x1 _
        exact (e2 x1.symm).elim
    · by_cases h2 : es = []
      · subst h2
        obtain ⟨c, l, e1, e2⟩ := hh ds h1 hc (endT ds.length ++ r)
        rw [e1] at x
        injection x with x1 _
        exact (e2 x1).elim
      · obtain ⟨h3, h4⟩ := join_inj ds es h1 h2 hd hes _ _ (end_R _ _) (end_R _ _) x
        subst h3
        exact ⟨rfl, List.append_cancel_left h4⟩
theorem cd_inj : ∀ {d : PyData}, Cd d → InjD d
  | _, .nat n => by
    intro e he r r' hr hr' x
    rw [shL_nat] at x
    cases he with
    | nat m =>
      rw [shL_nat] at x
      obtain ⟨h1, h2⟩ := nat_split _ _ r r' (num_dig n) (num_dig m) hr hr' x
      rw [TL.numL_inj h1]
      exact ⟨rfl, h2⟩
    | str l hl =>
      rw [shL_str hl] at x
      cases e2 : numL n with
      | nil => exact (TL.numL_ne n e2).elim
      | cons c l2 =>
        have := num_dig n c (by rw [e2]; exact List.mem_cons_self)
        rw [e2] at x
        injection x with x1 _
        omega
    | tup es hes =>
      rw [shL_tup] at x
      cases e2 : numL n with
      | nil => exact (TL.numL_ne n e2).elim
      | cons c l2 =>
        have := num_dig n c (by rw [e2]; exact List.mem_cons_self)
        rw [e2] at x
        injection x with x1 _
        omega
  | _, .str l hl => by
    intro e he r r' hr hr' x
    rw [shL_str hl] at x
    cases he with
    | nat m =>
      rw [shL_nat] at x
      cases e2 : numL m with
      | nil => exact (TL.numL_ne m e2).elim
      | cons c l2 =>
        have := num_dig m c (by rw [e2]; exact List.mem_cons_self)
        rw [e2] at x
        injection x with x1 _
        omega
    | str l2 hl2 =>
      rw [shL_str hl2] at x
      injection x with _ x
      have x : l ++ 39 :: r = l2 ++ 39 :: r' := by simpa using x
      obtain ⟨h1, h2⟩ := str_split l l2 r r' (fun h => (safe_repr (hl 39 h)).2 rfl) (fun h => (safe_repr (hl2 39 h)).2 rfl) x
      rw [h1]
      exact ⟨rfl, h2⟩
    | tup es hes =>
      rw [shL_tup] at x
      injection x with x1 _
      cases x1
  | _, .tup ds h => tup_inj (fun d hd => cd_inj (h d hd)) h
theorem shown_inj {d e : PyData} (h : Cd d) (k : Cd e) (x : d.shown = e.shown) : d = e := by
  refine (cd_inj h e k [] [] (Or.inl rfl) (Or.inl rfl) ?_).1
  show tl d.shown ++ [] = tl e.shown ++ []
  rw [x]
theorem shown_dec {d e : PyData} (h : Cd d) (k : Cd e) : decide (V.str d.shown = V.str e.shown) = true ↔ d = e :=
  ⟨fun x => shown_inj h k (V.str.inj (of_decide_eq_true x)), fun x => by rw [x]; exact decide_eq_true rfl⟩
/-! and by == too -/
theorem eqvAll_inj : ∀ {ds es : List PyData}, (∀ d ∈ ds, ∀ e, Cd e → PyData.eqv d e = true → d = e) → (∀ e ∈ es, Cd e) → PyData.eqvAll ds es = true → ds = es
  | [], [], _, _, _ => rfl
  | [], _ :: _, _, _, h => by cases h
  | _ :: _, [], _, _, h => by cases h
  | d :: ds, e :: es, hd, he, h => by
    obtain ⟨h1, h2⟩ := Bool.and_eq_true_iff.mp (show (PyData.eqv d e && PyData.eqvAll ds es) = true from h)
    rw [hd d List.mem_cons_self e (he e List.mem_cons_self) h1, eqvAll_inj (fun x hx => hd x (List.mem_cons_of_mem _ hx)) (fun x hx => he x (List.mem_cons_of_mem _ hx)) h2]
theorem eqv_inj : ∀ {d : PyData}, Cd d → ∀ e, Cd e → PyData.eqv d e = true → d = e
  | _, .nat n, _, .nat m, h => by
    have h : (((n : Nat) : Int) == ((m : Nat) : Int)) = true := h
    rw [eq_of_beq h]
  | _, .nat n, _, .str _ _, h => by cases h
  | _, .nat n, _, .tup _ _, h => by cases h
  | _, .str l hl, _, .nat _, h => by cases h
  | _, .str l hl, _, .str _ _, h => by
    rw [eq_of_beq (show (S l == S _) = true from h)]
  | _, .str l hl, _, .tup _ _, h => by cases h
  | _, .tup ds _, _, .nat _, h => by cases h
  | _, .tup ds _, _, .str _ _, h => by cases h
  | _, .tup ds hd, _, .tup es he, h => by rw [eqvAll_inj (fun d hx => eqv_inj (hd d hx)) he h]
theorem eqvAll_refl : ∀ {ds : List PyData}, (∀ d ∈ ds, PyData.eqv d d = true) → PyData.eqvAll ds ds = true
  | [], _ => rfl
  | d :: ds, h => by
    show (PyData.eqv d d && PyData.eqvAll ds ds) = true
    rw [h d List.mem_cons_self, eqvAll_refl fun x hx => h x (List.mem_cons_of_mem _ hx)]
    rfl
theorem eqv_refl : ∀ {d : PyData}, Cd d → PyData.eqv d d = true
  | _, .nat n => by show (((n : Nat) : Int) == ((n : Nat) : Int)) = true; exact beq_self_eq_true _
  | _, .str l _ => by show (S l == S l) = true; exact beq_self_eq_true _
  | _, .tup ds h => eqvAll_refl fun d hd => eqv_refl (h d hd)
/-- repr and == tell the same -/
theorem shown_eqv {d e : PyData} (h : Cd d) (k : Cd e) : decide (V.str d.shown = V.str e.shown) = PyData.eqv d e := by
  rw [Bool.eq_iff_iff]
  exact (shown_dec h k).trans ⟨fun x => by rw [x]; exact eqv_refl k, fun x => eqv_inj h e k x⟩
end Mq

namespace Lw
open PySem PySem.Spec PyProof.Rows L2 Mq
open SX (S)
open TL (numL)
/-! ### letters, numbers, lines: there and back -/
theorem sg_ok {sg : List Nat} (h : lettersB sg = true) : SgOk sg := by
  have h0 := h
  unfold lettersB at h0
  obtain ⟨_, h2⟩ := Bool.and_eq_true_iff.mp h0
  obtain ⟨h2, _⟩ := Bool.and_eq_true_iff.mp h2
  obtain ⟨hn, ha⟩ := letters_alpha h
  refine ⟨pos_of hn, ?_, fun c hc => by have := alpha_low (ha c hc); omega, h⟩
  have nd : sg.Nodup := (asc_pair.mp h2).imp fun h => Nat.ne_of_lt h
  have := few_of nd ha
  have e : alpha.length = 26 := by decide +kernel
  omega
theorem num_back : ∀ (k : Nat) (w : List Nat), w.length = k → w ≠ [] → (∀ c ∈ w, 48 ≤ c ∧ c ≤ 57) → (w.getD 0 0 = 48 → w = [48]) → numL (NumText.digitsVal w) = w
  | 0, w, hk, hn, _, _ => (hn (List.length_eq_zero_iff.mp hk)).elim
  | 1, w, hk, hn, hd, _ => by
    match w, hk, hd with
    | [c], _, hd =>
      have hc := hd c (by simp)
      have e : NumText.digitsVal [c] = c - 48 := by show 0 * 10 + (c - 48) = c - 48; omega
      rw [e, TL.numL_lt (by omega)]
      congr 1
      omega
  | k + 2, w, hk, hn, hd, h0 => by
    rcases List.eq_nil_or_concat w with rfl | ⟨u, c, rfl⟩
    · exact (hn rfl).elim
    · rw [List.concat_eq_append] at *
      have hul : u.length = k + 1 := by
        rw [List.length_append] at hk
        have : u.length + 1 = k + 2 := hk
        omega
      have hun : u ≠ [] := fun e => by rw [e] at hul; cases hul
      have hc := hd c (by simp)
      have hu : ∀ c ∈ u, 48 ≤ c ∧ c ≤ 57 := fun x hx => hd x (List.mem_append_left _ hx)
      have hz : u.getD 0 0 ≠ 48 := by
        intro e
        have e2 : (u ++ [c]).getD 0 0 = 48 := by
          match u, hun, e with
          | x :: r, _, e => exact e
        have h3 := congrArg List.length (h0 e2)
        rw [hk] at h3
        have h3 : k + 2 = 1 := h3
        omega
      have ih := num_back (k + 1) u hul hun hu (fun e => (hz e).elim)
      have ev : NumText.digitsVal (u ++ [c]) = NumText.digitsVal u * 10 + (c - 48) := by
        show (u ++ [c]).foldl (fun acc c => acc * 10 + (c - 48)) 0 = u.foldl (fun acc c => acc * 10 + (c - 48)) 0 * 10 + (c - 48)
        rw [List.foldl_append]
        rfl
      have hpos : 1 ≤ NumText.digitsVal u := by
        match u, hun, hu, hz with
        | x :: r, _, hu, hz =>
          have hx := hu x (by simp)
          have hx2 : x ≠ 48 := hz
          have h4 := val_low 0 r (0 * 10 + (x - 48))
          have h5 : 0 < 10 ^ r.length := Nat.pow_pos (by decide)
          have h6 : 1 * 10 ^ r.length ≤ (0 * 10 + (x - 48)) * 10 ^ r.length := Nat.mul_le_mul_right _ (by omega)
          show 1 ≤ (x :: r).foldl (fun acc c => acc * 10 + (c - 48)) 0
          rw [List.foldl_cons]
          omega
      rw [ev, TL.numL_step (by omega)]
      have e1 : (NumText.digitsVal u * 10 + (c - 48)) / 10 = NumText.digitsVal u := by omega
      have e2 : (NumText.digitsVal u * 10 + (c - 48)) % 10 = c - 48 := by omega
      rw [e1, e2, ih]
      congr 2
      omega
theorem num_same {w : List Nat} (h : numB w = true) : numL (NumText.digitsVal w) = w := by
  unfold numB at h
  obtain ⟨h1, h⟩ := Bool.and_eq_true_iff.mp h
  obtain ⟨h2, h3⟩ := Bool.and_eq_true_iff.mp h
  have hd := List.all_eq_true.mp (dig_all h2)
  refine num_back _ w rfl (fun e => by rw [decide_eq_true e] at h1; cases h1) (fun c hc => ?_) (fun e => ?_)
  · obtain ⟨a, b⟩ := Bool.and_eq_true_iff.mp (hd c hc)
    exact ⟨of_decide_eq_true a, of_decide_eq_true b⟩
  · rw [decide_eq_true e, Bool.true_and, Bool.not_not] at h3
    exact of_decide_eq_true h3
theorem rdN_num {m n : Nat} {w : List Nat} (h : rdN m w = some n) : numL n = w := by
  unfold rdN numM at h
  split at h
  · split at h
    · rename_i k hk
      split at h
      · cases h
        split at hk
        · rename_i hb
          cases hk
          exact num_same hb
        · cases hk
      · cases h
    · cases h
  · cases h
theorem rdNs_nums {m : Nat} {ws : List (List Nat)} {ts : List Nat} (h : rdNs m ws = some ts) : ts.map numL = ws := by
  unfold rdNs at h
  split at h
  · rename_i ha
    cases h
    rw [List.map_map]
    refine (List.map_congr_left fun w hw => ?_).trans (List.map_id' ws)
    have h1 := List.all_eq_true.mp ha (rdN m w) (List.mem_map.mpr ⟨w, hw, rfl⟩)
    cases e : rdN m w with
    | none =>
      rw [e] at h1
      cases h1
    | some n =>
      show numL ((rdN m w).getD 0) = w
      rw [e]
      exact rdN_num e
  · cases h
theorem deed_back {sg line : List Nat} {m : Nat} {n : Dd} (h : deedM sg m line = some n) : deedT n = line ∧ ddOk sg m n := by
  have j := spl_join 32 line
  unfold deedM at h
  split at h
  · rename_i hd
    cases h
    rw [of_decide_eq_true hd] at j
    exact ⟨j, trivial⟩
  · unfold wordsM at h
    split at h
    · rename_i w0 rest e
      rw [e] at j
      split at h
      · rename_i hl
        obtain ⟨h1, h2⟩ := Bool.and_eq_true_iff.mp hl
        have h1 := of_decide_eq_true h1
        have h2 := of_decide_eq_true h2
        match rest, h2, h, j with
        | [w1, w2], _, h, j =>
          unfold layM at h
          split at h
          · cases h
          · rename_i ts hts
            split at h
            · rename_i hb
              obtain ⟨c, e1, hc⟩ := letB_one hb
              cases h
              have hn := rdNs_nums hts
              have ht := rdNs_lt hts
              match ts, ht, hn with
              | [], ht, _ => cases ht.1
              | t :: tr, ht, hn =>
                have hw1 : w1 = [c] := e1
                injection hn with hn1 _
                refine ⟨?_, ?_, ht.2 t (by simp)⟩
                · rw [← j, h1]
                  show TL.joinL [32] [layL, [([w1, w2].getD 0 []).headD 0], numL t] = TL.joinL [32] [layL, w1, w2]
                  rw [hn1]
                  show TL.joinL [32] [layL, [w1.headD 0], w2] = _
                  rw [hw1]
                  rfl
                · show w1.headD 0 ∈ sg
                  rw [hw1]
                  exact hc
            · cases h
      · unfold lookM at h
        split at h
        · cases h
        · rename_i ts hts
          split at h
          · rename_i hb
            obtain ⟨h1, h2⟩ := Bool.and_eq_true_iff.mp hb
            cases h
            have hn := rdNs_nums hts
            have ht := rdNs_lt hts
            refine ⟨?_, of_decide_eq_true h2, ht.2⟩
            rw [← j, of_decide_eq_true h1]
            show TL.joinL [32] (lookL :: ts.map numL) = _
            rw [hn]
          · cases h
    · cases h
structure PgBk (t sg : List Nat) (ns : List Dd) : Prop where
  let_ : lettersB sg = true
  back : pageT sg ns = t
  few : ns.length ≤ 999
  pos : ns ≠ []
  ok : ∀ n ∈ ns, ddOk sg ns.length n
  sum : sumL (ns.map deedT) ≤ t.length + 1
theorem page_back {t sg : List Nat} {ns : List Dd} (h : pageM t = .inl (sg, ns)) : PgBk t sg ns := by
  have j := spl_join 10 t
  have hs : sumL (spl 10 t) = t.length + 1 := spl_sum 10 t
  unfold pageM headM at h
  cases e : spl 10 t with
  | nil => exact (spl_ne 10 t e).elim
  | cons l0 ls =>
    rw [e] at h j hs
    dsimp only at h
    rw [headW_ok] at h
    cases eh : headOk (spl 32 l0) with
    | false =>
      rw [eh] at h
      cases h
    | true =>
      rw [eh, if_pos rfl] at h
      have j0 := spl_join 32 l0
      generalize spl 32 l0 = ws at eh h j0
      match ws, eh, h, j0 with
      | [w0, w1], eh, h, j0 =>
        obtain ⟨eh1, eh2⟩ := Bool.and_eq_true_iff.mp (show (decide (w0 = programL) && lettersB w1) = true from eh)
        have eh1 := of_decide_eq_true eh1
        have h : (if ls.isEmpty = true then (.inr 2 : (List Nat × List Dd) ⊕ Nat) else match firstN (linesM w1 ls) 0 with
          | some k => .inr (k + 2)
          | none => .inl (w1, (linesM w1 ls).filterMap id)) = .inl (sg, ns) := h
        cases he : ls.isEmpty with
        | true =>
          rw [he] at h
          cases h
        | false =>
          rw [he, if_neg (by decide)] at h
          cases hf : firstN (linesM w1 ls) 0 with
          | some k =>
            rw [hf] at h
            cases h
          | none =>
            rw [hf] at h
            cases h
            obtain ⟨h999, hmap⟩ := lines_map hf
            have hso := firstN_some hf
            rw [hmap] at hso ⊢
            have key : ∀ (xs : List (List Nat)), (∀ o ∈ xs.map (deedM sg ls.length), o ≠ none) → ((xs.map (deedM sg ls.length)).filterMap id).map deedT = xs ∧ ∀ n ∈ (xs.map (deedM sg ls.length)).filterMap id, ddOk sg ls.length n := by
              intro xs
              induction xs with
              | nil => exact fun _ => ⟨rfl, fun _ h => by cases h⟩
              | cons x xs ih =>
                intro hh
                obtain ⟨i1, i2⟩ := ih fun o ho => hh o (List.mem_cons_of_mem _ ho)
                cases ex : deedM sg ls.length x with
                | none => exact (hh none (by rw [List.map_cons, ex]; exact List.mem_cons_self) rfl).elim
                | some n =>
                  obtain ⟨b1, b2⟩ := deed_back ex
                  rw [List.map_cons, ex]
                  refine ⟨?_, fun y hy => ?_⟩
                  · show deedT n :: _ = _
                    rw [b1, i1]
                  · rcases List.mem_cons.mp (show y ∈ n :: (xs.map (deedM sg ls.length)).filterMap id from hy) with rfl | hy
                    · exact b2
                    · exact i2 y hy
            obtain ⟨k1, k2⟩ := key ls hso
            have hlen : ((ls.map (deedM sg ls.length)).filterMap id).length = ls.length := by
              have := congrArg List.length k1
              rw [List.length_map] at this
              exact this
            refine ⟨eh2, ?_, by omega, fun e0 => ?_, by rw [hlen]; exact k2, ?_⟩
            · unfold pageT
              rw [k1, ← j]
              congr 2
              rw [← j0, eh1]
              rfl
            · rw [e0] at hlen
              have : ls = [] := List.length_eq_zero_iff.mp hlen.symm
              rw [this] at he
              cases he
            · rw [k1]
              have h3 : sumL (l0 :: ls) = (l0.length + 1) + sumL ls := rfl
              omega
/-! ### deeds as data: in bounds, told apart -/
theorem letter_safe {c : Nat} (h : c ∈ alpha) : safeC c = true := by
  have key : (alpha.all safeC) = true := by decide +kernel
  exact List.all_eq_true.mp key c h
theorem cd_lit {x : Str} (h : x.cps.toList.all safeC = true) : Cd (.str x) := by
  rw [← Mq.S_of x]
  exact .str _ (List.all_eq_true.mp h)
theorem dd_cd {sg : List Nat} {m : Nat} {n : Dd} (hs : ∀ c ∈ sg, c ∈ alpha) (h : ddOk sg m n) : Cd (ddD n) := by
  cases n with
  | stop =>
    exact .tup _ fun d hd => by
      rw [List.mem_singleton.mp hd]
      exact cd_lit (by decide +kernel)
  | lay c t =>
    exact .tup _ fun d hd => by
      simp only [List.mem_cons, List.not_mem_nil, or_false] at hd
      rcases hd with rfl | rfl | rfl
      · exact cd_lit (by decide +kernel)
      · exact .str _ fun x hx => by rw [List.mem_singleton.mp hx]; exact letter_safe (hs c h.1)
      · exact .nat t
  | look ts =>
    exact .tup _ fun d hd => by
      simp only [List.mem_cons, List.not_mem_nil, or_false] at hd
      rcases hd with rfl | rfl
      · exact cd_lit (by decide +kernel)
      · exact .tup _ fun x hx => by
          obtain ⟨t, _, rfl⟩ := List.mem_map.mp hx
          exact .nat t
theorem dds_cd {sg : List Nat} {m : Nat} {ns : List Dd} (hs : ∀ c ∈ sg, c ∈ alpha) (h : ∀ n ∈ ns, ddOk sg m n) : Cd (.tuple (ns.map ddD)) := .tup _ fun d hd => by
  obtain ⟨n, hn, rfl⟩ := List.mem_map.mp hd
  exact dd_cd hs (h n hn)
theorem ints_tn {K : PySem.W.Frag} {H : Hp} : ∀ {ts : List Nat}, (∀ t ∈ ts, t ≤ 1000) → TnAll K H (intsV ts) (ts.map fun t => .int (t : Nat))
  | [], _ => .nil
  | t :: ts, h => .cons (.int t (h t List.mem_cons_self)) (ints_tn fun x hx => h x (List.mem_cons_of_mem _ hx))
theorem dd_tn {K : PySem.W.Frag} {H : Hp} {v : V} {n : Dd} {sg : List Nat} {m : Nat} (h : DdAt K H v n) (k : ddOk sg m n) (hm : m ≤ 1000) : Tn K H v (ddD n) := by
  cases n with
  | stop => obtain ⟨a, rfl, ha⟩ := h; exact .tup ha (.cons (.str _) .nil)
  | lay c t => obtain ⟨a, rfl, ha⟩ := h; exact .tup ha (.cons (.str _) (.cons (.str _) (.cons (.int t (by have := k.2; omega)) .nil)))
  | look ts => obtain ⟨a, b, rfl, ha, hb⟩ := h; exact .tup ha (.cons (.str _) (.cons (.tup hb (ints_tn fun t ht => by have := k.2 t ht; omega)) .nil))
theorem dds_tn {K : PySem.W.Frag} {H : Hp} {sg : List Nat} {m : Nat} (hm : m ≤ 1000) : ∀ {vs : List V} {ns : List Dd}, DdAll K H vs ns → (∀ n ∈ ns, ddOk sg m n) → TnAll K H vs (ns.map ddD)
  | _, _, .nil, _ => .nil
  | _, _, .cons a b, h => .cons (dd_tn a (h _ List.mem_cons_self) hm) (dds_tn hm b fun n hn => h n (List.mem_cons_of_mem _ hn))
theorem ints_ok : ∀ {ts : List Nat}, (∀ t ∈ ts, t ≤ 4100) → LsOk (21 * ts.length) 0 (ts.map fun t => .int ((t : Nat) : Int))
  | [], _ => LsOk.nil
  | t :: ts, h => by
    have ih := ints_ok fun x hx => h x (List.mem_cons_of_mem _ hx)
    refine (LsOk.cons (okD_int (h t List.mem_cons_self)) ih).mono ?_ (Nat.le_refl _)
    rw [List.length_cons]
    omega
theorem dd_okD {sg : List Nat} {m : Nat} {n : Dd} (hs : ∀ c ∈ sg, c < 128) (hm : m ≤ 1000) (h : ddOk sg m n) : OkD (60 + 21 * (sg.length + 1)) 2 (ddD n) := by
  have sW : ∀ z : Str, okB 5 0 (.str z) = true → OkD 5 0 (.str z) := fun z e => okD_of e
  cases n with
  | stop => exact ((LsOk.cons (sW "stop" (by decide +kernel)) (LsOk.nil (w := 0))).tup).mono (by omega) (by decide)
  | lay c t => exact ((LsOk.cons (sW "lay" (by decide +kernel)) (LsOk.cons (okD_str (w := 1) (fun x hx => by rw [List.mem_singleton.mp hx]; exact hs c h.1) (Nat.le_refl _)) (LsOk.cons (okD_int (by have := h.2; omega)) (LsOk.nil (w := 0))))).tup).mono (by omega) (by decide)
  | look ts =>
    have hi := (ints_ok (ts := ts) fun t ht => by have := h.2 t ht; omega).tup
    have hl := h.1
    exact ((LsOk.cons ((sW "look" (by decide +kernel)).mono (Nat.le_refl _) (Nat.zero_le 1)) (LsOk.cons hi (LsOk.nil (w := 0)))).tup).mono (by rw [hl]; omega) (by decide)
theorem dds_ok {sg : List Nat} {m : Nat} (hs : ∀ c ∈ sg, c < 128) (hm : m ≤ 1000) : ∀ {ns : List Dd}, (∀ n ∈ ns, ddOk sg m n) → LsOk ((61 + 21 * (sg.length + 1)) * ns.length) 2 (ns.map ddD)
  | [], _ => LsOk.nil
  | n :: ns, h => by
    have ih := dds_ok hs hm fun x hx => h x (List.mem_cons_of_mem _ hx)
    refine (LsOk.cons (dd_okD hs hm (h n List.mem_cons_self)) ih).mono ?_ (Nat.le_refl _)
    rw [List.length_cons]
    generalize 21 * (sg.length + 1) = z
    rw [Nat.mul_succ]
    omega
theorem dd_right {sg : List Nat} {m : Nat} {n : Dd} (h : ddOk sg m n) : deedD sg m (ddD n) = true := by
  cases n with
  | stop => exact deed_stop sg m
  | lay c t =>
    show deedD sg m (.tuple [.str "lay", .str (S [c]), .int (t : Nat)]) = true
    rw [deed_lay h.2]
    exact decide_eq_true h.1
  | look ts =>
    show deedD sg m (.tuple [.str "look", .tuple (ts.map fun t => .int (t : Nat))]) = true
    rw [look_is, deed_two, places_ints h.2, decide_eq_true h.1, decide_eq_true rfl]
    rfl
theorem due_right {sg : List Nat} {ns : List Dd} (hs : lettersB sg = true) (h : DeedsOk sg ns) : dueM (.str (S sg)) (.tuple (ns.map ddD)) = none := by
  rw [due_str, hs, if_pos rfl]
  unfold bodyN
  dsimp only
  have e0 : (ns.map ddD).isEmpty = false := by
    cases ns with
    | nil => exact (h.1 rfl).elim
    | cons n ns => rfl
  rw [e0, decide_eq_false (by rw [List.length_map]; have := h.2.1; omega), Bool.or_self, if_neg (by decide), first_right]
  · rfl
  · intro d hd
    obtain ⟨n, hn, rfl⟩ := List.mem_map.mp hd
    rw [List.length_map]
    exact dd_right (h.2.2 n hn)
/-! the parts of a program -/
structure Pts (K : PySem.W.Frag) (H : Hp) (sg : List Nat) (ns : List Dd) (na : Addr) : Prop where
  at_ : DeedsAt K H na ns
  ok : DeedsOk sg ns
  hs : lettersB sg = true
theorem Pts.same {K : PySem.W.Frag} {H H' : Hp} {sg : List Nat} {ns : List Dd} {na : Addr} (h : Pts K H sg ns na) (e : Same H H') : Pts K H' sg ns na := ⟨h.at_.same e, h.ok, h.hs⟩
theorem Pts.kp {K : PySem.W.Frag} {H H' : Hp} {sg : List Nat} {ns : List Dd} {na : Addr} (h : Pts K H sg ns na) (e : KpT K H H') : Pts K H' sg ns na := ⟨h.at_.kp e, h.ok, h.hs⟩
theorem Pts.tn {K : PySem.W.Frag} {H : Hp} {sg : List Nat} {ns : List Dd} {na : Addr} (h : Pts K H sg ns na) : Tn K H (.ref na) (.tuple (ns.map ddD)) := by
  obtain ⟨vs, hz, ha⟩ := h.at_
  exact .tup hz (dds_tn (by have := h.ok.2.1; omega) ha h.ok.2.2)
theorem Pts.okF {K : PySem.W.Frag} {H : Hp} {sg : List Nat} {ns : List Dd} {na : Addr} (h : Pts K H sg ns na) : OkD ((61 + 21 * (sg.length + 1)) * ns.length) 3 (.tuple (ns.map ddD)) :=
  (dds_ok (sg_ok h.hs).low (by have := h.ok.2.1; omega) h.ok.2.2).tup
theorem Pts.sz {K : PySem.W.Frag} {H : Hp} {sg : List Nat} {ns : List Dd} {na : Addr} (h : Pts K H sg ns na) : ∀ n ∈ ns, DdSz n := fun n hn => dd_sz (h.ok.2.2 n hn) (sg_ok h.hs).few (by have := h.ok.2.1; omega)
theorem Pts.cd {K : PySem.W.Frag} {H : Hp} {sg : List Nat} {ns : List Dd} {na : Addr} (h : Pts K H sg ns na) : Cd (.tuple (ns.map ddD)) := dds_cd (letters_alpha h.hs).2 h.ok.2.2
theorem Pts.pg {K : PySem.W.Frag} {C : Addr} {H : Hp} {r na : Addr} {sg : List Nat} {ns : List Dd} (p : Pts K H sg ns na) (h : PgAt H C r sg na) : Pg K C H r sg na (.tuple (ns.map ddD)) := ⟨h, p.tn, tn_shaped p.tn p.okF (by decide)⟩
theorem Pts.due {K : PySem.W.Frag} {H : Hp} {sg : List Nat} {ns : List Dd} {na : Addr} (h : Pts K H sg ns na) : dueM (.str (S sg)) (.tuple (ns.map ddD)) = none := due_right h.hs h.ok
theorem pts_read {K : PySem.W.Frag} {H : Hp} {t sg : List Nat} {ns : List Dd} {na : Addr} (h : PgBk t sg ns) (ha : DeedsAt K H na ns) : Pts K H sg ns na := ⟨ha, ⟨h.pos, h.few, h.ok⟩, h.let_⟩
/-! ### whether a program has these parts -/
def spLike (K : PySem.W.Frag) (C : Addr) : Sp := fun vs H Q _ => ∃ (r na : Addr) (sg : List Nat) (xs : List V) (d : PyData) (w n : Nat), vs = [.ref r, .str (S sg), .ref na] ∧ PgAt H C r sg na ∧ LowL sg ∧ sg.length ≤ 4000 ∧ SqT K H na xs ∧ xs.length ≤ 4000 ∧ Dg K H (.ref na) d ∧ OkD w n d ∧ w ≤ 90000 ∧ n ≤ 20 ∧
  ∀ H', Same H H' → Q (.bl true) H'
section
variable {P : Program} {w : World} {K : PySem.W.Frag} {mg : Str → Option Value} {base : Heap} {C CT : Addr}
theorem ok_like {f fN : Addr} {fd fdN : FuncData} (F : Fun K "_law_is_like" "_law_is_like" s__law_is_like f fd) (B : Blt mg) (R : PgC K C)
    (mN : Meth K C "__len__" fN) (bN : Binds K fdN ["self"] []) (GN : FnOk P w K mg base CX0 1 fN fdN ["self"] (spLen K C)) :
    FnG P w K mg base CX0 3 f fd ["_law_it", "_law_letters_a", "_law_deeds_a"] (spLike K C) := by
  refine Mq.Fun.okG F sc__law_is_like (fun vs H Q E h => ?_) (fun cdv A outer s H vs Q E gA hr h => ?_)
  · obtain ⟨_, _, _, _, _, _, _, rfl, _⟩ := h
    rfl
  · obtain ⟨r, na, sg, xs, d, wd, nd, rfl, hp, hlow, hsg, hz, hxl, hd, ok, hw, hn, q⟩ := h
    have hr2 : Room 2 (A.deeper (envOfC "_law_is_like" (defScope s__law_is_like) s.heap.objs.size f cdv)) := hr.mono (by decide)
    refine ⟨_, (pss_one (ps_ret (pe_cmpR op_eq (pe_callB (call_rep hr gA) (by rfl) B.repr (by decide +kernel) (pa_cons (Mq.pe_ls (pa_cons (pe_fld (pv 0) rfl) (pa_cons (pe_fld (pv 0) rfl) (pa_cons (pe_callB (call_lenO (E := fun _ _ _ => False) mN GN hr2 bN pass0) (by rfl) B.len (by decide +kernel) (pa_cons (pv 0) pa_nil)) pa_nil)))) pa_nil)) (pe_callB (call_rep hr gA) (by rfl) B.repr (by decide +kernel) (pa_cons (Mq.pe_ls (pa_cons (pv 1) (pa_cons (pv 2) (pa_cons (pe_callB call_len (by rfl) B.len (by decide +kernel) (pa_cons (pv 2) pa_nil)) pa_nil)))) pa_nil)) (nomark _)))), ?_⟩
    have hp0 := hp
    obtain ⟨dx, h1⟩ := hp0
    have okL : ShowOk (.list [.str (S sg), d, .int (xs.length : Nat)]) := by
      have l := LsOk.cons ((okD_str hlow hsg).mono (Nat.le_refl _) (Nat.zero_le nd)) (LsOk.cons ok (LsOk.cons ((okD_int (k := xs.length) (by omega)).mono (Nat.le_refl _) (Nat.zero_le nd)) (LsOk.nil (w := 0))))
      exact l.lst.ok (by omega) (by omega)
    refine ⟨_, rfl, r, C, dx, _, _, rfl, h1, R.cls, R.nL, rfl, _, rfl, r, C, dx, _, _, rfl, h1, R.cls, R.nN, rfl, _, rfl, r, dx, _, rfl, h1, ⟨r, na, sg, xs, rfl, hp, hz, _, rfl, (by show xs.length ≤ _; exact Nat.le_trans hxl (by decide)), ?_⟩⟩
    refine ⟨sz_le (n := 3) (by decide), fun pa hpa hna => ?_⟩
    have s1 := same_new (o := HO.lst [V.str (S sg), V.ref na, V.int (xs.length : Nat)]) hpa
    refine ⟨_, .list [.str (S sg), d, .int (xs.length : Nat)], rfl, .lst hna (SqL.of upd_same) (.cons (.str _) (.cons (hd.same s1) (.cons (.int _) .nil))), okL.sh, okL.de, okL.le, ?_⟩
    generalize upd H pa (.lst [V.str (S sg), V.ref na, V.int (xs.length : Nat)]) = H1 at s1 ⊢
    refine ⟨_, rfl, _, rfl, _, rfl, _, _, rfl, len_tup (Same.tup s1 hz), sz_le (n := 3) (by decide), fun pb hpb hnb => ?_⟩
    have s2 := same_new (o := HO.lst [V.str (S sg), V.ref na, V.int (xs.length : Nat)]) hpb
    refine ⟨_, .list [.str (S sg), d, .int (xs.length : Nat)], rfl, .lst hnb (SqL.of upd_same) (.cons (.str _) (.cons ((hd.same s1).same s2) (.cons (.int _) .nil))), okL.sh, okL.de, okL.le, ?_⟩
    refine ⟨rfl, ?_⟩
    rw [decide_eq_true rfl]
    exact q _ (s1.trans s2)
end
end Lw

namespace Lw
open PySem PySem.Spec PyProof.Rows L2 Mq
open SX (S)
open TL (numL)
/-! ### a text is read, or refused, as it must be -/
theorem wt_ok {t : List Nat} (h : Tx 3000 300 450 t) : ∀ sg ns, pageM t = .inl (sg, ns) → PyData.weightAll (ns.map ddD) ≤ 80000 := fun sg ns e => by
  have := (page_ok e).wt
  have := h.len
  omega
def badD (k : Nat) : PyData := .list [.str "bad", .int (k : Nat), .bool true]
theorem lay_bad (k : Nat) : (badD k).canLay0 = true ∧ (badD k).depth = 1 := by
  refine ⟨?_, rfl⟩
  show ((PyData.str "bad").canLay0 && (true && (true && true))) = true
  rw [show (PyData.str "bad").canLay0 = true by decide +kernel]
  rfl
theorem shaped_bads (k : Nat) : SeqAt.shaped (.list [badD k, badD k]) = true := by
  show (((badD k).canLay0 && ((badD k).canLay0 && true)) && decide (max (badD k).depth (max (badD k).depth 0) + 1 ≤ 64)) = true
  rw [(lay_bad k).1, (lay_bad k).2]
  rfl
theorem shaped_bad (k : Nat) : SeqAt.shaped (badD k) = true := by
  show ((badD k).canLay0 && decide ((badD k).depth ≤ 64)) = true
  rw [(lay_bad k).1, (lay_bad k).2]
  rfl
theorem eqv_bads (k : Nat) : PyData.eqv (.list [badD k, badD k]) (.list [badD k, badD k]) = true := by simp [PyData.eqv, PyData.eqvAll, badD]
theorem eqv_bad (k : Nat) : PyData.eqv (badD k) (badD k) = true := by simp [PyData.eqv, PyData.eqvAll, badD]
theorem bad_dp {K : PySem.W.Frag} {H : Hp} {p : Addr} {k : Nat} (h : H p = some (.lst [.str "bad", .int (k : Nat), .bl true])) : Dp K H (.ref p) (badD k) := .lst (SqL.of h) (.cons (.str _) (.cons (.int _) (.cons (.bl _) .nil)))
theorem heard_of {K : PySem.W.Frag} {C : Addr} {t : List Nat} {b : Bool} {H : Hp} {Q : VK} (h : Tx 3000 300 450 t) (q : match pageM t with
    | .inr k => hearBad (.int (k : Nat)) H Q
    | .inl (sg, ns) => ∀ H' r na, Same H H' → PgAt H' C r sg na → DeedsAt K H' na ns → Q (.ref r) H') : spHeard K C [.str (S t), .bl b] H Q E0 :=
  ⟨_, b, rfl, Or.inr ⟨t, rfl, by have := h.len; omega, h.low, fun l hl => by have := h.lns l hl; omega, by have := h.nl; omega, wt_ok h, q⟩⟩
def spReadRight (K : PySem.W.Frag) : Sp := fun vs H Q _ => ∃ (D C : Addr) (T : Nat) (t : List Nat), vs = [.ref D, .str (S t)] ∧ DeckAt D C T H ∧ T ≤ 800000 ∧ Tx 2400 60 105 t ∧
  ∀ H', DeckAt D C (T + 20) H' → Off D C H H' → Q (.bl true) H'
section
variable {P : Program} {w : World} {K : PySem.W.Frag} {mg : Str → Option Value} {base : Heap} {C0 CT CM : Addr}
theorem ok_read_right {f fL fH fT fP fE fS : Addr} {fd fdL fdH fdT fdP fdE fdS : FuncData} (F : Fun K "_law_read_right" "_law_read_right" s__law_read_right f fd) (B : Blt mg)
    (FL : Fun K "_law_bad_line" "_law_bad_line" s__law_bad_line fL fdL) (gL : mg "_law_bad_line" = some (.ref fL)) (bL : Binds K fdL ["_law_page"] []) (GL : FnOk P w K mg base CX0 3 fL fdL ["_law_page"] (spBadLine K))
    (FH : Fun K "_law_heard" "_law_heard" s__law_heard fH fdH) (gH : mg "_law_heard" = some (.ref fH)) (bH : Binds K fdH ["_law_page", "_law_is_named"] []) (GH : FnG P w K mg base CX0 10 fH fdH ["_law_page", "_law_is_named"] (spHeard K C0))
    (FT : Fun K "_law_bent_text" "_law_bent_text" s__law_bent_text fT fdT) (gT : mg "_law_bent_text" = some (.ref fT)) (bT : Binds K fdT ["_law_deck_here", "_law_page"] []) (GT : FnOk P w K mg base CX0 3 fT fdT ["_law_deck_here", "_law_page"] spBentText)
    (FP : Fun K "_law_pick" "_law_pick" s__law_pick fP fdP) (gP : mg "_law_pick" = some (.ref fP)) (bP : Binds K fdP ["_law_deck_here", "_law_some"] []) (GP : FnOk P w K mg base CX0 2 fP fdP ["_law_deck_here", "_law_some"] spPick)
    (mE : Meth K C0 "__eq__" fE) (bE : Binds K fdE ["self", "other"] []) (GE : FnOk P w K mg base CX0 3 fE fdE ["self", "other"] (spEqA K C0))
    (mS : Meth K C0 "__str__" fS) (bS : Binds K fdS ["self"] []) (GS : FnOk P w K mg base CX0 2 fS fdS ["self"] (spStr K C0)) :
    FnG P w K mg base CX0 11 f fd ["_law_deck_here", "_law_page"] (spReadRight K) := by
  refine Mq.Fun.okG F sc__law_read_right (fun vs H Q E h => ?_) (fun cdv A outer s H vs Q E gA hr h => ?_)
  · obtain ⟨_, _, _, _, rfl, _⟩ := h
    rfl
  · obtain ⟨D, C, T, t, rfl, hdk, hT, hpg, q⟩ := h
    have hr4 : Room 4 (A.deeper (envOfC "_law_read_right" (defScope s__law_read_right) s.heap.objs.size f cdv)) := hr.mono (by decide)
    have hr3 : Room 3 (A.deeper (envOfC "_law_read_right" (defScope s__law_read_right) s.heap.objs.size f cdv)) := hr.mono (by decide)
    have hu : (A.deeper (envOfC "_law_read_right" (defScope s__law_read_right) s.heap.objs.size f cdv)).units + 64 < cLine := by
      have := hr.un
      omega
    refine ⟨_, (pss_cons (ps_for (passes_of rfl) rfl (pi_tup (pe_tup (pa_cons (pv 1) (pa_cons (pe_call GT (hr.mono (by decide)) (by rfl) gT FT.kp bT .nil pass0 (pa_cons (pv 0) (pa_cons (pv 1) pa_nil))) (pa_cons (pe_call GT (hr.mono (by decide)) (by rfl) gT FT.kp bT .nil pass0 (pa_cons (pv 0) (pa_cons (pe_call GT (hr.mono (by decide)) (by rfl) gT FT.kp bT .nil pass0 (pa_cons (pv 0) (pa_cons (pv 1) pa_nil))) pa_nil))) pa_nil))))) (pg_name (i := 2) sc__law_read_right.nd rfl (Or.inl rfl))
      (pss_cons (ps_set (i := 3) sc__law_read_right.nd rfl (Or.inl rfl) (pe_call GL (hr.mono (by decide)) (by rfl) gL FL.kp bL .nil pass0 (pa_cons (pv 2) pa_nil)))
      (pss_cons (ps_set (i := 4) sc__law_read_right.nd rfl (Or.inl rfl) (Mq.pe_ls (pa_cons (pe_callG GH gA (hr.mono (by decide)) (by rfl) gH FH.kp bH pass0 (pa_cons (pv 2) (pa_cons pe_bl pa_nil))) (pa_cons (pe_callG GH gA (hr.mono (by decide)) (by rfl) gH FH.kp bH pass0 (pa_cons (pv 2) (pa_cons pe_bl pa_nil))) pa_nil))))
      (pss_cons (ps_if (PW.pt (pw_and (pt_cmpR op_notN (pv 3) pe_non (nomark _)) (pw_and1 (pt_cmpR (op_neD hu) (pv 4) (pe_op op_rep (Mq.pe_ls (pa_cons (Mq.pe_ls (pa_cons pe_str (pa_cons (pv 3) (pa_cons pe_bl pa_nil)))) pa_nil)) pe_int) (nomark _))))) (pss_one ps_dead) pss_nil)
      (pss_one (ps_if (PW.pt (pw_and (pt_cmpR op_isN (pv 3) pe_non (nomark _)) (pw_and1 (PW.pt (pw_or (pt_cmpR op_ne (pe_callTy (call_strO (E := fun _ _ _ => False) mS GS hr4 bS pass0) (by rfl) B.str (by decide +kernel) (pa_cons (pe_ix ix_list (pv 4) pe_int (fun _ _ => rfl)) pa_nil)) (pv 2) (nomark _)) (pw_or1 (pt_not (pt_cmpR (op_eqO (E := fun _ _ _ => False) mE GE hr3 bE pass0) (pe_ix ix_list (pv 4) pe_int (fun _ _ => rfl)) (pe_ix ix_list (pv 4) pe_int (fun _ _ => rfl)) (nomark _))))))))) (pss_one ps_dead) pss_nil))))))
    (pss_cons (ps_set (i := 5) sc__law_read_right.nd rfl (Or.inl rfl) (pe_call GP (hr.mono (by decide)) (by rfl) gP FP.kp bP .nil pass0 (pa_cons (pv 0) (pa_cons (Mq.pe_ls (pa_cons pe_non (pa_cons pe_int (pa_cons pe_bl (pa_cons (pe_tup pa_nil) (pa_cons (Mq.pe_ls (pa_cons pe_str pa_nil)) (pa_cons (pe_tup (pa_cons pe_str (pa_cons pe_str pa_nil))) (pa_cons pe_dnewK pa_nil)))))))) pa_nil))))
    (pss_one (ps_ret (pe_cmpR (op_eqD hu) (pe_callG GH gA (hr.mono (by decide)) (by rfl) gH FH.kp bH pass0 (pa_cons (pv 5) (pa_cons pe_bl pa_nil))) (Mq.pe_ls (pa_cons pe_str (pa_cons pe_int (pa_cons pe_bl pa_nil)))) (nomark _)))))), ?_⟩
    refine ⟨_, rfl, _, rfl, _, rfl, D, C, T, t, _, _, _, rfl, hdk, by omega, hpg, by decide, by decide, by decide, fun H1 t1 x1 dk1 off1 => ?_⟩
    refine ⟨_, rfl, _, rfl, _, rfl, D, C, _, t, _, _, _, rfl, dk1, by omega, hpg, by decide, by decide, by decide, fun H2 t2 x2 dk2 off2 => ?_⟩
    refine ⟨D, C, _, t2, _, _, _, rfl, dk2, by omega, x2, by decide, by decide, by decide, fun H3 t3 x3 dk3 off3 => ?_⟩
    refine ⟨sz_le (n := 3) (by decide), fun p hp => ?_⟩
    have s4 := same_new (o := HO.tup [V.str (S t), .str (S t1), .str (S t3)]) hp
    have z4 : SqT K (upd H3 p (.tup [V.str (S t), .str (S t1), .str (S t3)])) p [V.str (S t), .str (S t1), .str (S t3)] := Or.inl (Or.inl upd_same)
    have dk4 := dk3.same s4
    have off4 := ((off1.trans off2).trans off3).trans (Off.same s4)
    generalize upd H3 p (.tup [V.str (S t), .str (S t1), .str (S t3)]) = H4 at z4 dk4 off4 ⊢
    have all : ∀ v ∈ [V.str (S t), .str (S t1), .str (S t3)], ∃ l, v = .str (S l) ∧ Tx 3000 300 450 l := by
      intro v hv
      simp only [List.mem_cons, List.not_mem_nil, or_false] at hv
      rcases hv with rfl | rfl | rfl
      · exact ⟨t, rfl, hpg.mono (by decide) (by decide) (by decide)⟩
      · exact ⟨t1, rfl, x1.mono (by decide) (by decide) (by decide)⟩
      · exact ⟨t3, rfl, x3.mono (by decide) (by decide) (by decide)⟩
    have hl3 : [V.str (S t), .str (S t1), .str (S t3)].length = 3 := rfl
    generalize [V.str (S t), .str (S t1), .str (S t3)] = xs at z4 all hl3 ⊢
    refine ⟨p, rfl, ⟨_, z4⟩, ?_⟩
    clear x1 x2 x3 off1 off2 off3 dk1 dk2 dk3 s4 hp
    refine for_it (walk_tup (K := K) (a := p) (xs := xs)) (fun i σ H' => Same H4 H' ∧ ∃ o2 o3 o4 o5, σ = [some (.ref D), some (.str (S t)), o2, o3, o4, o5]) ⟨Same.refl _, _, _, _, _, rfl⟩ (fun i σ H' _ pp => Same.tup pp.1 z4) ?_ ?_
    · rintro i x σ H2x H2 hi ⟨s2, o2, o3, o4, o5, rfl⟩ ⟨rfl, hx⟩
      obtain ⟨l, rfl, hl⟩ := all x (List.mem_of_getElem? hx)
      refine ⟨_, rfl, _, rfl, Or.inr ⟨l, rfl, by have := hl.len; omega, hl.low, fun y hy => by have := hl.lns y hy; omega, by have := hl.nl; omega, fun H3 s3 => ?_⟩⟩
      unfold badM
      cases hp : pageM l with
      | inr k =>
        refine ⟨_, rfl, heard_of hl ?_⟩
        rw [hp]
        intro H5 p0 s5 n0 z0
        refine ⟨_, rfl, heard_of hl ?_⟩
        rw [hp]
        intro H6 p1 s6 n1 z1
        refine ⟨sz_le (n := 2) (by decide), fun pa hpa hna => ?_⟩
        have t7 := same_new (o := HO.lst [V.ref p0, V.ref p1]) hpa
        have za : upd H6 pa (.lst [V.ref p0, V.ref p1]) pa = some (.lst [V.ref p0, V.ref p1]) := upd_same
        have z0 := t7 _ _ (s6 _ _ z0)
        have z1 := t7 _ _ z1
        have s7 := (((s2.trans s3).trans s5).trans s6).trans t7
        generalize upd H6 pa (.lst [V.ref p0, V.ref p1]) = H7 at za z0 z1 s7 ⊢
        refine ⟨_, rfl, rfl, _, rfl, ifT rfl ?_⟩
        refine ⟨_, rfl, _, rfl, sz_le (n := 3) (by decide), fun pb hpb hnb => ⟨sz_le (n := 1) (by decide), fun pc hpc hnc => ?_⟩⟩
        have t8 := same_new (o := HO.lst [V.str "bad", V.int (k : Nat), V.bl true]) hpb
        have zb : upd H7 pb (.lst [V.str "bad", V.int (k : Nat), V.bl true]) pb = some (.lst [V.str "bad", V.int (k : Nat), V.bl true]) := upd_same
        have t9 := same_new (o := HO.lst [V.ref pb]) hpc
        refine ⟨pc, 2, [.ref pb], rfl, rfl, upd_same, by decide, by decide, sz_le (n := 2) (by decide), fun pd hpd => ?_⟩
        have t10 := same_new (o := HO.lst (List.replicate (2 : Int).toNat [V.ref pb]).flatten) hpd
        have t810 := (t8.trans t9).trans t10
        refine ⟨.list [badD k, badD k], .list [badD k, badD k], .lst (SqL.of (t810 _ _ za)) (.cons (bad_dp (t810 _ _ z0)) (.cons (bad_dp (t810 _ _ z1)) .nil)), .lst (SqL.of upd_same) (.cons (bad_dp ((t9.trans t10) _ _ zb)) (.cons (bad_dp ((t9.trans t10) _ _ zb)) .nil)), shaped_bads k, shaped_bads k, _, rfl, ?_⟩
        rw [eqv_bads]
        exact ifF rfl ⟨_, rfl, rfl, _, rfl, ifF rfl ⟨s7.trans t810, _, _, _, _, rfl⟩⟩
      | inl a =>
        obtain ⟨sg, ns⟩ := a
        have bk := page_back hp
        refine ⟨_, rfl, heard_of hl ?_⟩
        rw [hp]
        intro H5 r0 na s5 b0 d0
        refine ⟨_, rfl, heard_of hl ?_⟩
        rw [hp]
        intro H6 r1 nb s6 b1 d1
        refine ⟨sz_le (n := 2) (by decide), fun pa hpa hna => ?_⟩
        have t7 := same_new (o := HO.lst [V.ref r0, V.ref r1]) hpa
        have za : upd H6 pa (.lst [V.ref r0, V.ref r1]) pa = some (.lst [V.ref r0, V.ref r1]) := upd_same
        have b0 := (b0.same s6).same t7
        have b1 := b1.same t7
        have d0 := pts_read bk ((d0.same s6).same t7)
        have d1 := pts_read bk (d1.same t7)
        have s7 := (((s2.trans s3).trans s5).trans s6).trans t7
        generalize upd H6 pa (.lst [V.ref r0, V.ref r1]) = H7 at za b0 b1 d0 d1 s7 ⊢
        refine ⟨_, rfl, rfl, _, rfl, ifF rfl ⟨_, rfl, rfl, _, rfl, ifT rfl ?_⟩⟩
        have b0' := b0
        obtain ⟨dx0, i0⟩ := b0'
        have b1' := b1
        obtain ⟨dx1, i1⟩ := b1'
        have hfew := bk.few
        have hsum := bk.sum
        have hll := hl.len
        have hsf := (sg_ok bk.let_).few
        refine ⟨_, rfl, pa, _, 0, _, rfl, rfl, SqL.of za, atI_nat (j := 0) rfl, r0, dx0, _, rfl, i0, r0, na, sg, ns, rfl, b0, d0.at_, d0.sz, by omega, by omega, by omega, fun H8 s8 => ⟨_, rfl, _, rfl, rfl, _, rfl, ?_⟩⟩
        rw [bk.back]
        refine ifF (by rw [decide_eq_true rfl]; rfl) ?_
        have i0 := s8 _ _ i0
        have i1 := s8 _ _ i1
        have g0 := (d0.same s8).pg (b0.same s8)
        have g1 := (d1.same s8).pg (b1.same s8)
        have za8 := SqL.of (K := K) (s8 _ _ za)
        refine ⟨_, rfl, pa, _, 0, _, rfl, rfl, za8, atI_nat (j := 0) rfl, _, rfl, pa, _, 1, _, rfl, rfl, za8, atI_nat (j := 1) rfl, r0, r1, dx0, dx1, _, _, rfl, rfl, i0, i1, r0, .ref r1, sg, na, _, rfl, g0, Or.inl ⟨r1, sg, nb, _, rfl, g1, fun H9 s9 => ⟨_, rfl, _, rfl, ?_⟩⟩⟩
        rw [eqv_refl d0.cd, decide_eq_true rfl]
        exact ifF rfl ⟨(s7.trans s8).trans s9, _, _, _, _, rfl⟩
    · rintro σ H2 ⟨s2, o2, o3, o4, o5, rfl⟩
      have dk2 := dk4.same s2
      have off2 := off4.trans (Off.same s2)
      refine ⟨_, rfl, sz_le (n := 0) (by decide), fun p1 hp1 => ?_⟩
      have t1 := same_new (o := HO.tup []) hp1
      have z1 : SqT K (upd H2 p1 (.tup [])) p1 [] := Or.inl (Or.inl upd_same)
      have u1 := t1
      generalize upd H2 p1 (.tup []) = G1 at t1 z1 u1 ⊢
      refine ⟨sz_le (n := 1) (by decide), fun p2 hp2 _ => ?_⟩
      have t2 := same_new (o := HO.lst [V.str "program a"]) hp2
      have z2 : upd G1 p2 (.lst [V.str "program a"]) p2 = some (.lst [V.str "program a"]) := upd_same
      have z1 := Same.tup t2 z1
      have u2 := u1.trans t2
      have n2 := new_ne (dk2.same u1) hp2
      generalize upd G1 p2 (.lst [V.str "program a"]) = G2 at z1 z2 u2 ⊢
      refine ⟨sz_le (n := 2) (by decide), fun p3 hp3 => ?_⟩
      have t3 := same_new (o := HO.tup [V.str "program a", V.str "stop"]) hp3
      have z3 : SqT K (upd G2 p3 (.tup [V.str "program a", V.str "stop"])) p3 [V.str "program a", V.str "stop"] := Or.inl (Or.inl upd_same)
      have z1 := Same.tup t3 z1
      have z2 := t3 _ _ z2
      have u3 := u2.trans t3
      generalize upd G2 p3 (.tup [V.str "program a", V.str "stop"]) = G3 at z1 z2 z3 u3 ⊢
      refine fun p4 hp4 => ?_
      have t4 := same_new (o := HO.dK []) hp4
      have z4' : upd G3 p4 (.dK []) p4 = some (.dK []) := upd_same
      have z1 := Same.tup t4 z1
      have z2 := t4 _ _ z2
      have z3 := Same.tup t4 z3
      have u4 := u3.trans t4
      have n4 := new_ne (dk2.same u3) hp4
      generalize upd G3 p4 (.dK []) = G4 at z1 z2 z3 z4' u4 ⊢
      refine ⟨sz_le (n := 7) (by decide), fun p5 hp5 _ => ?_⟩
      have t5 := same_new (o := HO.lst [V.non, .int 0, .bl true, .ref p1, .ref p2, .ref p3, .ref p4]) hp5
      have u5 := u4.trans t5
      have dk5 := dk2.same u5
      obtain ⟨pD, pC⟩ := new_ne (dk2.same u4) hp5
      refine ⟨D, C, _, .ref p5, rfl, dk5, by omega, Or.inr ⟨p5, _, rfl, upd_same, pC, Nat.zero_lt_succ _, (by show 7 ≤ 1000; decide), fun H7 v hv dk7 off7 => ?_⟩⟩
      have hno : NoTx K H7 v := by
        simp only [List.mem_cons, List.not_mem_nil, or_false] at hv
        rcases hv with rfl | rfl | rfl | rfl | rfl | rfl | rfl
        · exact ⟨_, .base .non, kit_ty (by decide +kernel)⟩
        · exact ⟨_, .base (.int _), kit_ty (by decide +kernel)⟩
        · exact ⟨_, .base (.bl _), kit_ty (by decide +kernel)⟩
        · exact ⟨_, ty_tup (off7.tup dk5 (Same.tup t5 z1)), kit_ty (by decide +kernel)⟩
        · exact ⟨_, ty_list (SqL.of (off7 p2 _ n2.1 n2.2 (t5 _ _ z2))), kit_ty (by decide +kernel)⟩
        · exact ⟨_, ty_tup (off7.tup dk5 (Same.tup t5 z3)), kit_ty (by decide +kernel)⟩
        · exact ⟨_, .base (.dK (off7 p4 _ n4.1 n4.2 (t5 _ _ z4'))), kit_ty (by decide +kernel)⟩
      refine ⟨_, rfl, v, false, rfl, Or.inl ⟨hno, fun H8 pq s8 nq zq => ?_⟩⟩
      refine ⟨sz_le (n := 3) (by decide), fun pb hpb hnb => ?_⟩
      have t9 := same_new (o := HO.lst [V.str "bad", V.int 0, V.bl true]) hpb
      refine ⟨badD 0, badD 0, bad_dp (t9 _ _ zq), bad_dp upd_same, shaped_bad 0, shaped_bad 0, ?_⟩
      rw [eqv_bad]
      exact q _ (((dk7.same s8).same t9).mono (by omega)) (((off2.trans (Off.same u5)).trans off7).trans (Off.same (s8.trans t9)))
end
end Lw

namespace Lw
open PySem PySem.Spec PyProof.Rows L2 Mq
open SX (S)
open TL (numL)
/-! ### what is a deed, as one -/
theorem below_nat {m : Nat} {d : PyData} (h : belowD m d = true) : ∃ t : Nat, t < m ∧ d = .int (t : Nat) := by
  cases d with
  | int i =>
    obtain ⟨h1, h2⟩ := Bool.and_eq_true_iff.mp (show (decide (0 ≤ i) && decide (i < (m : Int))) = true from h)
    have h1 := of_decide_eq_true h1
    have h2 := of_decide_eq_true h2
    exact ⟨i.toNat, by omega, by congr 1; omega⟩
  | _ => cases h
theorem below_all {m : Nat} : ∀ {ds : List PyData}, (∀ d ∈ ds, belowD m d = true) → ∃ ts : List Nat, (∀ t ∈ ts, t < m) ∧ ds = ts.map fun t => .int (t : Nat)
  | [], _ => ⟨[], fun _ h => (by cases h), rfl⟩
  | d :: ds, h => by
    obtain ⟨t, ht, rfl⟩ := below_nat (h d List.mem_cons_self)
    obtain ⟨ts, hts, rfl⟩ := below_all fun x hx => h x (List.mem_cons_of_mem _ hx)
    exact ⟨t :: ts, fun x hx => (List.mem_cons.mp hx).elim (fun e => e ▸ ht) (hts x), rfl⟩
theorem all_below {m : Nat} {ds : List PyData} (h : allBelow m ds = true) : ∀ d ∈ ds, belowD m d = true := by
  intro d hd
  obtain ⟨i, hi, rfl⟩ := List.mem_iff_getElem.mp hd
  unfold allBelow at h
  rw [List.all_map, List.all_eq_true] at h
  have h4 := h i (List.mem_range.mpr hi)
  have h5 : belowD m (ds.getD i .none) = true := h4
  rw [List.getD_eq_getElem?_getD, List.getElem?_eq_getElem hi] at h5
  exact h5
theorem deed_shape {sg : List Nat} {m : Nat} {d : PyData} (h : deedD sg m d = true) : ∃ n, ddOk sg m n ∧ d = ddD n := by
  cases d with
  | tuple ds =>
    have h : deedB sg m ds = true := h
    unfold deedB at h
    match ds, h with
    | .str x :: rest, h =>
      have h : (if decide (x = "lay") = true then decide ((PyData.str x :: rest).length = 3) && (letD sg ((PyData.str x :: rest).getD 1 .none) && belowD m ((PyData.str x :: rest).getD 2 .none))
        else if decide (x = "look") = true then decide ((PyData.str x :: rest).length = 2) && placesD (sg.length + 1) m ((PyData.str x :: rest).getD 1 .none)
        else decide (x = "stop") && decide ((PyData.str x :: rest).length = 1)) = true := h
      split at h
      · rename_i hx
        have hx := of_decide_eq_true hx
        obtain ⟨h1, h⟩ := Bool.and_eq_true_iff.mp h
        obtain ⟨h2, h3⟩ := Bool.and_eq_true_iff.mp h
        have h1 := of_decide_eq_true h1
        match rest, h1, h2, h3 with
        | [a, b], _, h2, h3 =>
          obtain ⟨c, hc, ea⟩ := letD_one (show letD sg a = true from h2)
          obtain ⟨t, ht, eb⟩ := below_nat (show belowD m b = true from h3)
          refine ⟨.lay c t, ⟨hc, ht⟩, ?_⟩
          rw [hx, ea, eb]
          rfl
      · split at h
        · rename_i hx
          have hx := of_decide_eq_true hx
          obtain ⟨h1, h2⟩ := Bool.and_eq_true_iff.mp h
          have h1 := of_decide_eq_true h1
          match rest, h1, h2 with
          | [a], _, h2 =>
            have h2 : placesD (sg.length + 1) m a = true := h2
            cases a with
            | tuple es =>
              obtain ⟨h3, h4⟩ := Bool.and_eq_true_iff.mp (show (decide (es.length = sg.length + 1) && allBelow m es) = true from h2)
              obtain ⟨ts, hts, rfl⟩ := below_all (all_below h4)
              have h3 := of_decide_eq_true h3
              rw [List.length_map] at h3
              refine ⟨.look ts, ⟨h3, hts⟩, ?_⟩
              rw [hx]
              rfl
            | _ => cases h2
        · obtain ⟨h1, h2⟩ := Bool.and_eq_true_iff.mp h
          have h1 := of_decide_eq_true h1
          have h2 := of_decide_eq_true h2
          match rest, h2 with
          | [], _ =>
            refine ⟨.stop, trivial, ?_⟩
            rw [h1]
            rfl
  | _ => cases h
theorem deeds_shape {sg : List Nat} {m : Nat} : ∀ {ds : List PyData} {i : Nat}, firstBad (deedD sg m) ds i = none → ∃ ns : List Dd, (∀ n ∈ ns, ddOk sg m n) ∧ ds = ns.map ddD
  | [], _, _ => ⟨[], fun _ h => (by cases h), rfl⟩
  | d :: ds, i, h => by
    unfold firstBad at h
    split at h
    · rename_i hd
      obtain ⟨n, hn, rfl⟩ := deed_shape hd
      obtain ⟨ns, hns, rfl⟩ := deeds_shape h
      exact ⟨n :: ns, fun x hx => (List.mem_cons.mp hx).elim (fun e => e ▸ hn) (hns x), rfl⟩
    · cases h
theorem dg_ints {K : PySem.W.Frag} {H : Hp} : ∀ {ts : List Nat} {vs : List V}, DgAll K H vs (ts.map fun t => .int ((t : Nat) : Int)) → vs = intsV ts
  | [], _, .nil => rfl
  | t :: ts, _, .cons (.int _) b => by
    rw [dg_ints b]
    rfl
theorem dg_dd {K : PySem.W.Frag} {H : Hp} {v : V} {n : Dd} (h : Dg K H v (ddD n)) : DdAt K H v n := by
  cases n with
  | stop =>
    cases h with
    | tup hz ha =>
      cases ha with
      | cons a b =>
        cases a
        cases b
        exact ⟨_, rfl, hz⟩
  | lay c t =>
    cases h with
    | tup hz ha =>
      cases ha with
      | cons a b =>
        cases a
        cases b with
        | cons a b =>
          cases a
          cases b with
          | cons a b =>
            cases a
            cases b
            exact ⟨_, rfl, hz⟩
  | look ts =>
    cases h with
    | tup hz ha =>
      cases ha with
      | cons a b =>
        cases a
        cases b with
        | cons a b =>
          cases b
          cases a with
          | tup hz2 ha2 =>
            rw [dg_ints ha2] at hz2
            exact ⟨_, _, rfl, hz, hz2⟩
theorem dg_dds {K : PySem.W.Frag} {H : Hp} : ∀ {ns : List Dd} {vs : List V}, DgAll K H vs (ns.map ddD) → DdAll K H vs ns
  | [], _, .nil => .nil
  | n :: ns, _, .cons a b => .cons (dg_dd a) (dg_dds b)
/-! ### drawn programs in closer bounds -/
theorem small_ok {k : Nat} (h : k < 128) : OkD 7 0 (.int (k : Nat)) := by
  have key : ((List.range 128).all fun k => okB 7 0 (.int ((k : Nat) : Int))) = true := by decide +kernel
  exact okD_of (List.all_eq_true.mp key k (List.mem_range.mpr h))
theorem smalls_ok : ∀ {ts : List Nat}, (∀ t ∈ ts, t < 128) → LsOk (8 * ts.length) 0 (ts.map fun t => .int ((t : Nat) : Int))
  | [], _ => LsOk.nil
  | t :: ts, h => by
    refine (LsOk.cons (small_ok (h t List.mem_cons_self)) (smalls_ok fun x hx => h x (List.mem_cons_of_mem _ hx))).mono ?_ (Nat.le_refl _)
    rw [List.length_cons]
    omega
theorem dd_small {sg : List Nat} {m : Nat} {n : Dd} (hs : ∀ c ∈ sg, c < 128) (hl : sg.length ≤ 3) (hm : m ≤ 100) (h : ddOk sg m n) : OkD 38 2 (ddD n) := by
  have s4 : ∀ z : Str, okB 4 0 (.str z) = true → OkD 4 0 (.str z) := fun z e => okD_of e
  cases n with
  | stop => exact ((LsOk.cons (s4 "stop" (by decide +kernel)) (LsOk.nil (w := 0))).tup).mono (by decide) (by decide)
  | lay c t => exact ((LsOk.cons (s4 "lay" (by decide +kernel)) (LsOk.cons (okD_str (w := 1) (fun x hx => by rw [List.mem_singleton.mp hx]; exact hs c h.1) (Nat.le_refl _)) (LsOk.cons (small_ok (by have := h.2; omega)) (LsOk.nil (w := 0))))).tup).mono (by decide) (by decide)
  | look ts =>
    have hi := (smalls_ok (ts := ts) fun t ht => by have := h.2 t ht; omega).tup
    have hl2 := h.1
    exact ((LsOk.cons ((s4 "look" (by decide +kernel)).mono (Nat.le_refl _) (Nat.zero_le 1)) (LsOk.cons hi (LsOk.nil (w := 0)))).tup).mono (by omega) (by decide)
theorem dds_small {sg : List Nat} {m : Nat} (hs : ∀ c ∈ sg, c < 128) (hl : sg.length ≤ 3) (hm : m ≤ 100) : ∀ {ns : List Dd}, (∀ n ∈ ns, ddOk sg m n) → LsOk (39 * ns.length) 2 (ns.map ddD)
  | [], _ => LsOk.nil
  | n :: ns, h => by
    refine (LsOk.cons (dd_small hs hl hm (h n List.mem_cons_self)) (dds_small hs hl hm fun x hx => h x (List.mem_cons_of_mem _ hx))).mono ?_ (Nat.le_refl _)
    rw [List.length_cons]
    omega
theorem ints_intB {m : Nat} (hm : m ≤ 1000) : ∀ {ts : List Nat}, (∀ t ∈ ts, t < m) → intAll 0 (ts.map fun t => .int ((t : Nat) : Int)) = true
  | [], _ => rfl
  | t :: ts, h => by
    have ht := h t List.mem_cons_self
    show (intB 0 (.int (t : Nat)) && intAll 0 (ts.map fun t => .int ((t : Nat) : Int))) = true
    rw [ints_intB hm fun x hx => h x (List.mem_cons_of_mem _ hx), intB_int (by omega) (by
      have : (1000 : Nat) ≤ 10 ^ 39 := by decide
      omega)]
    rfl
theorem dd_intB {sg : List Nat} {m : Nat} {n : Dd} (hm : m ≤ 1000) (h : ddOk sg m n) : intB 0 (ddD n) = true := by
  cases n with
  | stop => rfl
  | lay c t =>
    have ht := h.2
    show (true && (true && (intB 0 (.int (t : Nat)) && true))) = true
    rw [intB_int (by omega) (by
      have : (1000 : Nat) ≤ 10 ^ 39 := by decide
      omega)]
    rfl
  | look ts =>
    show (true && (intAll 0 (ts.map fun t => .int ((t : Nat) : Int)) && true)) = true
    rw [ints_intB hm h.2]
    rfl
theorem dds_intB {sg : List Nat} {m : Nat} {ns : List Dd} (hm : m ≤ 1000) (h : ∀ n ∈ ns, ddOk sg m n) : intB 0 (.tuple (ns.map ddD)) = true := intAll_of fun d hd => by
  obtain ⟨n, hn, rfl⟩ := List.mem_map.mp hd
  exact dd_intB hm (h n hn)
/-! the drawn ones -/
structure Drw (K : PySem.W.Frag) (H : Hp) (sg : List Nat) (ns : List Dd) (na : Addr) : Prop where
  pts : Pts K H sg ns na
  sh : sg.length ≤ 3
  few : ns.length ≤ 100
theorem Drw.same {K : PySem.W.Frag} {H H' : Hp} {sg : List Nat} {ns : List Dd} {na : Addr} (h : Drw K H sg ns na) (e : Same H H') : Drw K H' sg ns na := ⟨h.pts.same e, h.sh, h.few⟩
theorem Drw.kp {K : PySem.W.Frag} {H H' : Hp} {sg : List Nat} {ns : List Dd} {na : Addr} (h : Drw K H sg ns na) (e : KpT K H H') : Drw K H' sg ns na := ⟨h.pts.kp e, h.sh, h.few⟩
theorem Drw.okF {K : PySem.W.Frag} {H : Hp} {sg : List Nat} {ns : List Dd} {na : Addr} (h : Drw K H sg ns na) : OkD 3900 3 (.tuple (ns.map ddD)) :=
  ((dds_small (sg_ok h.pts.hs).low h.sh h.few h.pts.ok.2.2).mono (by have := h.few; omega) (Nat.le_refl _)).tup
theorem Drw.int {K : PySem.W.Frag} {H : Hp} {sg : List Nat} {ns : List Dd} {na : Addr} (h : Drw K H sg ns na) : intB 0 (.tuple (ns.map ddD)) = true := dds_intB (by have := h.few; omega) h.pts.ok.2.2
theorem deed_txt {sg : List Nat} {m : Nat} {n : Dd} (hs : ∀ c ∈ sg, c < 128 ∧ c ≠ 10) (hl : sg.length ≤ 3) (hm : m ≤ 100) (h : ddOk sg m n) : (deedT n).length ≤ 16 ∧ ∀ c ∈ deedT n, c < 128 ∧ c ≠ 10 := by
  have nl : ∀ t, t < 100 → (numL t).length ≤ 2 ∧ ∀ c ∈ numL t, c < 128 ∧ c ≠ 10 := fun t ht => ⟨TL.numL_len (by decide) (by omega), fun c hc => by have := num_dig t c hc; omega⟩
  have lit : ∀ w : List Nat, (w.all fun c => decide (c < 128) && decide (c ≠ 10)) = true → ∀ c ∈ w, c < 128 ∧ c ≠ 10 := fun w hw c hc => by
    obtain ⟨a, b⟩ := Bool.and_eq_true_iff.mp (List.all_eq_true.mp hw c hc)
    exact ⟨of_decide_eq_true a, of_decide_eq_true b⟩
  have jn : ∀ ws : List (List Nat), (∀ w ∈ ws, ∀ c ∈ w, c < 128 ∧ c ≠ 10) → ∀ c ∈ TL.joinL [32] ws, c < 128 ∧ c ≠ 10 := fun ws hw c hc => by
    rcases join_in 32 hc with h | ⟨p, hp, h⟩
    · omega
    · exact hw p hp c h
  cases n with
  | stop => exact ⟨by decide, lit _ (by decide +kernel)⟩
  | lay c t =>
    have ht := nl t (by have := h.2; omega)
    refine ⟨?_, jn _ fun w hw => ?_⟩
    · have h1 := join_len 32 (deedW (.lay c t)) (by simp [deedW])
      have h2 : (deedT (.lay c t)).length + 1 = (3 + 1) + ((1 + 1) + (((numL t).length + 1) + 0)) := h1
      omega
    · simp only [deedW, List.mem_cons, List.not_mem_nil, or_false] at hw
      rcases hw with rfl | rfl | rfl
      · exact lit _ (by decide +kernel)
      · exact fun x hx => by rw [List.mem_singleton.mp hx]; exact hs c h.1
      · exact ht.2
  | look ts =>
    have hts : ∀ t ∈ ts, t < 100 := fun t ht => by have := h.2 t ht; omega
    have hl2 := h.1
    refine ⟨?_, jn _ fun w hw => ?_⟩
    · have h1 := join_len 32 (deedW (.look ts)) (by simp [deedW])
      have h3 : ∀ us : List Nat, (∀ t ∈ us, t < 100) → sumL (us.map numL) ≤ 3 * us.length := by
        intro us
        induction us with
        | nil => exact fun _ => Nat.le_refl _
        | cons u us ih =>
          intro hu
          have := ih fun x hx => hu x (List.mem_cons_of_mem _ hx)
          have := (nl u (hu u List.mem_cons_self)).1
          show ((numL u).length + 1) + sumL (us.map numL) ≤ 3 * (us.length + 1)
          omega
      have h4 := h3 ts hts
      have h2 : (deedT (.look ts)).length + 1 = (4 + 1) + sumL (ts.map numL) := h1
      omega
    · rcases List.mem_cons.mp (show w ∈ lookL :: ts.map numL from hw) with rfl | hw
      · exact lit _ (by decide +kernel)
      · obtain ⟨t, ht, rfl⟩ := List.mem_map.mp hw
        exact (nl t (hts t ht)).2
theorem Drw.sum {K : PySem.W.Frag} {H : Hp} {sg : List Nat} {ns : List Dd} {na : Addr} (h : Drw K H sg ns na) : sumL (ns.map deedT) ≤ 17 * ns.length ∧ ∀ n ∈ ns, (deedT n).length ≤ 16 ∧ ∀ c ∈ deedT n, c < 128 ∧ c ≠ 10 := by
  have key : ∀ n ∈ ns, (deedT n).length ≤ 16 ∧ ∀ c ∈ deedT n, c < 128 ∧ c ≠ 10 := fun n hn => deed_txt (fun c hc => by have := alpha_low ((letters_alpha h.pts.hs).2 c hc); omega) h.sh h.few (h.pts.ok.2.2 n hn)
  refine ⟨?_, key⟩
  have h3 : ∀ us : List Dd, (∀ n ∈ us, (deedT n).length ≤ 16) → sumL (us.map deedT) ≤ 17 * us.length := by
    intro us
    induction us with
    | nil => exact fun _ => Nat.le_refl _
    | cons u us ih =>
      intro hu
      have := ih fun x hx => hu x (List.mem_cons_of_mem _ hx)
      have := hu u List.mem_cons_self
      show ((deedT u).length + 1) + sumL (us.map deedT) ≤ 17 * (us.length + 1)
      omega
  exact h3 ns fun n hn => (key n hn).1
theorem Drw.tx {K : PySem.W.Frag} {H : Hp} {sg : List Nat} {ns : List Dd} {na : Addr} (h : Drw K H sg ns na) : Tx 2400 60 105 (pageT sg ns) := by
  obtain ⟨hs, hk⟩ := h.sum
  have hf := h.few
  have hsh := h.sh
  have ha := (letters_alpha h.pts.hs).2
  have hh : ∀ c ∈ programL ++ [32] ++ sg, c < 128 ∧ c ≠ 10 := by
    intro c hc
    rcases List.mem_append.mp hc with hc | hc
    · have key : ((programL ++ [32]).all fun c => decide (c < 128) && decide (c ≠ 10)) = true := by decide +kernel
      obtain ⟨a, b⟩ := Bool.and_eq_true_iff.mp (List.all_eq_true.mp key c hc)
      exact ⟨of_decide_eq_true a, of_decide_eq_true b⟩
    · have := alpha_low (ha c hc)
      omega
  have hhl : (programL ++ [32] ++ sg).length = 8 + sg.length := by
    rw [List.length_append]
    rfl
  have all : ∀ w ∈ (programL ++ [32] ++ sg) :: ns.map deedT, w.length ≤ 60 ∧ ∀ c ∈ w, c < 128 ∧ c ≠ 10 := by
    intro w hw
    rcases List.mem_cons.mp hw with rfl | hw
    · exact ⟨by omega, hh⟩
    · obtain ⟨n, hn, rfl⟩ := List.mem_map.mp hw
      exact ⟨by have := (hk n hn).1; omega, (hk n hn).2⟩
  refine tx_join (fun w hw h10 => ((all w hw).2 10 h10).2 rfl) (fun w hw c hc => ((all w hw).2 c hc).1) ?_ (fun w hw => (all w hw).1) ?_ (by decide)
  · show ((programL ++ [32] ++ sg).length + 1) + sumL (ns.map deedT) ≤ _
    omega
  · rw [List.length_cons, List.length_map]
    omega
end Lw

namespace Lw
open PySem PySem.Spec PyProof.Rows L2 Mq
open SX (S)
/-! ### parts with something otherwise -/
theorem PS_imp {X : Cx} {st : Stmt} {t t' : TS} (h : PS X st t) (i : ∀ D σ H, t' D σ H → t D σ H) : PS X st t' := ⟨fun pins s σ H D I q => h.run pins s σ H D I (i D σ H q)⟩
structure Bt (K : PySem.W.Frag) (N : Addr → Prop) (w n b : Nat) (H : Hp) (p : Addr) (v1 v2 : V) (d1 d2 : PyData) : Prop where
  tup : SqT K H p [v1, v2]
  g1 : Dv K N H v1 d1
  o1 : OkD 300 3 d1
  g2 : Dv K N H v2 d2
  o2 : OkD w n d2
  i2 : intB b d2 = true
theorem Bt.same {K : PySem.W.Frag} {N : Addr → Prop} {w n b : Nat} {H H' : Hp} {p : Addr} {v1 v2 : V} {d1 d2 : PyData} (h : Bt K N w n b H p v1 v2 d1 d2) (e : Same H H') : Bt K N w n b H' p v1 v2 d1 d2 := ⟨Same.tup e h.tup, h.g1.same e, h.o1, h.g2.same e, h.o2, h.i2⟩
theorem Bt.mono {K : PySem.W.Frag} {N N' : Addr → Prop} {w n b w' n' b' : Nat} {H : Hp} {p : Addr} {v1 v2 : V} {d1 d2 : PyData} (h : Bt K N w n b H p v1 v2 d1 d2) (hN : ∀ a, N a → N' a) (hw : w ≤ w') (hn : n ≤ n') (hb : b ≤ b') : Bt K N' w' n' b' H p v1 v2 d1 d2 := ⟨h.tup, h.g1.mono hN, h.o1, h.g2.mono hN, h.o2.mono hw hn, intB_mono hb _ h.i2⟩
def tB1 (K : PySem.W.Frag) : TE := fun σ H Q => ∃ D C T sg ns na, σ[0]? = some (some (.ref D)) ∧ σ[2]? = some (some (.str (S sg))) ∧ σ[3]? = some (some (.ref na)) ∧ DeckAt D C T H ∧ T ≤ 800000 ∧ Drw K H sg ns na ∧
  ∀ H' p v1 v2 d1 d2, DeckAt D C (T + 20) H' → Off D C H H' → Bt K (fun a => H a = none) 8000 6 1 H' p v1 v2 d1 d2 → Q (.ref p) H'
def tB2 (K : PySem.W.Frag) : TS := fun k σ H => ∃ (D C : Addr) (T : Nat) (o1 o2 o3 o5 o6 o7 : Option V) (p : Addr) (v1 v2 : V) (d1 d2 : PyData) (N : Addr → Prop), σ = [some (.ref D), o1, o2, o3, some (.ref p), o5, o6, o7] ∧ DeckAt D C T H ∧ T ≤ 810000 ∧ (∀ a, N a → a ≠ D ∧ a ≠ C) ∧ (∀ a, H a = none → N a) ∧
  Bt K N 8000 6 1 H p v1 v2 d1 d2 ∧ ∀ H' p' v2' d2', DeckAt D C (T + 40) H' → Off D C H H' → Bt K N 16300 9 2 H' p' v1 v2' d1 d2' → k.nx [some (.ref D), o1, o2, o3, some (.ref p'), o5, o6, o7] H'
def spBentRight (K : PySem.W.Frag) (C0 : Addr) : Sp := fun vs H Q _ => ∃ (D C r na : Addr) (T : Nat) (sg : List Nat) (ns : List Dd), vs = [.ref D, .ref r, .str (S sg), .ref na] ∧ DeckAt D C T H ∧ T ≤ 800000 ∧ PgAt H C0 r sg na ∧ Drw K H sg ns na ∧
  ∀ H', DeckAt D C (T + 70) H' → Off D C H H' → Q (.bl true) H'
theorem wr_dg {K : PySem.W.Frag} {H : Hp} (p : Wr) : Dg K H p.v p.d := by
  cases p with
  | letters => exact .str _
  | deeds => exact .str _
  | num k => exact .int _
def bdD (p : Wr) : PyData := .list [.str "bad", p.d, .bool true]
theorem first_num {p : PyData → Bool} : ∀ {ds : List PyData} {i k : Nat}, firstBad p ds i = some k → k < i + ds.length
  | [], _, _, h => by cases h
  | d :: ds, i, k, h => by
    unfold firstBad at h
    split at h
    · have := first_num (ds := ds) (i := i + 1) h
      rw [List.length_cons]
      omega
    · cases h
      rw [List.length_cons]
      omega
theorem wr_ok {d1 d2 : PyData} {p : Wr} (h : dueM d1 d2 = some p) : OkD 20 0 p.d := by
  cases p with
  | letters => exact okD_of (by decide +kernel)
  | deeds => exact okD_of (by decide +kernel)
  | num k =>
    refine okD_int ?_
    cases d1 with
    | str x =>
      rw [← Mq.S_of x, due_str] at h
      split at h
      · cases d2 with
        | tuple ds =>
          unfold bodyN at h
          dsimp only at h
          split at h
          · cases h
          · rename_i h9
            cases hf : firstBad (deedD x.cps.toList ds.length) ds 0 with
            | none =>
              rw [hf] at h
              cases h
            | some j =>
              rw [hf] at h
              have hk : k = j := by
                have h2 : (some (Wr.num j)) = some (Wr.num k) := h
                injection h2 with h2
                injection h2 with h2
                exact h2.symm
              have h3 := first_num hf
              have h4 : ds.length ≤ 999 := by
                rcases Nat.lt_or_ge 999 ds.length with g | g
                · exact (h9 (by rw [decide_eq_true g, Bool.or_true])).elim
                · exact g
              omega
        | _ => cases h
      · cases h
    | _ => cases h
section
variable {P : Program} {w : World} {K : PySem.W.Frag} {mg : Str → Option Value} {base : Heap} {C0 CT CM : Addr}
theorem ok_bent_right {f fD fO fB fF fM fK fE : Addr} {fd fdD fdO fdB fdF fdM fdK fdE : FuncData} (F : Fun K "_law_bent_right" "_law_bent_right" s__law_bent_right f fd) (B : Blt mg) (T0 : EqT K mg C0) (kl : PySem.W.kitOne K (.ref C0) (.type "list") = some false)
    (FD : Fun K "_law_draw" "_law_draw" s__law_draw fD fdD) (gD : mg "_law_draw" = some (.ref fD)) (bD : Binds K fdD ["_law_deck_here", "_law_below"] []) (GD : FnOk P w K mg base CX0 1 fD fdD ["_law_deck_here", "_law_below"] spDraw)
    (FO : Fun K "_law_odd" "_law_odd" s__law_odd fO fdO) (gO : mg "_law_odd" = some (.ref fO)) (bO : Binds K fdO ["_law_deck_here", "_law_it"] []) (GO : FnOk P w K mg base CX0 3 fO fdO ["_law_deck_here", "_law_it"] (spOdd K))
    (FB : Fun K "_law_bent" "_law_bent" s__law_bent fB fdB) (gB : mg "_law_bent" = some (.ref fB)) (bB : Binds K fdB ["_law_deck_here", "_law_it"] []) (GB : ∀ k : Nat, FnOk P w K mg base CX0 (4 + k) fB fdB ["_law_deck_here", "_law_it"] (spBent K k))
    (FF : Fun K "_law_fault" "_law_fault" s__law_fault fF fdF) (gF : mg "_law_fault" = some (.ref fF)) (bF : Binds K fdF ["_law_letters_a", "_law_deeds_a"] []) (GF : FnOk P w K mg base CX0 3 fF fdF ["_law_letters_a", "_law_deeds_a"] (spFault K))
    (FM : Fun K "_law_made" "_law_made" s__law_made fM fdM) (gM : mg "_law_made" = some (.ref fM)) (bM : Binds K fdM ["_law_letters_a", "_law_deeds_a", "_law_is_named"] []) (GM : FnG P w K mg base CX0 9 fM fdM ["_law_letters_a", "_law_deeds_a", "_law_is_named"] (spMade K C0))
    (FK : Fun K "_law_is_like" "_law_is_like" s__law_is_like fK fdK) (gK : mg "_law_is_like" = some (.ref fK)) (bK : Binds K fdK ["_law_it", "_law_letters_a", "_law_deeds_a"] []) (GK : FnG P w K mg base CX0 3 fK fdK ["_law_it", "_law_letters_a", "_law_deeds_a"] (spLike K C0))
    (mE : Meth K C0 "__eq__" fE) (bE : Binds K fdE ["self", "other"] []) (GE : FnOk P w K mg base CX0 3 fE fdE ["self", "other"] (spEqA K C0)) :
    FnG P w K mg base CX0 11 f fd ["_law_deck_here", "_law_it", "_law_letters_a", "_law_deeds_a"] (spBentRight K C0) := by
  have GB3 : FnOk P w K mg base CX0 7 fB fdB ["_law_deck_here", "_law_it"] (spBent K 3) := GB 3
  have GB6 : FnOk P w K mg base CX0 10 fB fdB ["_law_deck_here", "_law_it"] (spBent K 6) := GB 6
  refine Mq.Fun.okG F sc__law_bent_right (fun vs H Q E h => ?_) (fun cdv A outer s H vs Q E gA hr h => ?_)
  · obtain ⟨_, _, _, _, _, _, _, rfl, _⟩ := h
    rfl
  · obtain ⟨D, C, r, na, T, sg, ns, rfl, hdk, hT, hpg, hdr, q⟩ := h
    have hr3 : Room 3 (A.deeper (envOfC "_law_bent_right" (defScope s__law_bent_right) s.heap.objs.size f cdv)) := hr.mono (by decide)
    refine ⟨_, (pss_cons (ps_set (i := 4) sc__law_bent_right.nd rfl (Or.inl rfl) (PE_imp (t' := tB1 K) (pe_ifExp (pt_cmpR op_eq (pe_call GD (hr.mono (by decide)) (by rfl) gD FD.kp bD .nil pass0 (pa_cons (pv 0) (pa_cons pe_int pa_nil))) pe_int (nomark _)) (pe_tup (pa_cons (pe_call GO (hr.mono (by decide)) (by rfl) gO FO.kp bO .nil pass0 (pa_cons (pv 0) (pa_cons (pv 2) pa_nil))) (pa_cons (pv 3) pa_nil))) (pe_tup (pa_cons (pv 2) (pa_cons (pe_call GB3 (hr.mono (by decide)) (by rfl) gB FB.kp bB .nil pass0 (pa_cons (pv 0) (pa_cons (pv 3) pa_nil))) pa_nil)))) (fun σ H Q h => by
        obtain ⟨D, C, T, sg, ns, na, h0, h2, h3, hdk, hT, hdr, q⟩ := h
        have hsl := hdr.sh
        have okS : OkD 3 0 (.str (S sg)) := okD_str (sg_ok hdr.pts.hs).low hsl
        have okF := hdr.okF
        have hwF : (PyData.tuple (ns.map ddD)).weight ≤ 3900 := okF.gs.we
        refine ⟨_, h0, D, C, T, 4, rfl, hdk, by omega, by decide, by decide, fun H1 x hx dk1 off1 => ?_⟩
        have dr1 := hdr.kp (KpT.off off1 hdk)
        refine ⟨rfl, _, rfl, ite2 (fun _ => ?_) (fun _ => ?_)⟩
        · refine ⟨_, h0, _, h2, D, C, T + 1, _, .str (S sg), 0, 0, (fun _ => False), rfl, dk1, by omega, .str _, (fun _ z => z.elim), okS.exact, by have := okS.gs.we; omega, rfl, by decide, fun H2 u dk2 off2 od => ?_⟩
          refine ⟨_, h3, sz_le (n := 2) (by decide), fun p hp => ?_⟩
          have s3 := same_new (o := HO.tup [u, V.ref na]) hp
          obtain ⟨d', dv, oku, _⟩ := od
          have hwS : (PyData.str (S sg)).weight ≤ 3 := okS.gs.we
          have nn : ∀ a, (False ∨ H1 a = none) → H a = none := fun a ha => none_off off1 dk1 (ha.resolve_left id)
          have dr2 := (dr1.kp (KpT.off off2 dk1)).same s3
          exact q _ p u _ d' _ ((dk2.same s3).mono (by omega)) ((off1.trans off2).trans (Off.same s3)) ⟨Or.inl (Or.inl upd_same), (dv.same s3).mono nn, oku.mono (by omega) (by decide), dr2.pts.tn.dv, okF.mono (by decide) (by decide), intB_mono (by decide) _ hdr.int⟩
        · refine ⟨_, h2, _, h0, _, h3, D, C, T + 1, _, _, 0, (fun _ => False), rfl, dk1, by omega, dr1.pts.tn.dv, (fun _ z => z.elim), okF.exact, by omega, by decide, hdr.int, by decide, fun H2 u T2 hT2 dk2 off2 od => ?_⟩
          refine ⟨sz_le (n := 2) (by decide), fun p hp => ?_⟩
          have s3 := same_new (o := HO.tup [V.str (S sg), u]) hp
          obtain ⟨d', dv, oku, iu⟩ := od
          have nn : ∀ a, (False ∨ H1 a = none) → H a = none := fun a ha => none_off off1 dk1 (ha.resolve_left id)
          exact q _ p _ u (.str (S sg)) d' ((dk2.same s3).mono (by omega)) ((off1.trans off2).trans (Off.same s3)) ⟨Or.inl (Or.inl upd_same), .str _, okS.mono (by decide) (by decide), (dv.same s3).mono nn, oku.mono (by omega) (by decide), iu⟩)))
    (pss_cons (PS_imp (t' := tB2 K) (ps_if (pt_cmpR op_eq (pe_call GD (hr.mono (by decide)) (by rfl) gD FD.kp bD .nil pass0 (pa_cons (pv 0) (pa_cons pe_int pa_nil))) pe_int (nomark _)) (pss_one (ps_set (i := 4) sc__law_bent_right.nd rfl (Or.inl rfl) (pe_tup (pa_cons (pe_ix ix_tup (pv 4) pe_int (fun _ _ => rfl)) (pa_cons (pe_call GB6 (hr.mono (by decide)) (by rfl) gB FB.kp bB .nil pass0 (pa_cons (pv 0) (pa_cons (pe_ix ix_tup (pv 4) pe_int (fun _ _ => rfl)) pa_nil))) pa_nil))))) pss_nil) (fun k σ H h => by
        obtain ⟨D, C, T, o1, o2, o3, o5, o6, o7, p, v1, v2, d1, d2, N, rfl, hdk, hT, hND, hNn, bt, q⟩ := h
        refine ⟨_, rfl, D, C, T, 2, rfl, hdk, by omega, by decide, by decide, fun H1 x hx dk1 off1 => ?_⟩
        have kp : ∀ {v : V} {d : PyData} {H2 : Hp}, Off D C H H2 → Dv K N H v d → Dv K N H2 v d := fun off h => h.kp (fun a o ha z => off a o (hND a ha).1 (hND a ha).2 z) (fun a xs z => off.tup hdk z)
        have tup1 := off1.tup hdk bt.tup
        refine ⟨rfl, _, rfl, ite2 (fun _ => ?_) (fun _ => ?_)⟩
        · have hw2 := bt.o2.gs.we
          refine ⟨_, rfl, p, _, 0, _, rfl, rfl, tup1, atI_nat (j := 0) rfl, _, rfl, _, rfl, p, _, 1, _, rfl, rfl, tup1, atI_nat (j := 1) rfl, D, C, T + 1, v2, d2, 1, N, rfl, dk1, by omega, kp off1 bt.g2, hND, bt.o2.exact, by omega, by decide, bt.i2, by decide, fun H2 u T2 hT2 dk2 off2 od => ?_⟩
          refine ⟨sz_le (n := 2) (by decide), fun p3 hp3 => ?_⟩
          have s3 := same_new (o := HO.tup [v1, u]) hp3
          obtain ⟨d', dv, oku, iu⟩ := od
          have nn : ∀ a, (N a ∨ H1 a = none) → N a := fun a ha => ha.elim id fun h => hNn a (none_off off1 dk1 h)
          exact q _ p3 u d' ((dk2.same s3).mono (by omega)) ((off1.trans off2).trans (Off.same s3)) ⟨Or.inl (Or.inl upd_same), (kp (off1.trans off2) bt.g1).same s3, bt.o1, (dv.same s3).mono nn, oku.mono (by omega) (by decide), iu⟩
        · exact q H1 p v2 d2 (dk1.mono (by omega)) off1 ⟨tup1, kp off1 bt.g1, bt.o1, kp off1 bt.g2, bt.o2.mono (by decide) (by decide), intB_mono (by decide) _ bt.i2⟩))
    (pss_cons (ps_par (i := 5) (j := 6) rfl sc__law_bent_right.nd rfl rfl (by decide) rfl rfl (pa_cons (pe_callB (call_rep hr gA) (by rfl) B.repr (by decide +kernel) (pa_cons (pv 4) pa_nil)) (pa_cons (pe_call GF (hr.mono (by decide)) (by rfl) gF FF.kp bF .nil pass0 (pa_cons (pe_ix ix_tup (pv 4) pe_int (fun _ _ => rfl)) (pa_cons (pe_ix ix_tup (pv 4) pe_int (fun _ _ => rfl)) pa_nil))) pa_nil)) (by rfl))
    (pss_cons (ps_set (i := 7) sc__law_bent_right.nd rfl (Or.inl rfl) (Mq.pe_ls (pa_cons (pe_callG GM gA (hr.mono (by decide)) (by rfl) gM FM.kp bM pass0 (pa_cons (pe_ix ix_tup (pv 4) pe_int (fun _ _ => rfl)) (pa_cons (pe_ix ix_tup (pv 4) pe_int (fun _ _ => rfl)) (pa_cons pe_bl pa_nil)))) (pa_cons (pe_callG GM gA (hr.mono (by decide)) (by rfl) gM FM.kp bM pass0 (pa_cons (pe_ix ix_tup (pv 4) pe_int (fun _ _ => rfl)) (pa_cons (pe_ix ix_tup (pv 4) pe_int (fun _ _ => rfl)) (pa_cons pe_bl pa_nil)))) pa_nil))))
    (pss_cons (ps_if (pt_cmpR op_notN (pv 6) pe_non (nomark _)) (pss_one (ps_ret (pe_and (pe_cmpR op_eq (pe_callB (call_rep hr gA) (by rfl) B.repr (by decide +kernel) (pa_cons (pv 7) pa_nil)) (pe_callB (call_repP hr gA) (by rfl) B.repr (by decide +kernel) (pa_cons (pe_op op_rep (Mq.pe_ls (pa_cons (Mq.pe_ls (pa_cons pe_str (pa_cons (pv 6) (pa_cons pe_bl pa_nil)))) pa_nil)) pe_int) pa_nil)) (nomark _)) (pe_one (pe_cmpR op_eq (pe_callB (call_rep hr gA) (by rfl) B.repr (by decide +kernel) (pa_cons (pv 4) pa_nil)) (pv 5) (nomark _)))))) pss_nil)
    (pss_cons (ps_if (PW.pt (pw_or (pt_val (pe_callB call_isi (by rfl) B.isi (by decide +kernel) (pa_cons (pe_ix ix_list (pv 7) pe_int (fun _ _ => rfl)) (pa_cons (pe_bltn (v := .ty "list") (by rfl) B.list (by decide +kernel) rfl) pa_nil)))) (pw_or (pt_not (pt_val (pe_callG GK gA (hr.mono (by decide)) (by rfl) gK FK.kp bK pass0 (pa_cons (pe_ix ix_list (pv 7) pe_int (fun _ _ => rfl)) (pa_cons (pe_ix ix_tup (pv 4) pe_int (fun _ _ => rfl)) (pa_cons (pe_ix ix_tup (pv 4) pe_int (fun _ _ => rfl)) pa_nil)))))) (pw_or1 (pt_not (pt_cmpR (op_eqO (E := fun _ _ _ => False) mE GE hr3 bE pass0) (pe_ix ix_list (pv 7) pe_int (fun _ _ => rfl)) (pe_ix ix_list (pv 7) pe_int (fun _ _ => rfl)) (nomark _))))))) (pss_one ps_dead) pss_nil)
    (pss_one (ps_ret (pe_and (pe_cmpR op_eq (pe_cmpR (op_eqO (E := fun _ _ _ => False) mE GE hr3 bE pass0) (pe_ix ix_list (pv 7) pe_int (fun _ _ => rfl)) (pv 1) (nomark _)) (pe_cmpR op_eq (pe_callB (call_rep hr gA) (by rfl) B.repr (by decide +kernel) (pa_cons (pv 4) pa_nil)) (pe_callB (call_rep hr gA) (by rfl) B.repr (by decide +kernel) (pa_cons (pe_tup (pa_cons (pv 2) (pa_cons (pv 3) pa_nil))) pa_nil)) (nomark _)) (nomark _)) (pe_one (pe_cmpR op_eq (pe_callB (call_rep hr gA) (by rfl) B.repr (by decide +kernel) (pa_cons (pv 4) pa_nil)) (pv 5) (nomark _)))))))))))), ?_⟩
    refine ⟨D, C, T, sg, ns, na, rfl, rfl, rfl, hdk, hT, hdr, fun H1 p1 v1 w1 d1 e1 dk1 off1 bt1 => ?_⟩
    have hN1 : ∀ a, H a = none → a ≠ D ∧ a ≠ C := fun a ha => new_ne hdk ha
    refine ⟨D, C, T + 20, _, _, _, _, _, _, p1, v1, w1, d1, e1, (fun a => H a = none), rfl, dk1, by omega, hN1, (fun a ha => none_off off1 dk1 ha), bt1, fun H2 p v2 d2 dk2 off2 bt => ?_⟩
    clear bt1
    have off02 := off1.trans off2
    have hpg2 : PgAt H2 C0 r sg na := by
      obtain ⟨dx, h1⟩ := hpg
      exact ⟨dx, off02.at hdk h1 ⟨(fun _ z => nomatch z), (fun _ z => nomatch z)⟩⟩
    have hdr2 := hdr.kp (KpT.off off02 hdk)
    have fin : ∀ H', Same H2 H' → Q (.bl true) H' := fun H' e => q H' ((dk2.same e).mono (by omega)) (off02.trans (Off.same e))
    clear q hpg off1 dk1 off2 hN1
    have okB : OkD 16700 10 (.tuple [d1, d2]) := (LsOk.cons (bt.o1.mono (Nat.le_refl 300) (by decide)) (LsOk.cons bt.o2 (LsOk.nil (w := 0)))).tup.mono (by decide) (by decide)
    have shB := okB.ok (by decide) (by decide)
    have dgB : ∀ H', Same H2 H' → Dg K H' (.ref p) (.tuple [d1, d2]) := fun H' e => .tup (Same.tup e bt.tup) (.cons (bt.g1.same e).dg (.cons (bt.g2.same e).dg .nil))
    have hw1 := bt.o1.gs.we
    have hw2 := bt.o2.gs.we
    refine ⟨_, rfl, _, .tuple [d1, d2], rfl, dgB H2 (Same.refl _), shB.sh, shB.de, shB.le, ?_⟩
    refine ⟨_, rfl, p, _, 0, _, rfl, rfl, bt.tup, atI_nat (j := 0) rfl, _, rfl, p, _, 1, _, rfl, rfl, bt.tup, atI_nat (j := 1) rfl, v1, v2, d1, d2, 300, 3, rfl, bt.g1.dg, bt.g2.dg, bt.o1, by omega, by decide, fun H3 s3 => ⟨_, _, rfl, ?_⟩⟩
    have bt3 := bt.same s3
    refine ⟨_, rfl, p, _, 0, _, rfl, rfl, bt3.tup, atI_nat (j := 0) rfl, _, rfl, p, _, 1, _, rfl, rfl, bt3.tup, atI_nat (j := 1) rfl, v1, v2, d1, d2, false, rfl, bt3.g1.dg, bt3.g2.dg, by omega, by omega, ?_⟩
    cases e : dueM d1 d2 with
    | some pw =>
      intro H4 q0 s4 n0 z0
      have bt4 := bt3.same s4
      refine ⟨_, rfl, p, _, 0, _, rfl, rfl, bt4.tup, atI_nat (j := 0) rfl, _, rfl, p, _, 1, _, rfl, rfl, bt4.tup, atI_nat (j := 1) rfl, v1, v2, d1, d2, true, rfl, bt4.g1.dg, bt4.g2.dg, by omega, by omega, ?_⟩
      rw [e]
      intro H5 q1 s5 n1 z1
      refine ⟨sz_le (n := 2) (by decide), fun pa hpa hna => ?_⟩
      have t6 := same_new (o := HO.lst [V.ref q0, V.ref q1]) hpa
      have za : upd H5 pa (.lst [V.ref q0, V.ref q1]) pa = some (.lst [V.ref q0, V.ref q1]) := upd_same
      have z0 := t6 _ _ (s5 _ _ z0)
      have z1 := t6 _ _ z1
      have s6 := ((s3.trans s4).trans s5).trans t6
      generalize upd H5 pa (.lst [V.ref q0, V.ref q1]) = H6 at za z0 z1 s6 ⊢
      have okW := wr_ok e
      have okb : OkD 40 1 (bdD pw) := ((LsOk.cons (okD_of (by decide +kernel) : OkD 10 0 (.str "bad")) (LsOk.cons okW (LsOk.cons (w := 0) ⟨gs_bool true, rfl⟩ (LsOk.nil (w := 0))))).mono (by decide) (Nat.le_refl _)).lst
      have okbb : OkD 90 2 (.list [bdD pw, bdD pw]) := ((LsOk.cons okb (LsOk.cons okb (LsOk.nil (w := 0)))).mono (by decide) (Nat.le_refl _)).lst
      have shb := okbb.ok (by decide) (by decide)
      have dgb : ∀ {H' : Hp} {a : Addr}, a ≠ sysModules → H' a = some (.lst (badV pw.v)) → Dg K H' (.ref a) (bdD pw) := fun h1 h2 => .lst h1 (SqL.of h2) (.cons (.str _) (.cons (wr_dg pw) (.cons (.bl _) .nil)))
      have nd : (PyData.list [bdD pw, bdD pw]).hasDict = false := by cases pw <;> rfl
      have wv : optW (some pw) = pw.v := rfl
      refine ⟨_, rfl, rfl, _, rfl, ifT (by show (!decide (pw.v = .non)) = true; rw [wr_non]; rfl) ?_⟩
      refine ⟨_, rfl, _, .list [bdD pw, bdD pw], rfl, .lst hna (SqL.of za) (.cons (dgb n0 z0) (.cons (dgb n1 z1) .nil)), shb.sh, shb.de, shb.le, ?_⟩
      refine ⟨_, rfl, sz_le (n := 3) (by decide), fun pb hpb hnb => ⟨sz_le (n := 1) (by decide), fun pc hpc hnc => ?_⟩⟩
      have t7 := same_new (o := HO.lst [V.str "bad", optW (some pw), V.bl true]) hpb
      have zb : upd H6 pb (.lst [V.str "bad", optW (some pw), V.bl true]) pb = some (.lst (badV pw.v)) := upd_same
      have t8 := same_new (o := HO.lst [V.ref pb]) hpc
      refine ⟨pc, 2, [.ref pb], rfl, rfl, upd_same, by decide, by decide, sz_le (n := 2) (by decide), fun pd hpd => ?_⟩
      have t9 := same_new (o := HO.lst (List.replicate (2 : Int).toNat [V.ref pb]).flatten) hpd
      have zb := (t8.trans t9) _ _ zb
      have dpb : Dp K _ (.ref pb) (bdD pw) := .lst (SqL.of zb) (.cons (.str _) (.cons (by cases pw with
        | letters => exact .str _
        | deeds => exact .str _
        | num k => exact .int _) (.cons (.bl _) .nil)))
      refine ⟨pd, .list [bdD pw, bdD pw], rfl, .lst (SqL.of upd_same) (.cons dpb (.cons dpb .nil)), shb.sh, nd, Nat.le_trans okbb.gs.de (by decide), shb.le, ?_⟩
      refine ⟨rfl, _, rfl, ?_⟩
      rw [decide_eq_true rfl]
      have s9 := s6.trans ((t7.trans t8).trans t9)
      refine ifT rfl ⟨_, rfl, _, .tuple [d1, d2], rfl, dgB _ s9, shB.sh, shB.de, shB.le, _, rfl, rfl, ?_⟩
      rw [decide_eq_true rfl]
      exact fin _ s9
    | none =>
      obtain ⟨sg', ds, rfl, rfl, hlet, hne, h999, hfb⟩ := due_none e
      obtain ⟨ns', hns', rfl⟩ := deeds_shape hfb
      rw [List.length_map] at hns'
      have hg1 := bt3.g1.dg
      cases hg1
      obtain ⟨na', xs, rfl, hz, hda⟩ : ∃ na' xs, v2 = .ref na' ∧ SqT K H3 na' xs ∧ DgAll K H3 xs (ns'.map ddD) := by
        have hg := bt3.g2.dg
        cases hg with
        | tup hz ha => exact ⟨_, _, rfl, hz, ha⟩
      have pts3 : Pts K H3 sg' ns' na' := ⟨⟨xs, hz, dg_dds hda⟩, ⟨fun e0 => by rw [e0] at hne; exact hne rfl, by rw [List.length_map] at h999; exact h999, hns'⟩, hlet⟩
      have hsg' := sg_ok hlet
      have hsgl := hsg'.few
      intro H4 r0 sg0 na0 s4 ex ey b0
      have es := SX.S_inj (V.str.inj ex)
      subst es
      cases ey
      have bt4 := bt3.same s4
      refine ⟨_, rfl, p, _, 0, _, rfl, rfl, bt4.tup, atI_nat (j := 0) rfl, _, rfl, p, _, 1, _, rfl, rfl, bt4.tup, atI_nat (j := 1) rfl, _, _, _, _, true, rfl, bt4.g1.dg, bt4.g2.dg, by omega, by omega, ?_⟩
      rw [e]
      intro H5 r1 sg1 na1 s5 ex ey b1
      have es := SX.S_inj (V.str.inj ex)
      subst es
      cases ey
      refine ⟨sz_le (n := 2) (by decide), fun pa hpa hna => ?_⟩
      have t6 := same_new (o := HO.lst [V.ref r0, V.ref r1]) hpa
      have za : upd H5 pa (.lst [V.ref r0, V.ref r1]) pa = some (.lst [V.ref r0, V.ref r1]) := upd_same
      have b0 := (b0.same s5).same t6
      have b1 := b1.same t6
      have s6 := ((s3.trans s4).trans s5).trans t6
      have pts6 := pts3.same ((s4.trans s5).trans t6)
      have hz6 := Same.tup ((s4.trans s5).trans t6) hz
      have bt6 := bt4.same (s5.trans t6)
      generalize upd H5 pa (.lst [V.ref r0, V.ref r1]) = H6 at za b0 b1 s6 pts6 hz6 bt6 ⊢
      refine ⟨_, rfl, rfl, _, rfl, ifF rfl ?_⟩
      have b0' := b0
      obtain ⟨dx0, i0⟩ := b0'
      have b1' := b1
      obtain ⟨dx1, i1⟩ := b1'
      refine ⟨_, rfl, pa, _, 0, _, rfl, rfl, SqL.of za, atI_nat (j := 0) rfl, _, .ty "list", _, _, false, rfl, .ty _, T0.ty _ _ _ _ i0, kl, false, rfl, ifF rfl ?_⟩
      refine ⟨_, rfl, pa, _, 0, _, rfl, rfl, SqL.of za, atI_nat (j := 0) rfl, _, rfl, p, _, 0, _, rfl, rfl, bt6.tup, atI_nat (j := 0) rfl, _, rfl, p, _, 1, _, rfl, rfl, bt6.tup, atI_nat (j := 1) rfl, r0, na', sg', xs, _, 16300, 9, rfl, b0, hsg'.low, by omega, hz6, ?_, bt6.g2.dg, bt6.o2, by decide, by decide, fun H7 s7 => ⟨_, rfl, ifF rfl ?_⟩⟩
      · have h1 := hda.len
        rw [h1]
        omega
      have i0 := s7 _ _ i0
      have i1 := s7 _ _ i1
      have g0 := (pts6.same s7).pg (b0.same s7)
      have g1 := (pts6.same s7).pg (b1.same s7)
      have za7 := SqL.of (K := K) (s7 _ _ za)
      refine ⟨_, rfl, pa, _, 0, _, rfl, rfl, za7, atI_nat (j := 0) rfl, _, rfl, pa, _, 1, _, rfl, rfl, za7, atI_nat (j := 1) rfl, r0, r1, dx0, dx1, _, _, rfl, rfl, i0, i1, r0, .ref r1, sg', na', _, rfl, g0, Or.inl ⟨r1, sg', na', _, rfl, g1, fun H8 s8 => ⟨_, rfl, _, rfl, ?_⟩⟩⟩
      rw [eqv_refl pts3.cd, decide_eq_true rfl]
      have s68 := s7.trans s8
      have s28 := s6.trans s68
      have i0 := s8 _ _ i0
      have g0 := g0.same s8
      have za8 := SqL.of (K := K) (s68 _ _ za)
      have hpg8 := hpg2.same s28
      have hdr8 := hdr2.same s28
      have hgr := hdr8.pts.pg hpg8
      obtain ⟨dxr, ir⟩ := hpg8
      refine ifF rfl ?_
      refine ⟨_, rfl, pa, _, 0, _, rfl, rfl, za8, atI_nat (j := 0) rfl, _, rfl, r0, r, dx0, dxr, _, _, rfl, rfl, i0, ir, r0, .ref r, sg', na', _, rfl, g0, Or.inl ⟨r, sg, na, _, rfl, hgr, fun H9 s9 => ⟨_, rfl, ?_⟩⟩⟩
      have s29 := s28.trans s9
      refine ⟨_, rfl, _, .tuple [.str (S sg'), .tuple (ns'.map ddD)], rfl, dgB H9 s29, shB.sh, shB.de, shB.le, ?_⟩
      have hdr9 := hdr8.same s9
      have hsl := hdr.sh
      have okS : OkD 3 0 (.str (S sg)) := okD_str (sg_ok hdr.pts.hs).low hsl
      have okO : OkD 4000 4 (.tuple [.str (S sg), .tuple (ns.map ddD)]) := (LsOk.cons (okS.mono (Nat.le_refl _) (Nat.zero_le 3)) (LsOk.cons hdr.okF (LsOk.nil (w := 0)))).tup.mono (by decide) (by decide)
      have shO := okO.ok (by decide) (by decide)
      refine ⟨_, rfl, _, rfl, sz_le (n := 2) (by decide), fun pt hpt => ?_⟩
      have t10 := same_new (o := HO.tup [V.str (S sg), V.ref na]) hpt
      have s210 := s29.trans t10
      refine ⟨_, .tuple [.str (S sg), .tuple (ns.map ddD)], rfl, .tup (Or.inl (Or.inl upd_same)) (.cons (.str _) (.cons ((hdr9.same t10).pts.tn.dg) .nil)), shO.sh, shO.de, shO.le, ?_⟩
      have cd1 : Cd (.tuple [.str (S sg'), .tuple (ns'.map ddD)]) := .tup _ fun d hd => by
        simp only [List.mem_cons, List.not_mem_nil, or_false] at hd
        rcases hd with rfl | rfl
        · exact .str _ fun c hc => letter_safe ((letters_alpha hlet).2 c hc)
        · exact pts3.cd
      have cd2 : Cd (.tuple [.str (S sg), .tuple (ns.map ddD)]) := .tup _ fun d hd => by
        simp only [List.mem_cons, List.not_mem_nil, or_false] at hd
        rcases hd with rfl | rfl
        · exact .str _ fun c hc => letter_safe ((letters_alpha hdr.pts.hs).2 c hc)
        · exact hdr.pts.cd
      refine ⟨rfl, rfl, _, rfl, ?_⟩
      rw [shown_eqv cd1 cd2]
      have ev : PyData.eqv (.tuple [.str (S sg'), .tuple (ns'.map ddD)]) (.tuple [.str (S sg), .tuple (ns.map ddD)]) = (decide (sg' = sg) && PyData.eqv (.tuple (ns'.map ddD)) (.tuple (ns.map ddD))) := by
        show ((S sg' == S sg) && (PyData.eqv (.tuple (ns'.map ddD)) (.tuple (ns.map ddD)) && true)) = _
        rw [SX.S_beq_eq, Bool.and_true]
      rw [ev, decide_eq_true rfl]
      refine ifT rfl ⟨_, rfl, _, .tuple [.str (S sg'), .tuple (ns'.map ddD)], rfl, dgB _ s210, shB.sh, shB.de, shB.le, _, rfl, rfl, ?_⟩
      rw [decide_eq_true rfl]
      exact fin _ s210
end
end Lw

namespace Lw
open PySem PySem.Spec PyProof.Rows L2 Mq
open SX (S)
open TL (numL)
/-! ### a program's text is read as it -/
theorem num_there {t : Nat} (h : t < 1000) : (numL t).length ≤ 12 ∧ numM (numL t) = some t := by
  have key : ((List.range 1000).all fun t => decide ((numL t).length ≤ 12) && decide (numM (numL t) = some t)) = true := by decide +kernel
  obtain ⟨a, b⟩ := Bool.and_eq_true_iff.mp (List.all_eq_true.mp key t (List.mem_range.mpr h))
  exact ⟨of_decide_eq_true a, of_decide_eq_true b⟩
theorem rdN_there {m t : Nat} (h : t < m) (hm : m ≤ 1000) : rdN m (numL t) = some t := by
  obtain ⟨a, b⟩ := num_there (t := t) (by omega)
  unfold rdN
  rw [decide_eq_true a, if_pos rfl, b]
  dsimp only
  rw [decide_eq_true h, if_pos rfl]
theorem rdNs_there {m : Nat} {ts : List Nat} (h : ∀ t ∈ ts, t < m) (hm : m ≤ 1000) : rdNs m (ts.map numL) = some ts := by
  unfold rdNs
  have e : (ts.map numL).map (rdN m) = ts.map some := by
    rw [List.map_map]
    exact List.map_congr_left fun t ht => rdN_there (h t ht) hm
  have e2 : ((ts.map numL).map (rdN m)).all Option.isSome = true := by
    rw [e, List.all_map, List.all_eq_true]
    exact fun _ _ => rfl
  rw [if_pos e2, List.map_map]
  congr 1
  refine (List.map_congr_left fun t ht => ?_).trans (List.map_id' ts)
  show (rdN m (numL t)).getD 0 = t
  rw [rdN_there (h t ht) hm]
  rfl
theorem words_free {sg : List Nat} {m : Nat} {n : Dd} (hs : ∀ c ∈ sg, c ∈ alpha) (h : ddOk sg m n) : ∀ w ∈ deedW n, ∀ c ∈ w, c < 128 ∧ c ≠ 10 ∧ c ≠ 32 := by
  have lit : ∀ w : List Nat, (w.all fun c => decide (c < 128) && (decide (c ≠ 10) && decide (c ≠ 32))) = true → ∀ c ∈ w, c < 128 ∧ c ≠ 10 ∧ c ≠ 32 := fun w hw c hc => by
    obtain ⟨a, b⟩ := Bool.and_eq_true_iff.mp (List.all_eq_true.mp hw c hc)
    obtain ⟨b, d⟩ := Bool.and_eq_true_iff.mp b
    exact ⟨of_decide_eq_true a, of_decide_eq_true b, of_decide_eq_true d⟩
  have nd : ∀ t, ∀ c ∈ numL t, c < 128 ∧ c ≠ 10 ∧ c ≠ 32 := fun t c hc => by have := num_dig t c hc; omega
  intro w hw
  cases n with
  | stop =>
    rw [List.mem_singleton.mp hw]
    exact lit _ (by decide +kernel)
  | lay c t =>
    simp only [deedW, List.mem_cons, List.not_mem_nil, or_false] at hw
    rcases hw with rfl | rfl | rfl
    · exact lit _ (by decide +kernel)
    · intro x hx
      rw [List.mem_singleton.mp hx]
      have := alpha_low (hs c h.1)
      omega
    · exact nd t
  | look ts =>
    rcases List.mem_cons.mp (show w ∈ lookL :: ts.map numL from hw) with rfl | hw
    · exact lit _ (by decide +kernel)
    · obtain ⟨t, _, rfl⟩ := List.mem_map.mp hw
      exact nd t
theorem deedW_ne (n : Dd) : deedW n ≠ [] := by cases n <;> simp [deedW]
theorem deed_spl {sg : List Nat} {m : Nat} {n : Dd} (hs : ∀ c ∈ sg, c ∈ alpha) (h : ddOk sg m n) : spl 32 (deedT n) = deedW n :=
  spl_of (by decide) (deedW_ne n) fun w hw h32 => (words_free hs h w hw 32 h32).2.2 rfl
theorem deed_10 {sg : List Nat} {m : Nat} {n : Dd} (hs : ∀ c ∈ sg, c ∈ alpha) (h : ddOk sg m n) : 10 ∉ deedT n := fun h10 => by
  rcases join_in 32 h10 with h2 | ⟨p, hp, h2⟩
  · cases h2
  · exact (words_free hs h p hp 10 h2).2.1 rfl
theorem deed_there {sg : List Nat} {m : Nat} {n : Dd} (hs : ∀ c ∈ sg, c ∈ alpha) (hm : m ≤ 1000) (h : ddOk sg m n) : deedM sg m (deedT n) = some n := by
  unfold deedM
  rw [deed_spl hs h]
  cases n with
  | stop => rfl
  | lay c t =>
    have e1 : decide (deedW (.lay c t) = [stopL]) = false := decide_eq_false fun e => by
      have := congrArg List.length e
      cases this
    rw [e1, if_neg (by decide)]
    show (if (decide (layL = layL) && decide (([[c], numL t] : List (List Nat)).length = 2)) = true then layM sg m [c] (numL t) else lookM sg m layL [[c], numL t]) = _
    rw [if_pos (by rfl)]
    unfold layM
    have e2 : rdNs m [numL t] = some [t] := rdNs_there (ts := [t]) (fun x hx => by rw [List.mem_singleton.mp hx]; exact h.2) hm
    rw [e2]
    dsimp only
    rw [if_pos (show letB sg [c] = true from decide_eq_true h.1)]
    rfl
  | look ts =>
    have e1 : decide (deedW (.look ts) = [stopL]) = false := decide_eq_false fun e => by
      have e : lookL :: ts.map numL = [stopL] := e
      injection e with e _
      exact absurd e (by decide)
    rw [e1, if_neg (by decide)]
    show (if (decide (lookL = layL) && decide ((ts.map numL).length = 2)) = true then layM sg m ((ts.map numL).getD 0 []) ((ts.map numL).getD 1 []) else lookM sg m lookL (ts.map numL)) = _
    rw [show decide (lookL = layL) = false by decide +kernel, Bool.false_and, if_neg (by decide)]
    unfold lookM
    rw [rdNs_there h.2 hm]
    dsimp only
    rw [decide_eq_true h.1, decide_eq_true rfl, if_pos (by decide)]
theorem page_spl {sg : List Nat} {m : Nat} {ns : List Dd} (hs : ∀ c ∈ sg, c ∈ alpha) (h : ∀ n ∈ ns, ddOk sg m n) : spl 10 (pageT sg ns) = (programL ++ [32] ++ sg) :: ns.map deedT := by
  refine spl_of (by decide) (by simp) fun w hw => ?_
  rcases List.mem_cons.mp hw with rfl | hw
  · intro h10
    rcases List.mem_append.mp h10 with h2 | h2
    · exact absurd h2 (by decide)
    · have := alpha_low (hs 10 h2)
      omega
  · obtain ⟨n, hn, rfl⟩ := List.mem_map.mp hw
    exact deed_10 hs (h n hn)
theorem head_spl2 {sg : List Nat} (hs : ∀ c ∈ sg, c ∈ alpha) : spl 32 (programL ++ [32] ++ sg) = [programL, sg] := by
  have e : TL.joinL [32] [programL, sg] = programL ++ [32] ++ sg := by
    show programL ++ ([32] ++ sg) = _
    rw [List.append_assoc]
  rw [← e]
  refine spl_of (by decide) (by simp) fun w hw => ?_
  simp only [List.mem_cons, List.not_mem_nil, or_false] at hw
  rcases hw with rfl | rfl
  · decide
  · intro h2
    have := alpha_low (hs 32 h2)
    omega
theorem head_there {sg : List Nat} {ns : List Dd} {m : Nat} (hl : lettersB sg = true) (h : ∀ n ∈ ns, ddOk sg m n) : headM (pageT sg ns) = some (sg, ns.map deedT) := by
  have hs := (letters_alpha hl).2
  unfold headM
  rw [page_spl hs h]
  dsimp only
  rw [headW_ok, head_spl2 hs]
  have e : headOk [programL, sg] = true := by
    show (decide (programL = programL) && lettersB sg) = true
    rw [hl]
    rfl
  rw [e, if_pos rfl]
  rfl
theorem first_somes : ∀ (ns : List Dd) (i : Nat), firstN (ns.map some) i = none
  | [], _ => rfl
  | n :: ns, i => first_somes ns (i + 1)
theorem filt_somes : ∀ ns : List Dd, (ns.map some).filterMap id = ns
  | [] => rfl
  | n :: ns => by
    show n :: (ns.map some).filterMap id = n :: ns
    rw [filt_somes ns]
theorem page_there {sg : List Nat} {ns : List Dd} (hl : lettersB sg = true) (h : DeedsOk sg ns) : pageM (pageT sg ns) = .inl (sg, ns) := by
  have hs := (letters_alpha hl).2
  unfold pageM
  rw [head_there hl h.2.2]
  dsimp only
  have e0 : (ns.map deedT).isEmpty = false := by
    cases ns with
    | nil => exact (h.1 rfl).elim
    | cons n ns => rfl
  rw [e0, if_neg (by decide), lines_few (by rw [List.length_map]; exact h.2.1)]
  have e1 : (ns.map deedT).map (deedM sg (ns.map deedT).length) = ns.map some := by
    rw [List.map_map, List.length_map]
    exact List.map_congr_left fun n hn => deed_there hs (by have := h.2.1; omega) (h.2.2 n hn)
  rw [e1, first_somes, filt_somes]
/-! by hand: stops alone -/
def stops (k : Nat) : List Dd := List.replicate k .stop
theorem stops_ok (sg : List Nat) (m k : Nat) : ∀ n ∈ stops k, ddOk sg m n := fun n hn => by
  rw [List.eq_of_mem_replicate hn]
  trivial
theorem stops_txt : ∀ k : Nat, pageT [97] (stops k) = (programL ++ [32] ++ [97]) ++ (List.replicate k ([10] ++ stopL)).flatten
  | 0 => rfl
  | k + 1 => by
    have key : ∀ (k : Nat) (l : List Nat), TL.joinL [10] (l :: (stops k).map deedT) = l ++ (List.replicate k ([10] ++ stopL)).flatten := by
      intro k
      induction k with
      | zero =>
        intro l
        show l = l ++ []
        rw [List.append_nil]
      | succ k ih =>
        intro l
        show l ++ ([10] ++ TL.joinL [10] (deedT .stop :: (stops k).map deedT)) = l ++ (([10] ++ stopL) ++ (List.replicate k ([10] ++ stopL)).flatten)
        rw [ih, List.append_assoc]
        rfl
    exact key (k + 1) _
theorem stops_len (k : Nat) : (pageT [97] (stops k)).length = 9 + 5 * k := by
  rw [stops_txt, List.length_append]
  have h : ∀ k : Nat, (List.replicate k ([10] ++ stopL)).flatten.length = 5 * k := by
    intro k
    induction k with
    | zero => rfl
    | succ k ih =>
      rw [List.replicate_succ, List.flatten_cons, List.length_append, ih]
      show 5 + 5 * k = 5 * (k + 1)
      omega
  rw [h]
  rfl
theorem a_let : lettersB [97] = true := by decide +kernel
theorem a_alpha : ∀ c ∈ [97], c ∈ alpha := (letters_alpha a_let).2
theorem stops_spl (k : Nat) : spl 10 (pageT [97] (stops k)) = (programL ++ [32] ++ [97]) :: (stops k).map deedT := page_spl a_alpha (stops_ok _ 0 k)
theorem stops_facts (k : Nat) : LowL (pageT [97] (stops k)) ∧ (∀ l ∈ spl 10 (pageT [97] (stops k)), l.length ≤ 4000) ∧ (spl 10 (pageT [97] (stops k))).length = k + 1 := by
  refine ⟨fun c hc => ?_, fun l hl => ?_, ?_⟩
  · rcases join_in 10 hc with h | ⟨p, hp, h⟩
    · omega
    · rcases List.mem_cons.mp hp with rfl | hp
      · exact (show ∀ c ∈ programL ++ [32] ++ [97], c < 128 by decide) c h
      · obtain ⟨n, hn, rfl⟩ := List.mem_map.mp hp
        rw [List.eq_of_mem_replicate hn] at h
        exact (show ∀ c ∈ deedT .stop, c < 128 by decide) c h
  · rw [stops_spl] at hl
    rcases List.mem_cons.mp hl with rfl | hl
    · decide
    · obtain ⟨n, hn, rfl⟩ := List.mem_map.mp hl
      rw [List.eq_of_mem_replicate hn]
      decide
  · rw [stops_spl, List.length_cons, List.length_map]
    unfold stops
    rw [List.length_replicate]
theorem first_rep (r : List (Option Dd)) : ∀ (k i : Nat), firstN (List.replicate k (some Dd.stop) ++ none :: r) i = some (i + k)
  | 0, i => rfl
  | k + 1, i => by
    show firstN (List.replicate k (some Dd.stop) ++ none :: r) (i + 1) = _
    rw [first_rep r k (i + 1)]
    congr 1
    omega
theorem stops_over {k : Nat} (hk : k = 1000) : pageM (pageT [97] (stops k)) = .inr 1001 := by
  unfold pageM
  rw [head_there a_let (stops_ok [97] 0 k)]
  dsimp only
  have hlen : ((stops k).map deedT).length = k := by
    unfold stops
    rw [List.length_map, List.length_replicate]
  have e0 : ((stops k).map deedT).isEmpty = false := by
    cases e : (stops k).map deedT with
    | nil =>
      rw [e] at hlen
      have hlen : 0 = k := hlen
      omega
    | cons a b => rfl
  rw [e0, if_neg (by decide)]
  have e1 : linesM [97] ((stops k).map deedT) = List.replicate 999 (some Dd.stop) ++ none :: [] := by
    refine List.ext_getElem? fun i => ?_
    unfold linesM
    rw [List.getElem?_mapIdx, hlen]
    have eg : ((stops k).map deedT)[i]? = if i < k then some (deedT .stop) else none := by
      unfold stops
      rw [List.map_replicate, List.getElem?_replicate]
    rw [eg]
    have hds : deedM [97] k (deedT .stop) = some .stop := deed_there a_alpha (by omega) (show ddOk [97] k .stop from trivial)
    rcases Nat.lt_trichotomy i 999 with h | h | h
    · rw [if_pos (by omega), List.getElem?_append_left (by rw [List.length_replicate]; exact h), List.getElem?_replicate, if_pos h]
      show some (if decide (i = 999) = true then none else deedM [97] k (deedT .stop)) = some (some .stop)
      rw [decide_eq_false (by omega), if_neg (by decide), hds]
    · rw [if_pos (by omega), List.getElem?_append_right (by rw [List.length_replicate]; omega), List.length_replicate]
      show some (if decide (i = 999) = true then none else deedM [97] k (deedT .stop)) = _
      rw [decide_eq_true h, if_pos rfl, show i - 999 = 0 by omega]
      rfl
    · obtain ⟨j, hj⟩ : ∃ j, i - 999 = j + 1 := ⟨i - 1000, by omega⟩
      rw [if_neg (by omega), List.getElem?_append_right (by rw [List.length_replicate]; omega), List.length_replicate, hj]
      rfl
  rw [e1, first_rep]
end Lw

namespace Lw
open PySem PySem.Spec PyProof.Rows L2 Mq
open ClX (CRead CMet)
open SX (S)
/-! ### the law -/
def spLaw (K : PySem.W.Frag) : Sp := fun vs H Q _ => ∃ (a : Addr) (ns : List Int), vs = [.ref a] ∧ SqL K H a (ns.map V.int) ∧ ns.length ≤ 63 ∧ ∀ H', Q (.bl true) H'
def menu6 : List (List Nat) := [[97, 98], [97, 98], [97], [97, 98, 99], [109, 122], [107, 120, 122]]
theorem menu_is : ([V.str "ab", V.str "ab", V.str "a", V.str "abc", V.str "mz", V.str "kxz"] : List V) = txs menu6 := by decide +kernel
theorem menu_ok : ∀ sg ∈ menu6, lettersB sg = true ∧ sg.length ≤ 3 := by
  have h : (menu6.all fun sg => lettersB sg && decide (sg.length ≤ 3)) = true := by decide +kernel
  exact fun sg hsg => by
    have h2 := List.all_eq_true.mp h sg hsg
    obtain ⟨a, b⟩ := Bool.and_eq_true_iff.mp h2
    exact ⟨a, of_decide_eq_true b⟩
def tTop : TE := fun σ H Q => ∃ D C T, σ[1]? = some (some (.ref D)) ∧ DeckAt D C T H ∧ T ≤ 900000 ∧ ∀ H' (top : Nat), 0 < top → top ≤ 100 → DeckAt D C (T + 1) H' → Off D C H H' → Q (.int (top : Nat)) H'
def tEqV (K : PySem.W.Frag) (C : Addr) : TT := fun σ H Q => ∃ x v dx T sg na d, σ[5]? = some (some (.ref x)) ∧ σ[9]? = some (some v) ∧ H x = some (.ins C dx (pgF sg na)) ∧ KindV K H v T ∧ Pg K C H x sg na d ∧ Q false H
def tBR (K : PySem.W.Frag) (C0 : Addr) : TT := fun σ H Q => ∃ D C r na T sg ns, σ[1]? = some (some (.ref D)) ∧ σ[5]? = some (some (.ref r)) ∧ σ[3]? = some (some (.str (S sg))) ∧ σ[4]? = some (some (.ref na)) ∧ DeckAt D C T H ∧ T ≤ 800000 ∧ PgAt H C0 r sg na ∧ Drw K H sg ns na ∧
  ∀ H', DeckAt D C (T + 70) H' → Off D C H H' → Q false H'
def wideN : List Dd := [.look (1 :: List.replicate 26 0), .lay 113 0]
theorem wide_ok : DeedsOk alpha wideN := by
  refine ⟨by simp [wideN], by decide, fun n hn => ?_⟩
  simp only [wideN, List.mem_cons, List.not_mem_nil, or_false] at hn
  rcases hn with rfl | rfl
  · exact ⟨by decide, by decide⟩
  · exact ⟨by decide, by decide⟩
theorem alpha_let : lettersB alpha = true := by decide +kernel
theorem dd_rep {K : PySem.W.Frag} {H : Hp} {v : V} {n : Dd} (h : DdAt K H v n) : ∀ k : Nat, DdAll K H (List.replicate k v) (List.replicate k n)
  | 0 => .nil
  | k + 1 => .cons h (dd_rep h k)
theorem weight_rep (d : PyData) : ∀ k : Nat, PyData.weightAll (List.replicate k d) = k * (d.weight + 1)
  | 0 => by simp [PyData.weightAll]
  | k + 1 => by
    show d.weight + 1 + PyData.weightAll (List.replicate k d) = _
    rw [weight_rep d k, Nat.succ_mul]
    omega
theorem stops_w (k : Nat) : PyData.weightAll ((stops k).map ddD) = k * 6 := by
  unfold stops
  rw [List.map_replicate, weight_rep]
  rfl
theorem stops_n (k : Nat) : (stops k).length = k := List.length_replicate
theorem stops_due {k : Nat} (h : k = 1000) : dueM (.str (S [97])) (.tuple ((stops k).map ddD)) = some .deeds := by
  rw [due_str, a_let, if_pos rfl]
  unfold bodyN
  dsimp only
  rw [List.length_map, stops_n, decide_eq_true (show 999 < k by omega), Bool.or_true, if_pos rfl]
theorem stops_okD {k : Nat} (h : k = 999) : DeedsOk [97] (stops k) := by
  refine ⟨fun e => ?_, by rw [stops_n]; omega, stops_ok _ _ k⟩
  have := congrArg List.length e
  rw [stops_n] at this
  have : k = 0 := this
  omega
theorem rep_S (l : List Nat) (n : Nat) : repS (S l) n = S (List.replicate n l).flatten := by
  refine TL.ext_tl ?_
  show ((List.replicate n (S l).cps).foldl (· ++ ·) #[]).toList = (List.replicate n l).flatten
  have h : ∀ (n : Nat) (acc : Array Nat), ((List.replicate n (S l).cps).foldl (· ++ ·) acc).toList = acc.toList ++ (List.replicate n l).flatten := by
    intro n
    induction n with
    | zero =>
      intro acc
      simp
    | succ n ih =>
      intro acc
      rw [List.replicate_succ, List.foldl_cons, ih, List.replicate_succ, List.flatten_cons, Array.toList_append, List.append_assoc]
  rw [h]
  rfl
theorem stops_str {k : Nat} : ("program a" : Str) ++ repS "\nstop" k = S (pageT [97] (stops k)) := by
  rw [show ("program a" : Str) = S (programL ++ [32] ++ [97]) by decide +kernel, show ("\nstop" : Str) = S ([10] ++ stopL) by decide +kernel, rep_S, SX.S_cat, stops_txt]
theorem stops_more (k : Nat) : pageT [97] (stops k) ++ ([10] ++ stopL) = pageT [97] (stops (k + 1)) := by
  rw [stops_txt, stops_txt, List.append_assoc]
  congr 1
  have h : ∀ k : Nat, (List.replicate k ([10] ++ stopL)).flatten ++ ([10] ++ stopL) = (List.replicate (k + 1) ([10] ++ stopL)).flatten := by
    intro k
    induction k with
    | zero => rfl
    | succ k ih =>
      rw [List.replicate_succ, List.flatten_cons, List.append_assoc, ih, ← List.flatten_cons, ← List.replicate_succ]
  exact h k
section
variable {P : Program} {w : World} {K : PySem.W.Frag} {mg : Str → Option Value} {base : Heap} {C0 CT CL : Addr}
theorem ok_law {f fD fW fP fG fM fK fX fR fQ fH fI fS fE fN fZ p0 : Addr} {fd fdD fdW fdP fdG fdM fdK fdX fdR fdQ fdH fdI fdS fdE fdN fdZ : FuncData} {mc : Value} (F : Fun K "law" "law" s_law f fd) (B : Blt mg) (R : PgC K C0) (T0 : EqT K mg C0) (kl : PySem.W.kitOne K (.ref C0) (.type "list") = some false)
    (MK : Mk K C0 fI) (bI : Binds K fdI ["self", "letters", "deeds"] []) (GI : FnOk P w K mg base (L2.CX P w) 6 fI fdI ["self", "letters", "deeds"] (spInitA K C0 CT))
    (rd : CRead K C0 mc) (cm : CMet K C0 mc "read" p0 fZ) (bZ : Binds K fdZ ["cls", "text"] []) (GZ : FnOk P w K mg base (L2.CX P w) 8 fZ fdZ ["cls", "text"] (spRead K C0 CL))
    (mS : Meth K C0 "__str__" fS) (bS : Binds K fdS ["self"] []) (GS : FnOk P w K mg base CX0 2 fS fdS ["self"] (spStr K C0))
    (mE : Meth K C0 "__eq__" fE) (bE : Binds K fdE ["self", "other"] []) (GE : FnOk P w K mg base CX0 3 fE fdE ["self", "other"] (spEqA K C0))
    (mN : Meth K C0 "__len__" fN) (bN : Binds K fdN ["self"] []) (GN : FnOk P w K mg base CX0 1 fN fdN ["self"] (spLen K C0))
    (FD : Fun K "_law_deck" "_law_deck" s__law_deck fD fdD) (gD : mg "_law_deck" = some (.ref fD)) (bD : Binds K fdD ["_law_script"] []) (GD : FnOk P w K mg base CX0 1 fD fdD ["_law_script"] (spDeck K))
    (FW : Fun K "_law_draw" "_law_draw" s__law_draw fW fdW) (gW : mg "_law_draw" = some (.ref fW)) (bW : Binds K fdW ["_law_deck_here", "_law_below"] []) (GW : FnOk P w K mg base CX0 1 fW fdW ["_law_deck_here", "_law_below"] spDraw)
    (FP : Fun K "_law_pick" "_law_pick" s__law_pick fP fdP) (gP : mg "_law_pick" = some (.ref fP)) (bP : Binds K fdP ["_law_deck_here", "_law_some"] []) (GP : FnOk P w K mg base CX0 2 fP fdP ["_law_deck_here", "_law_some"] spPick)
    (FG : Fun K "_law_program" "_law_program" s__law_program fG fdG) (gG : mg "_law_program" = some (.ref fG)) (bG : Binds K fdG ["_law_deck_here", "_law_letters_a", "_law_most"] []) (GG : FnOk P w K mg base CX0 3 fG fdG ["_law_deck_here", "_law_letters_a", "_law_most"] (spProg K))
    (FM : Fun K "_law_made" "_law_made" s__law_made fM fdM) (gM : mg "_law_made" = some (.ref fM)) (bM : Binds K fdM ["_law_letters_a", "_law_deeds_a", "_law_is_named"] []) (GM : FnG P w K mg base CX0 9 fM fdM ["_law_letters_a", "_law_deeds_a", "_law_is_named"] (spMade K C0))
    (FK : Fun K "_law_is_like" "_law_is_like" s__law_is_like fK fdK) (gK : mg "_law_is_like" = some (.ref fK)) (bK : Binds K fdK ["_law_it", "_law_letters_a", "_law_deeds_a"] []) (GK : FnG P w K mg base CX0 3 fK fdK ["_law_it", "_law_letters_a", "_law_deeds_a"] (spLike K C0))
    (FX : Fun K "_law_text" "_law_text" s__law_text fX fdX) (gX : mg "_law_text" = some (.ref fX)) (bX : Binds K fdX ["_law_letters_a", "_law_deeds_a"] []) (GX : FnOk P w K mg base CX0 1 fX fdX ["_law_letters_a", "_law_deeds_a"] (spText K))
    (FR : Fun K "_law_read_right" "_law_read_right" s__law_read_right fR fdR) (gR : mg "_law_read_right" = some (.ref fR)) (bR : Binds K fdR ["_law_deck_here", "_law_page"] []) (GR : FnG P w K mg base CX0 11 fR fdR ["_law_deck_here", "_law_page"] (spReadRight K))
    (FQ : Fun K "_law_bent_right" "_law_bent_right" s__law_bent_right fQ fdQ) (gQ : mg "_law_bent_right" = some (.ref fQ)) (bQ : Binds K fdQ ["_law_deck_here", "_law_it", "_law_letters_a", "_law_deeds_a"] []) (GQ : FnG P w K mg base CX0 11 fQ fdQ ["_law_deck_here", "_law_it", "_law_letters_a", "_law_deeds_a"] (spBentRight K C0))
    (FH : Fun K "_law_heard" "_law_heard" s__law_heard fH fdH) (gH : mg "_law_heard" = some (.ref fH)) (bH : Binds K fdH ["_law_page", "_law_is_named"] []) (GH : FnG P w K mg base CX0 10 fH fdH ["_law_page", "_law_is_named"] (spHeard K C0)) :
    FnG P w K mg base CX0 12 f fd ["_law_script"] (spLaw K) := by
  refine Mq.Fun.okG F sc_law (fun vs H Q E h => ?_) (fun cdv A outer s H vs Q E gA hr h => ?_)
  · obtain ⟨_, _, rfl, _⟩ := h
    rfl
  · obtain ⟨a, ns0, rfl, ha, hn0, q⟩ := h
    have gC := T0.gC
    have hr8 : Room 8 (A.deeper (envOfC "law" (defScope s_law) s.heap.objs.size f cdv)) := hr.mono (by decide)
    have hr7 : Room 7 (A.deeper (envOfC "law" (defScope s_law) s.heap.objs.size f cdv)) := hr.mono (by decide)
    have hr4 : Room 4 (A.deeper (envOfC "law" (defScope s_law) s.heap.objs.size f cdv)) := hr.mono (by decide)
    have hr3 : Room 3 (A.deeper (envOfC "law" (defScope s_law) s.heap.objs.size f cdv)) := hr.mono (by decide)
    have hr2 : Room 2 (A.deeper (envOfC "law" (defScope s_law) s.heap.objs.size f cdv)) := hr.mono (by decide)
    have hu : (A.deeper (envOfC "law" (defScope s_law) s.heap.objs.size f cdv)).units + 64 < cLine := by
      have := hr.un
      omega
    have hu0 : (A.deeper (envOfC "law" (defScope s_law) s.heap.objs.size f cdv)).units < cLine := by omega
    refine ⟨_, (pss_cons (ps_set (i := 1) sc_law.nd rfl (Or.inr rfl) (pe_call GD (hr.mono (by decide)) (by rfl) gD FD.kp bD .nil pass0 (pa_cons (pv 0) pa_nil)))
    (pss_cons (ps_for (passes_of rfl) rfl (pi_range1 (by rfl) B.range (pa_cons pe_int pa_nil)) (pg_name (i := 2) sc_law.nd rfl (Or.inl rfl))
      (pss_cons (ps_set (i := 3) sc_law.nd rfl (Or.inr rfl) (pe_call GP (hr.mono (by decide)) (by rfl) gP FP.kp bP .nil pass0 (pa_cons (pv 1) (pa_cons (Mq.pe_ls (pa_cons pe_str (pa_cons pe_str (pa_cons pe_str (pa_cons pe_str (pa_cons pe_str (pa_cons pe_str pa_nil))))))) pa_nil))))
      (pss_cons (ps_set (i := 4) sc_law.nd rfl (Or.inr rfl) (pe_call GG (hr.mono (by decide)) (by rfl) gG FG.kp bG .nil pass0 (pa_cons (pv 1) (pa_cons (pv 3) (pa_cons (PE_imp (t' := tTop) (pe_ifExp (pt_cmpR op_eq (pe_call GW (hr.mono (by decide)) (by rfl) gW FW.kp bW .nil pass0 (pa_cons (pv 1) (pa_cons pe_int pa_nil))) pe_int (nomark _)) pe_int pe_int) (fun σ H Q h => by
          obtain ⟨D, C, T, h1, hdk, hT, q⟩ := h
          refine ⟨_, h1, D, C, T, 9, rfl, hdk, by omega, by decide, by decide, fun H1 x hx dk1 off1 => ⟨rfl, _, rfl, ite2 (fun _ => ?_) (fun _ => ?_)⟩⟩
          · exact q H1 100 (by decide) (by decide) dk1 off1
          · exact q H1 6 (by decide) (by decide) dk1 off1)) pa_nil)))))
      (pss_cons (ps_set (i := 5) sc_law.nd rfl (Or.inr rfl) (pe_callG GM gA (hr.mono (by decide)) (by rfl) gM FM.kp bM pass0 (pa_cons (pv 3) (pa_cons (pv 4) (pa_cons pe_bl pa_nil)))))
      (pss_cons (ps_if (PW.pt (pw_or (pt_val (pe_callB call_isi (by rfl) B.isi (by decide +kernel) (pa_cons (pv 5) (pa_cons (pe_bltn (v := .ty "list") (by rfl) B.list (by decide +kernel) rfl) pa_nil)))) (pw_or (pt_not (pt_val (pe_callG GK gA (hr.mono (by decide)) (by rfl) gK FK.kp bK pass0 (pa_cons (pv 5) (pa_cons (pv 3) (pa_cons (pv 4) pa_nil)))))) (pw_or1 (pt_cmpR op_ne (pe_callTy (call_strO (E := fun _ _ _ => False) mS GS hr4 bS pass0) (by rfl) B.str (by decide +kernel) (pa_cons (pv 5) pa_nil)) (pe_call GX (hr.mono (by decide)) (by rfl) gX FX.kp bX .nil pass0 (pa_cons (pv 3) (pa_cons (pv 4) pa_nil))) (nomark _)))))) (pss_one ps_dead) pss_nil)
      (pss_cons (ps_if (pt_cmpR (op_neNil hu0) (pe_lc (own := [("_law_thing", 9)]) (g := gName 9) rfl sc_law.nd (pi_tup (pe_tup (pa_cons pe_non (pa_cons (pv 4) (pa_cons (pe_callTy (call_strO (E := fun _ _ _ => False) mS GS hr4 bS pass0) (by rfl) B.str (by decide +kernel) (pa_cons (pv 5) pa_nil)) (pa_cons (pv 3) (pa_cons pe_int pa_nil))))))) (blkOk_by (own := [("_law_thing", 9)]) (N := ["_law_script", "_law_deck_here", "_law_go", "_law_letters_a", "_law_deeds_a", "_law_it", "_law_every", "_law_wide", "_law_page", "_law_thing", "_law_k"]) (sc := defScope s_law) (by decide +kernel)) (fun _ _ _ _ _ => pg_name (i := 9) sc_law.nd rfl (Or.inl rfl)) (fun _ _ _ _ _ => pts_one (PT_imp (t' := tEqV K C0) (pt_cmpR (op_eqOV (E := fun _ _ _ => False) mE GE hr3 bE pass0) (pv 5) (pv 9) (nomark _)) (fun σ H Q h => by
          obtain ⟨x, v, dx, T1, sg, na, d, h5, h9, ii, kd, bb, q⟩ := h
          exact ⟨_, h5, _, h9, x, dx, _, T1, rfl, ii, kd, x, v, sg, na, d, rfl, bb, Or.inr ⟨T1, kd, _, rfl, _, rfl, q⟩⟩))) (fun _ _ _ _ _ => (pv 9))) (Mq.pe_ls pa_nil) (nomark _)) (pss_one ps_dead) pss_nil)
      (pss_cons (ps_if (PW.pt (pw_or (pt_not (pt_cmpR (op_eqO (E := fun _ _ _ => False) mE GE hr3 bE pass0) (pe_cmethS (n := 1) (ES := WE (fun _ _ _ _ => False)) (pe_glob (v := .ref C0) (by rfl) gC rfl) rd cm GZ hr8 bZ rfl (fun σ => passAt takes0 σ) (pa_cons (pe_callTy (call_strO (E := fun _ _ _ => False) mS GS hr4 bS pass0) (by rfl) B.str (by decide +kernel) (pa_cons (pv 5) pa_nil)) pa_nil)) (pv 5) (nomark _))) (pw_or1 (pt_not (pt_val (pe_callG GR gA (hr.mono (by decide)) (by rfl) gR FR.kp bR pass0 (pa_cons (pv 1) (pa_cons (pe_callTy (call_strO (E := fun _ _ _ => False) mS GS hr4 bS pass0) (by rfl) B.str (by decide +kernel) (pa_cons (pv 5) pa_nil)) pa_nil)))))))) (pss_one ps_dead) pss_nil)
      (pss_one (ps_if (pt_cmpR (op_neNil hu0) (pe_lc (own := [("_law_k", 10)]) (g := gName 10) rfl sc_law.nd (pi_range1 (by rfl) B.range (pa_cons pe_int pa_nil)) (blkOk_by (own := [("_law_k", 10)]) (N := ["_law_script", "_law_deck_here", "_law_go", "_law_letters_a", "_law_deeds_a", "_law_it", "_law_every", "_law_wide", "_law_page", "_law_thing", "_law_k"]) (sc := defScope s_law) (by decide +kernel)) (fun _ _ _ _ _ => pg_name (i := 10) sc_law.nd rfl (Or.inl rfl)) (fun _ _ _ _ _ => pts_one (PT_imp (t' := tBR K C0) (pt_not (pt_val (pe_callG GQ gA (hr.mono (by decide)) (by rfl) gQ FQ.kp bQ pass0 (pa_cons (pv 1) (pa_cons (pv 5) (pa_cons (pv 3) (pa_cons (pv 4) pa_nil))))))) (fun σ H Q h => by
          obtain ⟨D, C, r, na, T, sg, ns, h1, h5, h3, h4, hdk, hT, hpg, hdr, q⟩ := h
          exact ⟨_, h1, _, h5, _, h3, _, h4, D, C, r, na, T, sg, ns, rfl, hdk, hT, hpg, hdr, fun H1 dk1 off1 => ⟨_, rfl, q H1 dk1 off1⟩⟩))) (fun _ _ _ _ _ => (pv 10))) (Mq.pe_ls pa_nil) (nomark _)) (pss_one ps_dead) pss_nil)))))))))
    (pss_cons (ps_set (i := 6) sc_law.nd rfl (Or.inl rfl) pe_str)
    (pss_cons (ps_set (i := 7) sc_law.nd rfl (Or.inl rfl) (pe_makeS (m := 2) (ES := WE (fun _ _ _ _ => False)) MK GI hr7 (by rfl) gC bI rfl (fun σ => passAt takes0 σ) (pa_cons (pv 6) (pa_cons (pe_tup (pa_cons (pe_tup (pa_cons pe_str (pa_cons (pe_op op_catN (pe_tup (pa_cons pe_int pa_nil)) (pe_op op_repT (pe_tup (pa_cons pe_int pa_nil)) pe_int)) pa_nil))) (pa_cons (pe_tup (pa_cons pe_str (pa_cons pe_str (pa_cons pe_int pa_nil)))) pa_nil))) pa_nil))))
    (pss_cons (ps_if (PW.pt (pw_or (pt_cmpR op_ne (pe_callB (call_lenO (E := fun _ _ _ => False) mN GN hr2 bN pass0) (by rfl) B.len (by decide +kernel) (pa_cons (pv 7) pa_nil)) pe_int (nomark _)) (pw_or (pt_not (pt_cmpR (op_eqO (E := fun _ _ _ => False) mE GE hr3 bE pass0) (pe_cmethS (n := 1) (ES := WE (fun _ _ _ _ => False)) (pe_glob (v := .ref C0) (by rfl) gC rfl) rd cm GZ hr8 bZ rfl (fun σ => passAt takes0 σ) (pa_cons (pe_callTy (call_strO (E := fun _ _ _ => False) mS GS hr4 bS pass0) (by rfl) B.str (by decide +kernel) (pa_cons (pv 7) pa_nil)) pa_nil)) (pv 7) (nomark _))) (pw_or1 (pt_cmpR op_ne (pe_callTy (call_strO (E := fun _ _ _ => False) mS GS hr4 bS pass0) (by rfl) B.str (by decide +kernel) (pa_cons (pv 7) pa_nil)) (pe_call GX (hr.mono (by decide)) (by rfl) gX FX.kp bX .nil pass0 (pa_cons (pv 6) (pa_cons (pe_fld (pv 7) rfl) pa_nil))) (nomark _)))))) (pss_one ps_dead) pss_nil)
    (pss_cons (ps_if (pt_cmpR (op_neD hu) (pe_callG GM gA (hr.mono (by decide)) (by rfl) gM FM.kp bM pass0 (pa_cons pe_str (pa_cons (pe_op op_repT (pe_tup (pa_cons (pe_tup (pa_cons pe_str pa_nil)) pa_nil)) pe_int) (pa_cons pe_bl pa_nil)))) (Mq.pe_ls (pa_cons pe_str (pa_cons pe_str (pa_cons pe_bl pa_nil)))) (nomark _)) (pss_one ps_dead) pss_nil)
    (pss_cons (ps_set (i := 8) sc_law.nd rfl (Or.inl rfl) (pe_op op_add_str pe_str (pe_op op_mulS pe_str pe_int)))
    (pss_cons (ps_if (PW.pt (pw_or (pt_cmpR op_ne (pe_callB (call_lenO (E := fun _ _ _ => False) mN GN hr2 bN pass0) (by rfl) B.len (by decide +kernel) (pa_cons (pe_makeS (m := 2) (ES := WE (fun _ _ _ _ => False)) MK GI hr7 (by rfl) gC bI rfl (fun σ => passAt takes0 σ) (pa_cons pe_str (pa_cons (pe_op op_repT (pe_tup (pa_cons (pe_tup (pa_cons pe_str pa_nil)) pa_nil)) pe_int) pa_nil))) pa_nil)) pe_int (nomark _)) (pw_or1 (pt_cmpR op_ne (pe_callB (call_lenO (E := fun _ _ _ => False) mN GN hr2 bN pass0) (by rfl) B.len (by decide +kernel) (pa_cons (pe_cmethS (n := 1) (ES := WE (fun _ _ _ _ => False)) (pe_glob (v := .ref C0) (by rfl) gC rfl) rd cm GZ hr8 bZ rfl (fun σ => passAt takes0 σ) (pa_cons (pv 8) pa_nil)) pa_nil)) pe_int (nomark _))))) (pss_one ps_dead) pss_nil)
    (pss_cons (ps_if (pt_cmpR (op_neD hu) (pe_callG GH gA (hr.mono (by decide)) (by rfl) gH FH.kp bH pass0 (pa_cons (pe_op op_add_str (pv 8) pe_str) (pa_cons pe_bl pa_nil))) (Mq.pe_ls (pa_cons pe_str (pa_cons pe_int (pa_cons pe_bl pa_nil)))) (nomark _)) (pss_one ps_dead) pss_nil)
    (pss_one (ps_ret (pe_cmpR op_eq (pe_callTy (call_strO (E := fun _ _ _ => False) mS GS hr4 bS pass0) (by rfl) B.str (by decide +kernel) (pa_cons (pe_makeS (m := 2) (ES := WE (fun _ _ _ _ => False)) MK GI hr7 (by rfl) gC bI rfl (fun σ => passAt takes0 σ) (pa_cons pe_str (pa_cons (pe_tup (pa_cons (pe_tup (pa_cons pe_str (pa_cons pe_str (pa_cons pe_int pa_nil)))) pa_nil)) pa_nil))) pa_nil)) pe_str (nomark _))))))))))))), ?_⟩
    refine ⟨_, rfl, a, ns0, rfl, ha, hn0, fun H1 D Cc s1 dk1 => ?_⟩
    refine ⟨3, rfl, by decide, by decide, ?_⟩
    refine for_it (walk_rng (n := 3)) (fun go σ H' => DeckAt D Cc (3400 * go) H' ∧ ∃ o2 o3 o4 o5, σ = [some (.ref a), some (.ref D), o2, o3, o4, o5, none, none, none, none, none]) ⟨dk1, _, _, _, _, rfl⟩ (fun _ _ _ _ _ => trivial) ?_ ?_
    · rintro go x0 σ H2x H2 hgo ⟨dk2, o2, o3, o4, o5, rfl⟩ ⟨rfl, rfl⟩
      refine ⟨_, rfl, sz_le (n := 6) (by decide), fun p hp _ => ?_⟩
      rw [menu_is]
      have t3 := same_new (o := HO.lst (txs menu6)) hp
      obtain ⟨pD, pC⟩ := new_ne dk2 hp
      refine ⟨D, Cc, 3400 * go, .ref p, rfl, dk2.same t3, by omega, Or.inr ⟨p, _, rfl, upd_same, pC, by decide, by decide, fun H3 v hv dk3 off3 => ?_⟩⟩
      obtain ⟨sg, hsg, rfl⟩ := List.mem_map.mp hv
      obtain ⟨hlet, h3⟩ := menu_ok sg hsg
      refine ⟨_, rfl, _, rfl, D, Cc, _, rfl, dk3, by omega, fun H4 top ht0 ht1 dk4 off4 => ?_⟩
      refine ⟨D, Cc, _, top, sg, rfl, dk4, by omega, sg_ok hlet, ht0, ht1, fun H5 na ns hna hok hfl dk5 off5 => ?_⟩
      have dr : Drw K H5 sg ns na := ⟨⟨hna, hok, hlet⟩, h3, Nat.le_trans hfl ht1⟩
      clear hna hfl off3 off4 off5 dk3 dk4 t3 hp hv
      have hfew := dr.few
      have hsum := dr.sum.1
      have okF := dr.okF
      have hwF : (PyData.tuple (ns.map ddD)).weight ≤ 3900 := okF.gs.we
      have hwS : (PyData.str (S sg)).weight ≤ 80000 := by
        have h9 : (PyData.str (S sg)).weight ≤ 3 := (okD_str (w := 3) (sg_ok hlet).low h3).gs.we
        omega
      refine ⟨_, rfl, _, rfl, .str (S sg), .ref na, _, _, false, rfl, .str _, dr.pts.tn.dg, hwS, by omega, ?_⟩
      rw [dr.pts.due]
      intro H6 r sg6 na6 s6 ex ey b6
      have es := SX.S_inj (V.str.inj ex)
      subst es
      cases ey
      have dr := dr.same s6
      have dk6 := dk5.same s6
      have b6' := b6
      obtain ⟨dx, i6⟩ := b6'
      refine ⟨_, rfl, _, .ty "list", _, _, false, rfl, .ty _, T0.ty _ _ _ _ i6, kl, false, rfl, ifF rfl ?_⟩
      obtain ⟨xs, hz, hall⟩ := dr.pts.at_
      have hxl := hall.len
      refine ⟨_, rfl, _, rfl, _, rfl, r, na, sg, xs, _, 3900, 3, rfl, b6, (sg_ok hlet).low, by omega, hz, by omega, dr.pts.tn.dg, okF, by decide, by decide, fun H7 s7 => ⟨_, rfl, ifF rfl ?_⟩⟩
      have dr := dr.same s7
      have b7 := b6.same s7
      have i7 := s7 _ _ i6
      have dk7 := dk6.same s7
      have stR : ∀ {H' : Hp} {Q' : VK}, Drw K H' sg ns na → PgAt H' C0 r sg na → (∀ H'', Same H' H'' → Q' (.str (S (pageT sg ns))) H'') → spStr K C0 [.ref r] H' Q' (fun _ _ _ => False) := fun d b q => ⟨r, na, sg, ns, rfl, b, d.pts.at_, d.pts.sz, by omega, by omega, by omega, q⟩
      refine ⟨_, rfl, r, dx, _, rfl, i7, stR dr b7 fun H8 s8 => ⟨_, rfl, ?_⟩⟩
      have dr := dr.same s8
      refine ⟨_, rfl, _, rfl, na, sg, ns, rfl, dr.pts.at_, dr.pts.sz, by omega, by omega, by omega, fun H9 s9 => ⟨rfl, _, rfl, ifF (by rw [decide_eq_true rfl]; rfl) ?_⟩⟩
      have dr := dr.same s9
      have s79 := Same.trans s8 s9
      have b9 := b7.same s79
      have i9 := s79 _ _ i7
      have dk9 := dk7.same s79
      clear b6 b7 i6 i7 dk6 dk7 s6 s7 s8 s9 s79 hz hall hxl xs
      refine ⟨_, rfl, _, rfl, r, dx, _, rfl, i9, stR dr b9 fun H10 s10 => ⟨_, rfl, _, rfl, sz_le (n := 5) (by decide), fun p5 hp5 => ?_⟩⟩
      have t11 := same_new (o := HO.tup [V.non, V.ref na, .str (S (pageT sg ns)), .str (S sg), .int 0]) hp5
      have z11 : SqT K (upd H10 p5 (.tup [V.non, V.ref na, .str (S (pageT sg ns)), .str (S sg), .int 0])) p5 [V.non, V.ref na, .str (S (pageT sg ns)), .str (S sg), .int 0] := Or.inl (Or.inl upd_same)
      have s911 := s10.trans t11
      have dr := dr.same s911
      have b11 := b9.same s911
      have i11 := s911 _ _ i9
      have dk11 := dk9.same s911
      have kinds : ∀ v ∈ [V.non, V.ref na, .str (S (pageT sg ns)), .str (S sg), .int 0], ∃ T, KindV K (upd H10 p5 (.tup [V.non, V.ref na, .str (S (pageT sg ns)), .str (S sg), .int 0])) v T := by
        intro v hv
        simp only [List.mem_cons, List.not_mem_nil, or_false] at hv
        rcases hv with rfl | rfl | rfl | rfl | rfl
        · exact ⟨_, .non⟩
        · obtain ⟨vs, hz, _⟩ := dr.pts.at_
          exact ⟨_, .tup hz⟩
        · exact ⟨_, .str _⟩
        · exact ⟨_, .str _⟩
        · exact ⟨_, .int _⟩
      generalize upd H10 p5 (.tup [V.non, V.ref na, .str (S (pageT sg ns)), .str (S sg), .int 0]) = H11 at z11 dr b11 i11 dk11 kinds ⊢
      generalize [V.non, V.ref na, .str (S (pageT sg ns)), .str (S sg), .int 0] = its at z11 kinds ⊢
      have g11 := dr.pts.pg b11
      refine ⟨p5, rfl, ⟨_, z11⟩, fun L hL => ?_⟩
      refine lc_it (walk_tup (K := K) (a := p5) (xs := its)) (fun i H' => Same H11 H' ∧ H' L = some (.lst [])) ⟨same_new hL, upd_same⟩ (fun i H' _ p => Same.tup p.1 z11) ?_ ?_
      · rintro i v H4x H4 hi ⟨s4, zD⟩ ⟨rfl, hv⟩
        obtain ⟨T1, kd⟩ := kinds v (List.mem_of_getElem? hv)
        exact ⟨rfl, r, v, dx, T1, sg, na, _, rfl, rfl, s4 _ _ i11, kd.same s4, g11.same s4, ifF rfl ⟨s4, zD⟩⟩
      rintro H12 ⟨s12, zD⟩
      refine ⟨sz_le (n := 0) (by decide), fun pz hpz _ => ?_⟩
      have t0 := same_new (o := HO.lst []) hpz
      refine ⟨L, pz, [], rfl, rfl, SqL.of (t0 _ _ zD), SqL.of upd_same, _, rfl, ifF rfl ?_⟩
      have s13 := s12.trans t0
      have dr := dr.same s13
      have b13 := b11.same s13
      have i13 := s13 _ _ i11
      have dk13 := dk11.same s13
      generalize upd H12 pz (.lst []) = H13 at dr b13 i13 dk13 ⊢
      clear kinds z11 g11 b9 i9 dk9 b11 i11 dk11 t0 s12 s13 s10 s911 hp5 t11 its p5
      have htx := dr.tx
      have pth := page_there hlet dr.pts.ok
      have hgo3 : go ≤ 2 := by omega
      refine ⟨rfl, _, rfl, r, dx, _, rfl, i13, stR dr b13 fun H14 s14 => ⟨_, rfl, rfl, _, rfl, Or.inr ⟨pageT sg ns, rfl, by have := htx.len; omega, htx.low, fun l hl => by have := htx.lns l hl; omega, by have := htx.nl; omega, wt_ok (htx.mono (by decide) (by decide) (by decide)), ?_⟩⟩⟩
      rw [pth]
      intro H15 r2 nb s15 b2 d2
      have s1315 := s14.trans s15
      have dr := dr.same s1315
      have b15 := b13.same s1315
      have i15 := s1315 _ _ i13
      have dk15 := dk13.same s1315
      have p2 : Pts K H15 sg ns nb := ⟨d2, dr.pts.ok, hlet⟩
      have g2 := p2.pg b2
      have g1 := dr.pts.pg b15
      obtain ⟨dx2, i2⟩ := b2
      refine ⟨_, rfl, r2, r, dx2, dx, _, _, rfl, rfl, i2, i15, r2, .ref r, sg, nb, _, rfl, g2, Or.inl ⟨r, sg, na, _, rfl, g1, fun H16 s16 => ⟨_, rfl, _, rfl, ?_⟩⟩⟩
      rw [eqv_refl dr.pts.cd, decide_eq_true rfl]
      refine ifF rfl ?_
      have dr := dr.same s16
      have b16 := b15.same s16
      have i16 := s16 _ _ i15
      have dk16 := dk15.same s16
      clear g1 g2 p2 d2 i2 b13 i13 dk13 b15 i15 dk15 s14 s15 s1315
      refine ⟨_, rfl, _, rfl, r, dx, _, rfl, i16, stR dr b16 fun H17 s17 => ⟨_, rfl, D, Cc, _, pageT sg ns, rfl, dk16.same s17, by omega, htx, fun H18 dk18 off18 => ⟨_, rfl, ifF rfl ?_⟩⟩⟩
      have dr := (dr.same s17).kp (KpT.off off18 (dk16.same s17))
      have b18 : PgAt H18 C0 r sg na := ⟨dx, off18.at (dk16.same s17) (s17 _ _ i16) ⟨(fun _ z => nomatch z), (fun _ z => nomatch z)⟩⟩
      refine ⟨4, rfl, by decide, by decide, fun L hL => ?_⟩
      obtain ⟨LD, LC⟩ := new_ne dk18 hL
      have t19 := same_new (o := HO.lst []) hL
      refine lc_it (walk_rng (n := 4)) (fun i H' => DeckAt D Cc (3400 * go + 3022 + 70 * i) H' ∧ Drw K H' sg ns na ∧ PgAt H' C0 r sg na ∧ H' L = some (.lst [])) ⟨(dk18.same t19).mono (by omega), dr.same t19, b18.same t19, upd_same⟩ (fun _ _ _ _ => trivial) ?_ ?_
      · rintro i x H4x H4 hi ⟨dk4, dr4, b4, zL⟩ ⟨rfl, rfl⟩
        refine ⟨rfl, D, Cc, r, na, _, sg, ns, rfl, rfl, rfl, rfl, dk4, by omega, b4, dr4, fun H' dk' off' => ifF rfl ⟨dk'.mono (by omega), dr4.kp (KpT.off off' dk4), ?_, off' L _ LD LC zL⟩⟩
        obtain ⟨dx4, i4⟩ := b4
        exact ⟨dx4, off'.at dk4 i4 ⟨(fun _ z => nomatch z), (fun _ z => nomatch z)⟩⟩
      · rintro H19 ⟨dk19, dr19, b19, zL⟩
        refine ⟨sz_le (n := 0) (by decide), fun pz hpz _ => ?_⟩
        have t0 := same_new (o := HO.lst []) hpz
        refine ⟨L, pz, [], rfl, rfl, SqL.of (t0 _ _ zL), SqL.of upd_same, _, rfl, ifF rfl ?_⟩
        exact ⟨(dk19.same t0).mono (by omega), _, _, _, _, rfl⟩
    · rintro σ H2 ⟨dk2, o2, o3, o4, o5, rfl⟩
      clear dk2
      rw [alpha_is]
      -- by hand: all letters
      refine ⟨_, rfl, sz_le (n := 1) (by decide), fun q1 hq1 => ?_⟩
      have z1 : SqT K (upd H2 q1 (.tup [V.int 1])) q1 [V.int 1] := Or.inl (Or.inl upd_same)
      generalize upd H2 q1 (.tup [V.int 1]) = G1 at z1 ⊢
      refine ⟨sz_le (n := 1) (by decide), fun q2 hq2 => ?_⟩
      have t2 := same_new (o := HO.tup [V.int 0]) hq2
      have z2 : SqT K (upd G1 q2 (.tup [V.int 0])) q2 [V.int 0] := Or.inl (Or.inl upd_same)
      have z1 := Same.tup t2 z1
      generalize upd G1 q2 (.tup [V.int 0]) = G2 at z1 z2 ⊢
      refine ⟨q2, 26, [V.int 0], rfl, rfl, z2, by simp, by decide, by decide, by decide, fun q3 hq3 => ?_⟩
      have t3 := same_new (o := HO.tup (List.replicate (26 : Int).toNat [V.int 0]).flatten) hq3
      have z3 : SqT K (upd G2 q3 (.tup (List.replicate (26 : Int).toNat [V.int 0]).flatten)) q3 (List.replicate (26 : Int).toNat [V.int 0]).flatten := Or.inl (Or.inl upd_same)
      have z1 := Same.tup t3 z1
      generalize upd G2 q3 (.tup (List.replicate (26 : Int).toNat [V.int 0]).flatten) = G3 at z1 z3 ⊢
      refine ⟨q1, q3, _, _, rfl, rfl, z1, z3, sz_le (n := 27) (by decide), fun q4 G4 t4 z4 => ?_⟩
      have z4 : SqT K G4 q4 (intsV (1 :: List.replicate 26 0)) := z4
      refine ⟨sz_le (n := 2) (by decide), fun q5 hq5 => ?_⟩
      have t5 := same_new (o := HO.tup [V.str "look", V.ref q4]) hq5
      have z5 : SqT K (upd G4 q5 (.tup [V.str "look", V.ref q4])) q5 [V.str "look", V.ref q4] := Or.inl (Or.inl upd_same)
      have z4 := Same.tup t5 z4
      generalize upd G4 q5 (.tup [V.str "look", V.ref q4]) = G5 at z4 z5 ⊢
      refine ⟨sz_le (n := 3) (by decide), fun q6 hq6 => ?_⟩
      rw [show ("q" : Str) = S [113] by decide +kernel]
      have t6 := same_new (o := HO.tup [V.str "lay", V.str (S [113]), V.int 0]) hq6
      have z6 : SqT K (upd G5 q6 (.tup [V.str "lay", V.str (S [113]), V.int 0])) q6 [V.str "lay", V.str (S [113]), V.int ((0 : Nat) : Int)] := Or.inl (Or.inl upd_same)
      have z4 := Same.tup t6 z4
      have z5 := Same.tup t6 z5
      generalize upd G5 q6 (.tup [V.str "lay", V.str (S [113]), V.int 0]) = G6 at z4 z5 z6 ⊢
      refine ⟨sz_le (n := 2) (by decide), fun q7 hq7 => ?_⟩
      have t7 := same_new (o := HO.tup [V.ref q5, V.ref q6]) hq7
      have z7 : SqT K (upd G6 q7 (.tup [V.ref q5, V.ref q6])) q7 [V.ref q5, V.ref q6] := Or.inl (Or.inl upd_same)
      have ptw : Pts K (upd G6 q7 (.tup [V.ref q5, V.ref q6])) alpha wideN q7 := ⟨⟨_, z7, .cons ⟨q5, q4, rfl, Same.tup t7 z5, Same.tup t7 z4⟩ (.cons ⟨q6, rfl, Same.tup t7 z6⟩ .nil)⟩, wide_ok, alpha_let⟩
      generalize upd G6 q7 (.tup [V.ref q5, V.ref q6]) = G7 at z7 ptw ⊢
      refine ⟨rfl, fun x dx hx hdx hne => ?_⟩
      refine mk_any ptw.tn.dg (by decide) (Nat.le_trans ptw.okF.gs.we (by decide)) ptw.due hx hdx hne fun H3 s3 b3 => ⟨rfl, ?_⟩
      have ptw := ptw.same s3
      have z7 := Same.tup s3 z7
      have b3' := b3
      obtain ⟨dx3, i3⟩ := b3'
      clear z1 z2 z3 z4 z5 z6 t2 t3 t4 t5 t6 t7
      have tw : Tx 300 100 5 (pageT alpha wideN) := tx_of (by decide +kernel)
      have hws : sumL (wideN.map deedT) ≤ 50000 := by decide +kernel
      have stW : ∀ {H' : Hp} {Q' : VK}, Pts K H' alpha wideN q7 → PgAt H' C0 x alpha q7 → (∀ H'', Same H' H'' → Q' (.str (S (pageT alpha wideN))) H'') → spStr K C0 [.ref x] H' Q' (fun _ _ _ => False) := fun d b q => ⟨x, q7, alpha, wideN, rfl, b, d.at_, d.sz, by decide, hws, by decide, q⟩
      refine ⟨_, rfl, x, dx3, _, rfl, i3, ⟨x, q7, alpha, _, rfl, b3, z7, _, rfl, (by show 2 ≤ _; decide), rfl, _, rfl, ifF (by show (!decide (V.int ((2 : Nat) : Int) = V.int 2)) = false; rw [dec_int]; rfl) ?_⟩⟩
      refine ⟨rfl, _, rfl, x, dx3, _, rfl, i3, stW ptw b3 fun H4 s4 => ⟨_, rfl, rfl, _, rfl, Or.inr ⟨pageT alpha wideN, rfl, by have := tw.len; omega, tw.low, fun l hl => by have := tw.lns l hl; omega, by have := tw.nl; omega, wt_ok (tw.mono (by decide) (by decide) (by decide)), ?_⟩⟩⟩
      rw [page_there alpha_let wide_ok]
      intro H5 r2 nb s5 b5 d5
      have s35 := s4.trans s5
      have ptw := ptw.same s35
      have b3 := b3.same s35
      have i3 := s35 _ _ i3
      have p5 : Pts K H5 alpha wideN nb := ⟨d5, wide_ok, alpha_let⟩
      have g5 := p5.pg b5
      have g3 := ptw.pg b3
      obtain ⟨dx5, i5⟩ := b5
      refine ⟨_, rfl, r2, x, dx5, dx3, _, _, rfl, rfl, i5, i3, r2, .ref x, alpha, nb, _, rfl, g5, Or.inl ⟨x, alpha, q7, _, rfl, g3, fun H6 s6 => ⟨_, rfl, _, rfl, ?_⟩⟩⟩
      rw [eqv_refl ptw.cd, decide_eq_true rfl]
      have ptw := ptw.same s6
      have b3 := b3.same s6
      have i3 := s6 _ _ i3
      refine ifF rfl ⟨_, rfl, x, dx3, _, rfl, i3, stW ptw b3 fun H7 s7 => ⟨_, rfl, ?_⟩⟩
      have ptw := ptw.same s7
      have i3 := s7 _ _ i3
      refine ⟨_, rfl, _, rfl, x, C0, dx3, _, _, rfl, i3, R.cls, R.nN, rfl, q7, alpha, wideN, rfl, ptw.at_, ptw.sz, by decide, hws, by decide, fun H8 s8 => ⟨rfl, _, rfl, ifF (by rw [decide_eq_true rfl]; rfl) ?_⟩⟩
      clear stW ptw b3 i3 g5 g3 p5 d5 i5 z7 s7 s6 s35 s4 s5 s3 hws tw
      -- by hand: a thousand places
      obtain ⟨k, hk⟩ : ∃ k : Nat, k = 1000 := ⟨_, rfl⟩
      refine ⟨sz_le (n := 1) (by decide), fun u1 hu1 => ?_⟩
      have y1 : SqT K (upd H8 u1 (.tup [V.str "stop"])) u1 [V.str "stop"] := Or.inl (Or.inl upd_same)
      generalize upd H8 u1 (.tup [V.str "stop"]) = J1 at y1 ⊢
      refine ⟨sz_le (n := 1) (by decide), fun u2 hu2 => ?_⟩
      have t2 := same_new (o := HO.tup [V.ref u1]) hu2
      have y2 : SqT K (upd J1 u2 (.tup [V.ref u1])) u2 [V.ref u1] := Or.inl (Or.inl upd_same)
      have y1 := Same.tup t2 y1
      generalize upd J1 u2 (.tup [V.ref u1]) = J2 at y1 y2 ⊢
      refine ⟨u2, 1000, [V.ref u1], rfl, rfl, y2, by simp, by decide, by decide, (by show 1 ≤ 1000; decide), fun u3 hu3 => ?_⟩
      have ek : (List.replicate (1000 : Int).toNat [V.ref u1]).flatten = List.replicate k (V.ref u1) := by
        rw [hk]
        exact List.flatten_replicate_singleton
      rw [ek]
      have t3 := same_new (o := HO.tup (List.replicate k (V.ref u1))) hu3
      have y3 : SqT K (upd J2 u3 (.tup (List.replicate k (V.ref u1)))) u3 (List.replicate k (V.ref u1)) := Or.inl (Or.inl upd_same)
      have y1 := Same.tup t3 y1
      generalize upd J2 u3 (.tup (List.replicate k (V.ref u1))) = J3 at y1 y3 ⊢
      have dg3 : Dg K J3 (.ref u3) (.tuple ((stops k).map ddD)) := .tup y3 (dds_dg (dd_rep (n := .stop) ⟨u1, rfl, y1⟩ k))
      rw [show ("a" : Str) = S [97] by decide +kernel]
      refine ⟨.str (S [97]), .ref u3, .str (S [97]), .tuple ((stops k).map ddD), false, rfl, .str _, dg3, by decide, by show PyData.weightAll _ ≤ _; rw [stops_w]; omega, ?_⟩
      rw [stops_due hk]
      intro J4 pp sp np zp
      refine ⟨sz_le (n := 3) (by decide), fun pb hpb hnb => ?_⟩
      have t5 := same_new (o := HO.lst [V.str "bad", V.str "deeds", V.bl true]) hpb
      have zp := t5 _ _ zp
      refine ⟨.list [.str "bad", .str "deeds", .bool true], .list [.str "bad", .str "deeds", .bool true], .lst (SqL.of zp) (.cons (.str _) (.cons (.str _) (.cons (.bl _) .nil))), .lst (SqL.of upd_same) (.cons (.str _) (.cons (.str _) (.cons (.bl _) .nil))), by decide +kernel, by decide +kernel, _, rfl, ifF (by decide +kernel) ?_⟩
      generalize upd J4 pb (.lst [V.str "bad", V.str "deeds", V.bl true]) = K1
      clear zp t5 sp dg3 y1 y2 y3 t2 t3 ek hk k
      -- by hand: as many places as may be
      obtain ⟨k, hk⟩ : ∃ k : Nat, k = 999 := ⟨_, rfl⟩
      have hrl : (repS "\nstop" k).length = 5 * k := by
        have h1 := stops_len k
        have h2 : ("program a" ++ repS "\nstop" k : Str).length = 9 + 5 * k := by rw [stops_str, SX.S_len, h1]
        rw [strLen_append] at h2
        have h3 : ("program a" : Str).length = 9 := by decide +kernel
        omega
      refine ⟨"\nstop", k, rfl, (by rw [hk]; rfl), by omega, by omega, by decide +kernel, by decide +kernel, sz_le (by omega), ?_⟩
      refine ⟨"program a", repS "\nstop" k, rfl, rfl, sz_le (by rw [hrl, show ("program a" : Str).length = 9 by decide +kernel]; omega), ?_⟩
      rw [stops_str]
      obtain ⟨lo9, ln9, nl9⟩ := stops_facts k
      have le9 := stops_len k
      have ok9 := stops_okD hk
      have pm9 := page_there a_let ok9
      refine ⟨sz_le (n := 1) (by decide), fun u1 hu1 => ?_⟩
      have y1 : SqT K (upd K1 u1 (.tup [V.str "stop"])) u1 [V.str "stop"] := Or.inl (Or.inl upd_same)
      generalize upd K1 u1 (.tup [V.str "stop"]) = J1 at y1 ⊢
      refine ⟨sz_le (n := 1) (by decide), fun u2 hu2 => ?_⟩
      have t2 := same_new (o := HO.tup [V.ref u1]) hu2
      have y2 : SqT K (upd J1 u2 (.tup [V.ref u1])) u2 [V.ref u1] := Or.inl (Or.inl upd_same)
      have y1 := Same.tup t2 y1
      generalize upd J1 u2 (.tup [V.ref u1]) = J2 at y1 y2 ⊢
      refine ⟨u2, 999, [V.ref u1], rfl, rfl, y2, by simp, by decide, by decide, (by show 1 ≤ 1000; decide), fun u3 hu3 => ?_⟩
      have ek : (List.replicate (999 : Int).toNat [V.ref u1]).flatten = List.replicate k (V.ref u1) := by
        rw [hk]
        exact List.flatten_replicate_singleton
      rw [ek]
      have t3 := same_new (o := HO.tup (List.replicate k (V.ref u1))) hu3
      have y3 : SqT K (upd J2 u3 (.tup (List.replicate k (V.ref u1)))) u3 (List.replicate k (V.ref u1)) := Or.inl (Or.inl upd_same)
      have y1 := Same.tup t3 y1
      generalize upd J2 u3 (.tup (List.replicate k (V.ref u1))) = J3 at y1 y3 ⊢
      have dg3 : Dg K J3 (.ref u3) (.tuple ((stops k).map ddD)) := .tup y3 (dds_dg (dd_rep (n := .stop) ⟨u1, rfl, y1⟩ k))
      refine ⟨rfl, fun x2 dx2 hx2 hdx2 hne2 => ?_⟩
      try rw [show ("a" : Str) = S [97] by decide +kernel]
      refine mk_any dg3 (by decide) (by show PyData.weightAll _ ≤ _; rw [stops_w]; omega) (due_right a_let ok9) hx2 hdx2 hne2 fun J4 s4 b4 => ⟨rfl, ?_⟩
      have b4' := b4
      obtain ⟨dx4, i4⟩ := b4'
      refine ⟨x2, dx4, _, rfl, i4, ⟨x2, u3, [97], _, rfl, b4, Same.tup s4 y3, _, rfl, (by rw [List.length_replicate]; show k ≤ 1000000; omega), rfl, _, rfl, ifF (by rw [List.length_replicate, dec_int, hk]; rfl) ?_⟩⟩
      have wt9 : ∀ sg ns, pageM (pageT [97] (stops k)) = .inl (sg, ns) → PyData.weightAll (ns.map ddD) ≤ 80000 := by
        intro sg ns e
        rw [pm9] at e
        cases e
        rw [stops_w]
        omega
      refine ⟨rfl, _, rfl, rfl, _, rfl, Or.inr ⟨pageT [97] (stops k), rfl, by omega, lo9, ln9, by omega, wt9, ?_⟩⟩
      rw [pm9]
      intro J5 r5 n5 s5 b5 d5
      obtain ⟨vs5, hz5, ha5⟩ := d5
      have hl5 := ha5.len
      rw [stops_n] at hl5
      have b5' := b5
      obtain ⟨dx5, i5⟩ := b5'
      refine ⟨r5, dx5, _, rfl, i5, ⟨r5, n5, [97], vs5, rfl, b5, hz5, _, rfl, (by rw [hl5]; show k ≤ 1000000; omega), rfl, _, rfl, ifF (by rw [hl5, dec_int, hk]; rfl) ?_⟩⟩
      have n1 : ("\nstop" : Str) = S ([10] ++ stopL) := by decide +kernel
      refine ⟨_, rfl, S (pageT [97] (stops k)), "\nstop", rfl, rfl, sz_le (by rw [SX.S_len, le9, show ("\nstop" : Str).length = 5 by decide +kernel]; omega), ?_⟩
      rw [n1, SX.S_cat, stops_more]
      obtain ⟨lo1, ln1, nl1⟩ := stops_facts (k + 1)
      have le1 := stops_len (k + 1)
      have pm1 := stops_over (k := k + 1) (by omega)
      refine ⟨_, false, rfl, Or.inr ⟨pageT [97] (stops (k + 1)), rfl, by omega, lo1, ln1, by omega, (fun sg ns e => by rw [pm1] at e; cases e), ?_⟩⟩
      rw [pm1]
      intro J6 p6 s6 n6 z6
      refine ⟨sz_le (n := 3) (by decide), fun pb hpb hnb => ?_⟩
      have t7 := same_new (o := HO.lst [V.str "bad", V.int 1001, V.bl true]) hpb
      refine ⟨badD 1001, badD 1001, bad_dp (t7 _ _ z6), bad_dp upd_same, shaped_bad _, shaped_bad _, _, rfl, ?_⟩
      rw [eqv_bad]
      refine ifF rfl ?_
      generalize upd J6 pb (.lst [V.str "bad", V.int 1001, V.bl true]) = K2
      clear t7 z6 n6 s6 hpb hnb pb wt9 ek
      -- by hand: one place
      refine ⟨sz_le (n := 3) (by decide), fun v1 hv1 => ?_⟩
      rw [show ("z" : Str) = S [122] by decide +kernel]
      have w1 : SqT K (upd K2 v1 (.tup [V.str "lay", V.str (S [122]), V.int 0])) v1 [V.str "lay", V.str (S [122]), V.int ((0 : Nat) : Int)] := Or.inl (Or.inl upd_same)
      generalize upd K2 v1 (.tup [V.str "lay", V.str (S [122]), V.int 0]) = M1 at w1 ⊢
      refine ⟨sz_le (n := 1) (by decide), fun v2 hv2 => ?_⟩
      have t8 := same_new (o := HO.tup [V.ref v1]) hv2
      have okz : DeedsOk [122] [.lay 122 0] := ⟨by simp, by decide, fun n hn => by rw [List.mem_singleton.mp hn]; exact ⟨by decide, by decide⟩⟩
      have lz : lettersB [122] = true := by decide +kernel
      have ptz : Pts K (upd M1 v2 (.tup [V.ref v1])) [122] [.lay 122 0] v2 := ⟨⟨_, Or.inl (Or.inl upd_same), .cons ⟨v1, rfl, Same.tup t8 w1⟩ .nil⟩, okz, lz⟩
      generalize upd M1 v2 (.tup [V.ref v1]) = M2 at ptz ⊢
      refine ⟨rfl, fun x3 dx3 hx3 hdx3 hne3 => ?_⟩
      try rw [show ("z" : Str) = S [122] by decide +kernel]
      refine mk_any ptz.tn.dg (by decide) (Nat.le_trans ptz.okF.gs.we (by decide)) ptz.due hx3 hdx3 hne3 fun M3 s9 b9 => ⟨rfl, ?_⟩
      have ptz := ptz.same s9
      have b9' := b9
      obtain ⟨dx9, i9⟩ := b9'
      refine ⟨x3, dx9, _, rfl, i9, ⟨x3, v2, [122], [.lay 122 0], rfl, b9, ptz.at_, ptz.sz, by decide, by decide +kernel, by decide, fun M4 s10 => ⟨_, rfl, rfl, ?_⟩⟩⟩
      rw [show decide (V.str (S (pageT [122] [.lay 122 0])) = V.str "program z\nlay z 0") = true by decide +kernel]
      exact q _
end
end Lw

namespace Mq
open PySem PySem.Spec PyProof.Rows L2
/-! ### properties among the head's facts; whole numbers and kinds at the top -/
/-- where the getter of the property m of the class x stands -/
def pgA (K : PySem.W.Frag) (x m : Str) : Addr :=
  match PySem.W.recIn K (He.ma K (He.ga K x) m) "property" with
  | some (.ref g :: _) => g
  | _ => 0
def fnRd (K : PySem.W.Frag) (f : Addr) : He.FnV :=
  match K.lookup f with
  | some ⟨_, _, .func fd, _⟩ => some (fd.name, fd.qualname, fd.params, fd.body, fd.scope, fd.globals, fd.closure, fd.defaults, fd.builtins)
  | _ => none
def prObs (K : PySem.W.Frag) (p : Str × Option Str) : He.FnV :=
  match p.2 with
  | some m => fnRd K (pgA K p.1 m)
  | none => none
theorem fnRd_ok {K : PySem.W.Frag} {f : Addr} {nm q : Str} {a : Arguments} {b : List Stmt} {s : Scope} (h : fnRd K f = some (nm, q, a, FuncBody.stmts b, s, mainGlobals, [], Value.none, builtinsNs)) :
    ∃ (oc : Value) (od : Option Addr) (osl : Array (Option Value)) (kV doc pm : Value) (an : Option Addr) (cdv ct : Value), K.lookup f = some ⟨oc, od, .func (PySem.W.fnOf nm q a b s .none kV doc pm an cdv ct), osl⟩ := by
  unfold fnRd at h
  split at h
  · rename_i oc od fd osl e
    obtain ⟨n1, n2, n3, n4, n5, n6, n7, n8, n9, n10, n11, n12, n13, n14, n15⟩ := fd
    simp only [Option.some.injEq, Prod.mk.injEq] at h
    obtain ⟨rfl, rfl, rfl, rfl, rfl, rfl, rfl, rfl, rfl⟩ := h
    exact ⟨oc, od, osl, _, _, _, _, _, _, e⟩
  · cases h
theorem prop_def {K : PySem.W.Frag} {pr : List He.FnD} (h : pr.map (fun d => prObs K d.at_) = pr.map He.FnD.val) (i : Nat) {x m nm q : Str} {a : Arguments} {b : List Stmt} {s : Scope} (e : pr[i]? = some ⟨(x, some m), nm, q, a, b, s⟩) :
    ∃ (oc : Value) (od : Option Addr) (osl : Array (Option Value)) (kV doc pm : Value) (an : Option Addr) (cdv ct : Value), K.lookup (pgA K x m) = some ⟨oc, od, .func (PySem.W.fnOf nm q a b s .none kV doc pm an cdv ct), osl⟩ := by
  have h1 := congrArg (fun l => l[i]?) h
  simp only [List.getElem?_map, e, Option.map_some, Option.some.injEq] at h1
  exact fnRd_ok h1
def recB (K : PySem.W.Frag) (p : Addr) : Bool :=
  match PySem.W.recIn K p "property" with
  | some (.ref _ :: _) => true
  | _ => false
def fProp (x m : Str) : PySem.W.Frag → Bool := fun K => He.eqO (PySem.W.findIn K (.ref (He.ga K x)) m) (some (some (.ref (He.ma K (He.ga K x) m)))) &&
  (He.eqO (PySem.W.specialIn K (.ref (He.ma K (He.ga K x) m)) "__get__") (some (some (.builtin "property.__get__"))) && (decide (PySem.W.takesIn K (.ref (He.ma K (He.ga K x) m)) = some true) && recB K (He.ma K (He.ga K x) m)))
theorem prop_of {K : PySem.W.Frag} {x m : Str} (h : fProp x m K = true) : PropOf K (He.ga K x) m (He.ma K (He.ga K x) m) (pgA K x m) := by
  obtain ⟨a, h⟩ := Bool.and_eq_true_iff.mp h
  obtain ⟨b, h⟩ := Bool.and_eq_true_iff.mp h
  obtain ⟨c, d⟩ := Bool.and_eq_true_iff.mp h
  refine ⟨He.eqO_ok a, He.eqO_ok b, of_decide_eq_true c, ?_⟩
  unfold recB at d
  unfold pgA
  split at d
  · rename_i g rest e
    rw [e]
    exact ⟨rest, rfl⟩
  · cases d
def fPrc (x m q : Str) : PySem.W.Frag → Bool := fun K =>
  match K.lookup (pgA K x m) with
  | some ⟨_, _, .func fd, _⟩ => PySem.W.codeIn K fd.code q
  | _ => false
theorem prc_of {K : PySem.W.Frag} {x m q : Str} {oc : Value} {od : Option Addr} {fd : FuncData} {osl : Array (Option Value)} (h : fPrc x m q K = true) (e : K.lookup (pgA K x m) = some ⟨oc, od, .func fd, osl⟩) : PySem.W.codeIn K fd.code q = true := by
  unfold fPrc at h
  rw [e] at h
  exact h
def fInt (x : Str) (v : Int) : PySem.W.Frag → Bool := fun K => match PySem.W.nsIn K mainGlobals x with
  | some (some (.int y _)) => decide (y = v)
  | _ => false
theorem int_of {K : PySem.W.Frag} {x : Str} {v : Int} (h : fInt x v K = true) : ∃ t, PySem.W.nsIn K mainGlobals x = some (some (.int v t)) := by
  unfold fInt at h
  split at h
  · rename_i y t e
    have := of_decide_eq_true h
    subst this
    exact ⟨t, e⟩
  · cases h
def fKitT (x : Str) (T : String) (b : Bool) : PySem.W.Frag → Bool := fun K => decide (PySem.W.kitOne K (.ref (He.ga K x)) (.type T) = some b)
theorem kitT_of {K : PySem.W.Frag} {x : Str} {T : String} {b : Bool} (h : fKitT x T b K = true) : PySem.W.kitOne K (.ref (He.ga K x)) (.type T) = some b := of_decide_eq_true h
abbrev AlP := (He.Al × Bool) × List He.FnV
def obsP (n : Nat) (fn pr : List He.FnD) (fs : List (PySem.W.Frag → Bool)) (g : Addr → Option Obj) : AlP :=
  (obsM n fn fs g, pr.map fun d => prObs (He.frG g (He.asG g n)) d.at_)
def hookP (n : Nat) (fn pr : List He.FnD) (fs : List (PySem.W.Frag → Bool)) : PySem.W.Hook where
  α := (He.Al × Bool) × List He.FnV
  obs := fun s => obsP n fn pr fs s.heap.get?
  val := fun _ => ((He.valE fn, true), pr.map He.FnD.val)
  says := fun _ h => ∃ K : PySem.W.Frag, K.In h ∧ He.SaysE [] fn K ∧ exB fs K = true ∧ pr.map (fun d => prObs K d.at_) = pr.map He.FnD.val
  of := fun w s e => ⟨He.frG s.heap.get? (He.asG s.heap.get? n), He.frG_in, congrArg (fun z : AlP => z.1.1) e, congrArg (fun z : AlP => z.1.2) e, congrArg Prod.snd e⟩
  keeps := fun w h h' ⟨K, a, b, c⟩ k => ⟨K, a.keeps k, b, c⟩
theorem obsP_eq {n : Nat} {fn pr : List He.FnD} {fs : List (PySem.W.Frag → Bool)} {g : Addr → Option Obj} {s : Shared} (h : ∀ a, g a = s.heap.get? a) : obsP n fn pr fs g = (hookP n fn pr fs).obs s := by
  have e : g = s.heap.get? := funext h
  rw [e]
  rfl
end Mq

namespace Mq
open PySem PySem.Spec PyProof.Rows L2
/-! ### classmethods among the head's facts -/
def cmA (K : PySem.W.Frag) (x m : Str) : Addr :=
  match PySem.W.recIn K (He.ma K (He.ga K x) m) "classmethod" with
  | some (.ref g :: _) => g
  | _ => 0
def cmObs (K : PySem.W.Frag) (p : Str × Option Str) : He.FnV :=
  match p.2 with
  | some m => fnRd K (cmA K p.1 m)
  | none => none
theorem cm_def {K : PySem.W.Frag} {pr : List He.FnD} (h : pr.map (fun d => cmObs K d.at_) = pr.map He.FnD.val) (i : Nat) {x m nm q : Str} {a : Arguments} {b : List Stmt} {s : Scope} (e : pr[i]? = some ⟨(x, some m), nm, q, a, b, s⟩) :
    ∃ (oc : Value) (od : Option Addr) (osl : Array (Option Value)) (kV doc pm : Value) (an : Option Addr) (cdv ct : Value), K.lookup (cmA K x m) = some ⟨oc, od, .func (PySem.W.fnOf nm q a b s .none kV doc pm an cdv ct), osl⟩ := by
  have h1 := congrArg (fun l => l[i]?) h
  simp only [List.getElem?_map, e, Option.map_some, Option.some.injEq] at h1
  exact fnRd_ok h1
def recC (K : PySem.W.Frag) (p : Addr) : Bool :=
  match PySem.W.recIn K p "classmethod" with
  | some (.ref _ :: _) => true
  | _ => false
def fRead (x : Str) : PySem.W.Frag → Bool := fun K => PySem.W.readsIn K (He.ga K x) (.type "type") && He.eqO (PySem.W.specialIn K (.ref (He.ga K x)) "__getattribute__") (some (some (.builtin "type.__getattribute__")))
theorem read_of {K : PySem.W.Frag} {x : Str} (h : fRead x K = true) : ClX.CRead K (He.ga K x) (.type "type") := by
  obtain ⟨a, b⟩ := Bool.and_eq_true_iff.mp h
  exact ⟨a, He.eqO_ok b⟩
def fCm (x m : Str) : PySem.W.Frag → Bool := fun K =>
  (match PySem.W.findCls K (.ref (He.ga K x)) (.type "type") m with
  | some (.get (.builtin t) (.ref q) .none (.ref c)) => decide (t = "classmethod.__get__") && (decide (q = He.ma K (He.ga K x) m) && decide (c = He.ga K x))
  | _ => false) && (recC K (He.ma K (He.ga K x) m) && PySem.W.fnIn K (cmA K x m))
theorem cm_of {K : PySem.W.Frag} {x m : Str} (h : fCm x m K = true) : ClX.CMet K (He.ga K x) (.type "type") m (He.ma K (He.ga K x) m) (cmA K x m) := by
  obtain ⟨a, h⟩ := Bool.and_eq_true_iff.mp h
  obtain ⟨b, c⟩ := Bool.and_eq_true_iff.mp h
  refine ⟨?_, ?_, c⟩
  · split at a
    · rename_i t q d e
      obtain ⟨a1, a2⟩ := Bool.and_eq_true_iff.mp a
      obtain ⟨a2, a3⟩ := Bool.and_eq_true_iff.mp a2
      rw [e, of_decide_eq_true a1, of_decide_eq_true a2, of_decide_eq_true a3]
    · cases a
  · unfold recC at b
    unfold cmA
    split at b
    · rename_i g rest e
      rw [e]
      exact ⟨rest, rfl⟩
    · cases b
def fCmc (x m q : Str) : PySem.W.Frag → Bool := fun K =>
  match K.lookup (cmA K x m) with
  | some ⟨_, _, .func fd, _⟩ => PySem.W.codeIn K fd.code q
  | _ => false
theorem cmc_of {K : PySem.W.Frag} {x m q : Str} {oc : Value} {od : Option Addr} {fd : FuncData} {osl : Array (Option Value)} (h : fCmc x m q K = true) (e : K.lookup (cmA K x m) = some ⟨oc, od, .func fd, osl⟩) : PySem.W.codeIn K fd.code q = true := by
  unfold fCmc at h
  rw [e] at h
  exact h
/-- the fragment, the statics among it -/
def frC (g : Addr → Option Obj) (n : Nat) : PySem.W.Frag := He.frG g (cStatics :: He.asG g n)
def obsC (n : Nat) (fn pr : List He.FnD) (fs : List (PySem.W.Frag → Bool)) (g : Addr → Option Obj) : AlP :=
  ((He.obsE [] fn (frC g n), exB fs (frC g n)), pr.map fun d => cmObs (frC g n) d.at_)
def hookC (n : Nat) (fn pr : List He.FnD) (fs : List (PySem.W.Frag → Bool)) : PySem.W.Hook where
  α := (He.Al × Bool) × List He.FnV
  obs := fun s => obsC n fn pr fs s.heap.get?
  val := fun _ => ((He.valE fn, true), pr.map He.FnD.val)
  says := fun _ h => ∃ K : PySem.W.Frag, K.In h ∧ He.SaysE [] fn K ∧ exB fs K = true ∧ pr.map (fun d => cmObs K d.at_) = pr.map He.FnD.val
  of := fun w s e => ⟨frC s.heap.get? n, He.frG_in, congrArg (fun z : AlP => z.1.1) e, congrArg (fun z : AlP => z.1.2) e, congrArg Prod.snd e⟩
  keeps := fun w h h' ⟨K, a, b, c⟩ k => ⟨K, a.keeps k, b, c⟩
theorem obsC_eq {n : Nat} {fn pr : List He.FnD} {fs : List (PySem.W.Frag → Bool)} {g : Addr → Option Obj} {s : Shared} (h : ∀ a, g a = s.heap.get? a) : obsC n fn pr fs g = (hookC n fn pr fs).obs s := by
  have e : g = s.heap.get? := funext h
  rw [e]
  rfl
end Mq

namespace Mq
open PySem PySem.Spec PyProof.Rows L2
/-! ### defs with defaults among the head's facts -/
def frQ (g : Addr → Option Obj) (n : Nat) : PySem.W.Frag := He.frG g (cStatics :: He.asD g n)
abbrev AlQ := ((He.Al × Bool) × List He.FnV) × He.AlD
def obsQ (n : Nat) (fn pr : List He.FnD) (df : List He.DefD) (fs : List (PySem.W.Frag → Bool)) (g : Addr → Option Obj) : AlQ :=
  (((He.obsE [] fn (frQ g n), exB fs (frQ g n)), pr.map fun d => cmObs (frQ g n) d.at_), He.obsD [] df (frQ g n))
def hookQ (n : Nat) (fn pr : List He.FnD) (df : List He.DefD) (fs : List (PySem.W.Frag → Bool)) : PySem.W.Hook where
  α := AlQ
  obs := fun s => obsQ n fn pr df fs s.heap.get?
  val := fun _ => (((He.valE fn, true), pr.map He.FnD.val), He.valD df)
  says := fun _ h => ∃ K : PySem.W.Frag, K.In h ∧ He.SaysE [] fn K ∧ exB fs K = true ∧ pr.map (fun d => cmObs K d.at_) = pr.map He.FnD.val ∧ He.SaysD [] df K
  of := fun w s e => ⟨frQ s.heap.get? n, He.frG_in, congrArg (fun z : AlQ => z.1.1.1) e, congrArg (fun z : AlQ => z.1.1.2) e, congrArg (fun z : AlQ => z.1.2) e, congrArg Prod.snd e⟩
  keeps := fun w h h' ⟨K, a, b, c⟩ k => ⟨K, a.keeps k, b, c⟩
theorem obsQ_eq {n : Nat} {fn pr : List He.FnD} {df : List He.DefD} {fs : List (PySem.W.Frag → Bool)} {g : Addr → Option Obj} {s : Shared} (h : ∀ a, g a = s.heap.get? a) : obsQ n fn pr df fs g = (hookQ n fn pr df fs).obs s := by
  have e : g = s.heap.get? := funext h
  rw [e]
  rfl
end Mq

namespace Lw
open PySem PySem.Spec PyProof.Rows L2 Mq
open SX (S)
theorem all_mk {P : Program} {w : World} {K : PySem.W.Frag} {h : Heap} {mg : Str → Option Value} {fa CM : Addr} (X : K.In h) (G : h.Ns mainGlobals mg) (hfa : mg "law" = some (.ref fa))
    (aM : PySem.W.nsIn K mainGlobals "MillError" = some (some (.ref CM)))
    (mill : PySem.W.isClsIn K CM = true ∧ PySem.W.typeIn K (.ref CM) = some (.type "type"))
    (sp : PySem.W.specialIn K (.builtin "object.__class__") "__get__" = some (some (.builtin "getset_descriptor.__get__")))
    (tk : PySem.W.takesIn K (.builtin "object.__class__") = some true)
    {CR : Addr}
    (aR : PySem.W.nsIn K mainGlobals "Program" = some (some (.ref CR)))
    (owR : PySem.W.plainGet K CR Str.empty = true ∧ PySem.W.hasDictIn K CR = true ∧ PySem.W.plainOver K CR = true ∧ PySem.W.makesIn K CR = true ∧ PySem.W.keepIn K (.ref CR) = true)
    (saR : PySem.W.findIn K (.ref CR) "__setattr__" = some (some (.builtin "object.__setattr__")))
    (caR : PySem.W.findIn K (.ref CR) "__class__" = some (some (.builtin "object.__class__")))
    (moR : PySem.W.mroIn K CR (.type "object") = some true)
    (kiR : PySem.W.kitOne K (.ref CR) (.ref CR) = some true)
    (nR_letters : PySem.W.findIn K (.ref CR) "letters" = some none)
    (nR_deeds : PySem.W.findIn K (.ref CR) "deeds" = some none)
    {finit : Addr} {odinit aninit : Option Addr} {slinit : Array (Option Value)} {ocinit kVinit dcinit pminit cdinit ctinit : Value}
    (minit : PySem.W.findIn K (.ref CR) "__init__" = some (some (.ref finit)) ∧ PySem.W.isFn K (.ref finit) = true)
    (linit : K.lookup finit = some ⟨ocinit, odinit, .func (PySem.W.fnOf "__init__" "Program.__init__" (defArgs s_Program___init__) (defBody s_Program___init__) (defScope s_Program___init__) .none kVinit dcinit pminit aninit cdinit ctinit), slinit⟩)
    (cinit : PySem.W.codeIn K cdinit "Program.__init__" = true)
    {feq : Addr} {odeq aneq : Option Addr} {sleq : Array (Option Value)} {oceq kVeq dceq pmeq cdeq cteq : Value}
    (meq : PySem.W.findIn K (.ref CR) "__eq__" = some (some (.ref feq)) ∧ PySem.W.isFn K (.ref feq) = true)
    (leq : K.lookup feq = some ⟨oceq, odeq, .func (PySem.W.fnOf "__eq__" "Program.__eq__" (defArgs s_Program___eq__) (defBody s_Program___eq__) (defScope s_Program___eq__) .none kVeq dceq pmeq aneq cdeq cteq), sleq⟩)
    (ceq : PySem.W.codeIn K cdeq "Program.__eq__" = true)
    {fst : Addr} {odst anst : Option Addr} {slst : Array (Option Value)} {ocst kVst dcst pmst cdst ctst : Value}
    (mst : PySem.W.findIn K (.ref CR) "__str__" = some (some (.ref fst)) ∧ PySem.W.isFn K (.ref fst) = true)
    (lst : K.lookup fst = some ⟨ocst, odst, .func (PySem.W.fnOf "__str__" "Program.__str__" (defArgs s_Program___str__) (defBody s_Program___str__) (defScope s_Program___str__) .none kVst dcst pmst anst cdst ctst), slst⟩)
    (cst : PySem.W.codeIn K cdst "Program.__str__" = true)
    {fln : Addr} {odln anln : Option Addr} {slln : Array (Option Value)} {ocln kVln dcln pmln cdln ctln : Value}
    (mln : PySem.W.findIn K (.ref CR) "__len__" = some (some (.ref fln)) ∧ PySem.W.isFn K (.ref fln) = true)
    (lln : K.lookup fln = some ⟨ocln, odln, .func (PySem.W.fnOf "__len__" "Program.__len__" (defArgs s_Program___len__) (defBody s_Program___len__) (defScope s_Program___len__) .none kVln dcln pmln anln cdln ctln), slln⟩)
    (cln : PySem.W.codeIn K cdln "Program.__len__" = true)
    {CT FT : Addr}
    (aT : PySem.W.nsIn K mainGlobals "BadProgram" = some (some (.ref CT)))
    (xT : ClsAt K CM CT)
    (gaT : PySem.W.findIn K (.ref CT) "__getattribute__" = some (some (.builtin "BaseException.__getattribute__")))
    (ggT : PySem.W.findIn K (.ref CT) "__getattr__" = some none)
    (caT : PySem.W.findIn K (.ref CT) "__class__" = some (some (.builtin "object.__class__")))
    (wsT : PySem.W.findIn K (.ref CT) "__setattr__" = some (some (.builtin "object.__setattr__")))
    (ntT : PySem.W.findIn K (.ref CT) "part" = some none)
    (wiT : PySem.W.findIn K (.ref CT) "__init__" = some (some (.ref FT)))
    {odET anET : Option Addr} {slET : Array (Option Value)} {dcET pmET cdET ctET : Value}
    (lET : K.lookup FT = some ⟨.type "function", odET, .func (PySem.W.fnOf "__init__" "BadProgram.__init__" (MqE_part.iA ⟨10, 17, 10, 21⟩ ⟨10, 23, 10, 27⟩) (MqE_part.iB ⟨11, 8, 11, 12⟩ ⟨11, 8, 11, 17⟩ ⟨11, 20, 11, 24⟩ ⟨11, 8, 11, 24⟩) MqE_part.iS .none .none dcET pmET anET cdET ctET), slET⟩)
    (cET : PySem.W.codeIn K cdET "BadProgram.__init__" = true)
    {CL FL : Addr}
    (aL : PySem.W.nsIn K mainGlobals "BadText" = some (some (.ref CL)))
    (xL : ClsAt K CM CL)
    (gaL : PySem.W.findIn K (.ref CL) "__getattribute__" = some (some (.builtin "BaseException.__getattribute__")))
    (ggL : PySem.W.findIn K (.ref CL) "__getattr__" = some none)
    (caL : PySem.W.findIn K (.ref CL) "__class__" = some (some (.builtin "object.__class__")))
    (wsL : PySem.W.findIn K (.ref CL) "__setattr__" = some (some (.builtin "object.__setattr__")))
    (ntL : PySem.W.findIn K (.ref CL) "line" = some none)
    (wiL : PySem.W.findIn K (.ref CL) "__init__" = some (some (.ref FL)))
    {odEL anEL : Option Addr} {slEL : Array (Option Value)} {dcEL pmEL cdEL ctEL : Value}
    (lEL : K.lookup FL = some ⟨.type "function", odEL, .func (PySem.W.fnOf "__init__" "BadText.__init__" (MqE_line.iA ⟨6, 17, 6, 21⟩ ⟨6, 23, 6, 27⟩) (MqE_line.iB ⟨7, 8, 7, 12⟩ ⟨7, 8, 7, 17⟩ ⟨7, 20, 7, 24⟩ ⟨7, 8, 7, 24⟩) MqE_line.iS .none .none dcEL pmEL anEL cdEL ctEL), slEL⟩)
    (cEL : PySem.W.codeIn K cdEL "BadText.__init__" = true)
    (rdR : ClX.CRead K CR (.type "type"))
    {prdm frdm : Addr} {odrdm anrdm : Option Addr} {slrdm : Array (Option Value)} {ocrdm kVrdm dcrdm pmrdm cdrdm ctrdm : Value}
    (cmrdm : ClX.CMet K CR (.type "type") "read" prdm frdm)
    (lrdm : K.lookup frdm = some ⟨ocrdm, odrdm, .func (PySem.W.fnOf "read" "Program.read" (defArgs s_Program_read) (defBody s_Program_read) (defScope s_Program_read) .none kVrdm dcrdm pmrdm anrdm cdrdm ctrdm), slrdm⟩)
    (crdm : PySem.W.codeIn K cdrdm "Program.read" = true)
    (i_MOST_FIGURES : ∃ t, PySem.W.nsIn K mainGlobals "MOST_FIGURES" = some (some (.int 4300 t)))
    (i_MOST_PLACES : ∃ t, PySem.W.nsIn K mainGlobals "MOST_PLACES" = some (some (.int 999 t)))
    (oeR : OwnEqK K CR)
    (ktR_list : PySem.W.kitOne K (.ref CR) (.type "list") = some false)
    {f0 : Addr} {od0 an0 : Option Addr} {sl0 : Array (Option Value)} {oc0 kV0 dc0 pm0 cd0 ct0 : Value}
    (a0 : PySem.W.nsIn K mainGlobals "is_letters" = some (some (.ref f0)))
    (l0 : K.lookup f0 = some ⟨oc0, od0, .func (PySem.W.fnOf "is_letters" "is_letters" (defArgs s_is_letters) (defBody s_is_letters) (defScope s_is_letters) .none kV0 dc0 pm0 an0 cd0 ct0), sl0⟩)
    (c0 : PySem.W.codeIn K cd0 "is_letters" = true)
    {f1 : Addr} {od1 an1 : Option Addr} {sl1 : Array (Option Value)} {oc1 kV1 dc1 pm1 cd1 ct1 : Value}
    (a1 : PySem.W.nsIn K mainGlobals "is_letter" = some (some (.ref f1)))
    (l1 : K.lookup f1 = some ⟨oc1, od1, .func (PySem.W.fnOf "is_letter" "is_letter" (defArgs s_is_letter) (defBody s_is_letter) (defScope s_is_letter) .none kV1 dc1 pm1 an1 cd1 ct1), sl1⟩)
    (c1 : PySem.W.codeIn K cd1 "is_letter" = true)
    {f2 : Addr} {od2 an2 : Option Addr} {sl2 : Array (Option Value)} {oc2 kV2 dc2 pm2 cd2 ct2 : Value}
    (a2 : PySem.W.nsIn K mainGlobals "is_number" = some (some (.ref f2)))
    (l2 : K.lookup f2 = some ⟨oc2, od2, .func (PySem.W.fnOf "is_number" "is_number" (defArgs s_is_number) (defBody s_is_number) (defScope s_is_number) .none kV2 dc2 pm2 an2 cd2 ct2), sl2⟩)
    (c2 : PySem.W.codeIn K cd2 "is_number" = true)
    {f3 : Addr} {od3 an3 : Option Addr} {sl3 : Array (Option Value)} {oc3 kV3 dc3 pm3 cd3 ct3 : Value}
    (a3 : PySem.W.nsIn K mainGlobals "is_below" = some (some (.ref f3)))
    (l3 : K.lookup f3 = some ⟨oc3, od3, .func (PySem.W.fnOf "is_below" "is_below" (defArgs s_is_below) (defBody s_is_below) (defScope s_is_below) .none kV3 dc3 pm3 an3 cd3 ct3), sl3⟩)
    (c3 : PySem.W.codeIn K cd3 "is_below" = true)
    {f4 : Addr} {od4 an4 : Option Addr} {sl4 : Array (Option Value)} {oc4 kV4 dc4 pm4 cd4 ct4 : Value}
    (a4 : PySem.W.nsIn K mainGlobals "is_ascending" = some (some (.ref f4)))
    (l4 : K.lookup f4 = some ⟨oc4, od4, .func (PySem.W.fnOf "is_ascending" "is_ascending" (defArgs s_is_ascending) (defBody s_is_ascending) (defScope s_is_ascending) .none kV4 dc4 pm4 an4 cd4 ct4), sl4⟩)
    (c4 : PySem.W.codeIn K cd4 "is_ascending" = true)
    {f5 : Addr} {od5 an5 : Option Addr} {sl5 : Array (Option Value)} {oc5 kV5 dc5 pm5 cd5 ct5 : Value}
    (a5 : PySem.W.nsIn K mainGlobals "integer_read" = some (some (.ref f5)))
    (l5 : K.lookup f5 = some ⟨oc5, od5, .func (PySem.W.fnOf "integer_read" "integer_read" (defArgs s_integer_read) (defBody s_integer_read) (defScope s_integer_read) .none kV5 dc5 pm5 an5 cd5 ct5), sl5⟩)
    (c5 : PySem.W.codeIn K cd5 "integer_read" = true)
    {f6 : Addr} {od6 an6 : Option Addr} {sl6 : Array (Option Value)} {oc6 kV6 dc6 pm6 cd6 ct6 : Value}
    (a6 : PySem.W.nsIn K mainGlobals "number_read" = some (some (.ref f6)))
    (l6 : K.lookup f6 = some ⟨oc6, od6, .func (PySem.W.fnOf "number_read" "number_read" (defArgs s_number_read) (defBody s_number_read) (defScope s_number_read) .none kV6 dc6 pm6 an6 cd6 ct6), sl6⟩)
    (c6 : PySem.W.codeIn K cd6 "number_read" = true)
    {f7 : Addr} {od7 an7 : Option Addr} {sl7 : Array (Option Value)} {oc7 kV7 dc7 pm7 cd7 ct7 : Value}
    (a7 : PySem.W.nsIn K mainGlobals "numbers_read" = some (some (.ref f7)))
    (l7 : K.lookup f7 = some ⟨oc7, od7, .func (PySem.W.fnOf "numbers_read" "numbers_read" (defArgs s_numbers_read) (defBody s_numbers_read) (defScope s_numbers_read) .none kV7 dc7 pm7 an7 cd7 ct7), sl7⟩)
    (c7 : PySem.W.codeIn K cd7 "numbers_read" = true)
    {f8 : Addr} {od8 an8 : Option Addr} {sl8 : Array (Option Value)} {oc8 kV8 dc8 pm8 cd8 ct8 : Value}
    (a8 : PySem.W.nsIn K mainGlobals "text_parts" = some (some (.ref f8)))
    (l8 : K.lookup f8 = some ⟨oc8, od8, .func (PySem.W.fnOf "text_parts" "text_parts" (defArgs s_text_parts) (defBody s_text_parts) (defScope s_text_parts) .none kV8 dc8 pm8 an8 cd8 ct8), sl8⟩)
    (c8 : PySem.W.codeIn K cd8 "text_parts" = true)
    {f9 : Addr}
    (a9 : PySem.W.nsIn K mainGlobals "nodes_read" = some (some (.ref f9)))
    (D9 : ∃ fd, FunD K "nodes_read" "nodes_read" (defArgs s_nodes_read) (defBody s_nodes_read) (defScope s_nodes_read) [.non] [] f9 fd)
    {f10 : Addr} {od10 an10 : Option Addr} {sl10 : Array (Option Value)} {oc10 kV10 dc10 pm10 cd10 ct10 : Value}
    (a10 : PySem.W.nsIn K mainGlobals "has_head" = some (some (.ref f10)))
    (l10 : K.lookup f10 = some ⟨oc10, od10, .func (PySem.W.fnOf "has_head" "has_head" (defArgs s_has_head) (defBody s_has_head) (defScope s_has_head) .none kV10 dc10 pm10 an10 cd10 ct10), sl10⟩)
    (c10 : PySem.W.codeIn K cd10 "has_head" = true)
    {f11 : Addr}
    (a11 : PySem.W.nsIn K mainGlobals "wrong_part" = some (some (.ref f11)))
    (D11 : ∃ fd, FunD K "wrong_part" "wrong_part" (defArgs s_wrong_part) (defBody s_wrong_part) (defScope s_wrong_part) [.str "nodes", .non] [] f11 fd)
    {f12 : Addr} {od12 an12 : Option Addr} {sl12 : Array (Option Value)} {oc12 kV12 dc12 pm12 cd12 ct12 : Value}
    (a12 : PySem.W.nsIn K mainGlobals "is_deed" = some (some (.ref f12)))
    (l12 : K.lookup f12 = some ⟨oc12, od12, .func (PySem.W.fnOf "is_deed" "is_deed" (defArgs s_is_deed) (defBody s_is_deed) (defScope s_is_deed) .none kV12 dc12 pm12 an12 cd12 ct12), sl12⟩)
    (c12 : PySem.W.codeIn K cd12 "is_deed" = true)
    {f13 : Addr} {od13 an13 : Option Addr} {sl13 : Array (Option Value)} {oc13 kV13 dc13 pm13 cd13 ct13 : Value}
    (a13 : PySem.W.nsIn K mainGlobals "are_places" = some (some (.ref f13)))
    (l13 : K.lookup f13 = some ⟨oc13, od13, .func (PySem.W.fnOf "are_places" "are_places" (defArgs s_are_places) (defBody s_are_places) (defScope s_are_places) .none kV13 dc13 pm13 an13 cd13 ct13), sl13⟩)
    (c13 : PySem.W.codeIn K cd13 "are_places" = true)
    {f14 : Addr} {od14 an14 : Option Addr} {sl14 : Array (Option Value)} {oc14 kV14 dc14 pm14 cd14 ct14 : Value}
    (a14 : PySem.W.nsIn K mainGlobals "deed_line" = some (some (.ref f14)))
    (l14 : K.lookup f14 = some ⟨oc14, od14, .func (PySem.W.fnOf "deed_line" "deed_line" (defArgs s_deed_line) (defBody s_deed_line) (defScope s_deed_line) .none kV14 dc14 pm14 an14 cd14 ct14), sl14⟩)
    (c14 : PySem.W.codeIn K cd14 "deed_line" = true)
    {f15 : Addr} {od15 an15 : Option Addr} {sl15 : Array (Option Value)} {oc15 kV15 dc15 pm15 cd15 ct15 : Value}
    (a15 : PySem.W.nsIn K mainGlobals "deed_read" = some (some (.ref f15)))
    (l15 : K.lookup f15 = some ⟨oc15, od15, .func (PySem.W.fnOf "deed_read" "deed_read" (defArgs s_deed_read) (defBody s_deed_read) (defScope s_deed_read) .none kV15 dc15 pm15 an15 cd15 ct15), sl15⟩)
    (c15 : PySem.W.codeIn K cd15 "deed_read" = true)
    {f16 : Addr} {od16 an16 : Option Addr} {sl16 : Array (Option Value)} {oc16 kV16 dc16 pm16 cd16 ct16 : Value}
    (a16 : PySem.W.nsIn K mainGlobals "_law_deck" = some (some (.ref f16)))
    (l16 : K.lookup f16 = some ⟨oc16, od16, .func (PySem.W.fnOf "_law_deck" "_law_deck" (defArgs s__law_deck) (defBody s__law_deck) (defScope s__law_deck) .none kV16 dc16 pm16 an16 cd16 ct16), sl16⟩)
    (c16 : PySem.W.codeIn K cd16 "_law_deck" = true)
    {f17 : Addr} {od17 an17 : Option Addr} {sl17 : Array (Option Value)} {oc17 kV17 dc17 pm17 cd17 ct17 : Value}
    (a17 : PySem.W.nsIn K mainGlobals "_law_draw" = some (some (.ref f17)))
    (l17 : K.lookup f17 = some ⟨oc17, od17, .func (PySem.W.fnOf "_law_draw" "_law_draw" (defArgs s__law_draw) (defBody s__law_draw) (defScope s__law_draw) .none kV17 dc17 pm17 an17 cd17 ct17), sl17⟩)
    (c17 : PySem.W.codeIn K cd17 "_law_draw" = true)
    {f18 : Addr} {od18 an18 : Option Addr} {sl18 : Array (Option Value)} {oc18 kV18 dc18 pm18 cd18 ct18 : Value}
    (a18 : PySem.W.nsIn K mainGlobals "_law_pick" = some (some (.ref f18)))
    (l18 : K.lookup f18 = some ⟨oc18, od18, .func (PySem.W.fnOf "_law_pick" "_law_pick" (defArgs s__law_pick) (defBody s__law_pick) (defScope s__law_pick) .none kV18 dc18 pm18 an18 cd18 ct18), sl18⟩)
    (c18 : PySem.W.codeIn K cd18 "_law_pick" = true)
    {f19 : Addr} {od19 an19 : Option Addr} {sl19 : Array (Option Value)} {oc19 kV19 dc19 pm19 cd19 ct19 : Value}
    (a19 : PySem.W.nsIn K mainGlobals "_law_are_letters" = some (some (.ref f19)))
    (l19 : K.lookup f19 = some ⟨oc19, od19, .func (PySem.W.fnOf "_law_are_letters" "_law_are_letters" (defArgs s__law_are_letters) (defBody s__law_are_letters) (defScope s__law_are_letters) .none kV19 dc19 pm19 an19 cd19 ct19), sl19⟩)
    (c19 : PySem.W.codeIn K cd19 "_law_are_letters" = true)
    {f20 : Addr} {od20 an20 : Option Addr} {sl20 : Array (Option Value)} {oc20 kV20 dc20 pm20 cd20 ct20 : Value}
    (a20 : PySem.W.nsIn K mainGlobals "_law_is_below" = some (some (.ref f20)))
    (l20 : K.lookup f20 = some ⟨oc20, od20, .func (PySem.W.fnOf "_law_is_below" "_law_is_below" (defArgs s__law_is_below) (defBody s__law_is_below) (defScope s__law_is_below) .none kV20 dc20 pm20 an20 cd20 ct20), sl20⟩)
    (c20 : PySem.W.codeIn K cd20 "_law_is_below" = true)
    {f21 : Addr} {od21 an21 : Option Addr} {sl21 : Array (Option Value)} {oc21 kV21 dc21 pm21 cd21 ct21 : Value}
    (a21 : PySem.W.nsIn K mainGlobals "_law_program" = some (some (.ref f21)))
    (l21 : K.lookup f21 = some ⟨oc21, od21, .func (PySem.W.fnOf "_law_program" "_law_program" (defArgs s__law_program) (defBody s__law_program) (defScope s__law_program) .none kV21 dc21 pm21 an21 cd21 ct21), sl21⟩)
    (c21 : PySem.W.codeIn K cd21 "_law_program" = true)
    {f22 : Addr} {od22 an22 : Option Addr} {sl22 : Array (Option Value)} {oc22 kV22 dc22 pm22 cd22 ct22 : Value}
    (a22 : PySem.W.nsIn K mainGlobals "_law_is_deed" = some (some (.ref f22)))
    (l22 : K.lookup f22 = some ⟨oc22, od22, .func (PySem.W.fnOf "_law_is_deed" "_law_is_deed" (defArgs s__law_is_deed) (defBody s__law_is_deed) (defScope s__law_is_deed) .none kV22 dc22 pm22 an22 cd22 ct22), sl22⟩)
    (c22 : PySem.W.codeIn K cd22 "_law_is_deed" = true)
    {f23 : Addr} {od23 an23 : Option Addr} {sl23 : Array (Option Value)} {oc23 kV23 dc23 pm23 cd23 ct23 : Value}
    (a23 : PySem.W.nsIn K mainGlobals "_law_fault" = some (some (.ref f23)))
    (l23 : K.lookup f23 = some ⟨oc23, od23, .func (PySem.W.fnOf "_law_fault" "_law_fault" (defArgs s__law_fault) (defBody s__law_fault) (defScope s__law_fault) .none kV23 dc23 pm23 an23 cd23 ct23), sl23⟩)
    (c23 : PySem.W.codeIn K cd23 "_law_fault" = true)
    {f24 : Addr} {od24 an24 : Option Addr} {sl24 : Array (Option Value)} {oc24 kV24 dc24 pm24 cd24 ct24 : Value}
    (a24 : PySem.W.nsIn K mainGlobals "_law_text" = some (some (.ref f24)))
    (l24 : K.lookup f24 = some ⟨oc24, od24, .func (PySem.W.fnOf "_law_text" "_law_text" (defArgs s__law_text) (defBody s__law_text) (defScope s__law_text) .none kV24 dc24 pm24 an24 cd24 ct24), sl24⟩)
    (c24 : PySem.W.codeIn K cd24 "_law_text" = true)
    {f25 : Addr} {od25 an25 : Option Addr} {sl25 : Array (Option Value)} {oc25 kV25 dc25 pm25 cd25 ct25 : Value}
    (a25 : PySem.W.nsIn K mainGlobals "_law_place" = some (some (.ref f25)))
    (l25 : K.lookup f25 = some ⟨oc25, od25, .func (PySem.W.fnOf "_law_place" "_law_place" (defArgs s__law_place) (defBody s__law_place) (defScope s__law_place) .none kV25 dc25 pm25 an25 cd25 ct25), sl25⟩)
    (c25 : PySem.W.codeIn K cd25 "_law_place" = true)
    {f26 : Addr} {od26 an26 : Option Addr} {sl26 : Array (Option Value)} {oc26 kV26 dc26 pm26 cd26 ct26 : Value}
    (a26 : PySem.W.nsIn K mainGlobals "_law_is_line" = some (some (.ref f26)))
    (l26 : K.lookup f26 = some ⟨oc26, od26, .func (PySem.W.fnOf "_law_is_line" "_law_is_line" (defArgs s__law_is_line) (defBody s__law_is_line) (defScope s__law_is_line) .none kV26 dc26 pm26 an26 cd26 ct26), sl26⟩)
    (c26 : PySem.W.codeIn K cd26 "_law_is_line" = true)
    {f27 : Addr} {od27 an27 : Option Addr} {sl27 : Array (Option Value)} {oc27 kV27 dc27 pm27 cd27 ct27 : Value}
    (a27 : PySem.W.nsIn K mainGlobals "_law_bad_line" = some (some (.ref f27)))
    (l27 : K.lookup f27 = some ⟨oc27, od27, .func (PySem.W.fnOf "_law_bad_line" "_law_bad_line" (defArgs s__law_bad_line) (defBody s__law_bad_line) (defScope s__law_bad_line) .none kV27 dc27 pm27 an27 cd27 ct27), sl27⟩)
    (c27 : PySem.W.codeIn K cd27 "_law_bad_line" = true)
    {f28 : Addr} {od28 an28 : Option Addr} {sl28 : Array (Option Value)} {oc28 kV28 dc28 pm28 cd28 ct28 : Value}
    (a28 : PySem.W.nsIn K mainGlobals "_law_odd" = some (some (.ref f28)))
    (l28 : K.lookup f28 = some ⟨oc28, od28, .func (PySem.W.fnOf "_law_odd" "_law_odd" (defArgs s__law_odd) (defBody s__law_odd) (defScope s__law_odd) .none kV28 dc28 pm28 an28 cd28 ct28), sl28⟩)
    (c28 : PySem.W.codeIn K cd28 "_law_odd" = true)
    {f29 : Addr} {od29 an29 : Option Addr} {sl29 : Array (Option Value)} {oc29 kV29 dc29 pm29 cd29 ct29 : Value}
    (a29 : PySem.W.nsIn K mainGlobals "_law_bent" = some (some (.ref f29)))
    (l29 : K.lookup f29 = some ⟨oc29, od29, .func (PySem.W.fnOf "_law_bent" "_law_bent" (defArgs s__law_bent) (defBody s__law_bent) (defScope s__law_bent) .none kV29 dc29 pm29 an29 cd29 ct29), sl29⟩)
    (c29 : PySem.W.codeIn K cd29 "_law_bent" = true)
    {f30 : Addr} {od30 an30 : Option Addr} {sl30 : Array (Option Value)} {oc30 kV30 dc30 pm30 cd30 ct30 : Value}
    (a30 : PySem.W.nsIn K mainGlobals "_law_bent_text" = some (some (.ref f30)))
    (l30 : K.lookup f30 = some ⟨oc30, od30, .func (PySem.W.fnOf "_law_bent_text" "_law_bent_text" (defArgs s__law_bent_text) (defBody s__law_bent_text) (defScope s__law_bent_text) .none kV30 dc30 pm30 an30 cd30 ct30), sl30⟩)
    (c30 : PySem.W.codeIn K cd30 "_law_bent_text" = true)
    {f31 : Addr} {od31 an31 : Option Addr} {sl31 : Array (Option Value)} {oc31 kV31 dc31 pm31 cd31 ct31 : Value}
    (a31 : PySem.W.nsIn K mainGlobals "_law_made" = some (some (.ref f31)))
    (l31 : K.lookup f31 = some ⟨oc31, od31, .func (PySem.W.fnOf "_law_made" "_law_made" (defArgs s__law_made) (defBody s__law_made) (defScope s__law_made) .none kV31 dc31 pm31 an31 cd31 ct31), sl31⟩)
    (c31 : PySem.W.codeIn K cd31 "_law_made" = true)
    {f32 : Addr} {od32 an32 : Option Addr} {sl32 : Array (Option Value)} {oc32 kV32 dc32 pm32 cd32 ct32 : Value}
    (a32 : PySem.W.nsIn K mainGlobals "_law_heard" = some (some (.ref f32)))
    (l32 : K.lookup f32 = some ⟨oc32, od32, .func (PySem.W.fnOf "_law_heard" "_law_heard" (defArgs s__law_heard) (defBody s__law_heard) (defScope s__law_heard) .none kV32 dc32 pm32 an32 cd32 ct32), sl32⟩)
    (c32 : PySem.W.codeIn K cd32 "_law_heard" = true)
    {f33 : Addr} {od33 an33 : Option Addr} {sl33 : Array (Option Value)} {oc33 kV33 dc33 pm33 cd33 ct33 : Value}
    (a33 : PySem.W.nsIn K mainGlobals "_law_is_like" = some (some (.ref f33)))
    (l33 : K.lookup f33 = some ⟨oc33, od33, .func (PySem.W.fnOf "_law_is_like" "_law_is_like" (defArgs s__law_is_like) (defBody s__law_is_like) (defScope s__law_is_like) .none kV33 dc33 pm33 an33 cd33 ct33), sl33⟩)
    (c33 : PySem.W.codeIn K cd33 "_law_is_like" = true)
    {f34 : Addr} {od34 an34 : Option Addr} {sl34 : Array (Option Value)} {oc34 kV34 dc34 pm34 cd34 ct34 : Value}
    (a34 : PySem.W.nsIn K mainGlobals "_law_read_right" = some (some (.ref f34)))
    (l34 : K.lookup f34 = some ⟨oc34, od34, .func (PySem.W.fnOf "_law_read_right" "_law_read_right" (defArgs s__law_read_right) (defBody s__law_read_right) (defScope s__law_read_right) .none kV34 dc34 pm34 an34 cd34 ct34), sl34⟩)
    (c34 : PySem.W.codeIn K cd34 "_law_read_right" = true)
    {f35 : Addr} {od35 an35 : Option Addr} {sl35 : Array (Option Value)} {oc35 kV35 dc35 pm35 cd35 ct35 : Value}
    (a35 : PySem.W.nsIn K mainGlobals "_law_bent_right" = some (some (.ref f35)))
    (l35 : K.lookup f35 = some ⟨oc35, od35, .func (PySem.W.fnOf "_law_bent_right" "_law_bent_right" (defArgs s__law_bent_right) (defBody s__law_bent_right) (defScope s__law_bent_right) .none kV35 dc35 pm35 an35 cd35 ct35), sl35⟩)
    (c35 : PySem.W.codeIn K cd35 "_law_bent_right" = true)
    {f36 : Addr} {od36 an36 : Option Addr} {sl36 : Array (Option Value)} {oc36 kV36 dc36 pm36 cd36 ct36 : Value}
    (a36 : PySem.W.nsIn K mainGlobals "law" = some (some (.ref f36)))
    (l36 : K.lookup f36 = some ⟨oc36, od36, .func (PySem.W.fnOf "law" "law" (defArgs s_law) (defBody s_law) (defScope s_law) .none kV36 dc36 pm36 an36 cd36 ct36), sl36⟩)
    (c36 : PySem.W.codeIn K cd36 "law" = true)
    (b_len : PySem.W.nsIn K mainGlobals "len" = some none)
    (b_range : PySem.W.nsIn K mainGlobals "range" = some none)
    (b_isinstance : PySem.W.nsIn K mainGlobals "isinstance" = some none)
    (b_all : PySem.W.nsIn K mainGlobals "all" = some none)
    (b_any : PySem.W.nsIn K mainGlobals "any" = some none)
    (b_int : PySem.W.nsIn K mainGlobals "int" = some none)
    (b_str : PySem.W.nsIn K mainGlobals "str" = some none)
    (b_bool : PySem.W.nsIn K mainGlobals "bool" = some none)
    (b_tuple : PySem.W.nsIn K mainGlobals "tuple" = some none)
    (b_list : PySem.W.nsIn K mainGlobals "list" = some none)
    (b_repr : PySem.W.nsIn K mainGlobals "repr" = some none)
    (b_enumerate : PySem.W.nsIn K mainGlobals "enumerate" = some none)
    (b_sorted : PySem.W.nsIn K mainGlobals "sorted" = some none)
    (b_set : PySem.W.nsIn K mainGlobals "set" = some none)
    (b_min : PySem.W.nsIn K mainGlobals "min" = some none)
    (t_ALPHABET : ∃ t, PySem.W.nsIn K mainGlobals "ALPHABET" = some (some (.str "abcdefghijklmnopqrstuvwxyz" t)))
    (t_DIGITS : ∃ t, PySem.W.nsIn K mainGlobals "DIGITS" = some (some (.str "0123456789" t))) :
    ∃ fd : FuncData, (∀ (s : Shared) (u : Value), BindsTo s fd ⟨[u], []⟩ [("_law_script", u)]) ∧ ∀ base : Heap, K.In base → base.Ns mainGlobals mg → FnG P w K mg base CX0 12 fa fd ["_law_script"] (spLaw K) := by
  have e := hfa.symm.trans (PySem.W.mg_of X G a36)
  cases e
  have B : Blt mg := ⟨PySem.W.mg_none_of X G b_len, PySem.W.mg_none_of X G b_range, PySem.W.mg_none_of X G b_isinstance, PySem.W.mg_none_of X G b_all, PySem.W.mg_none_of X G b_any, PySem.W.mg_none_of X G b_int, PySem.W.mg_none_of X G b_str, PySem.W.mg_none_of X G b_bool, PySem.W.mg_none_of X G b_tuple, PySem.W.mg_none_of X G b_list, PySem.W.mg_none_of X G b_repr, PySem.W.mg_none_of X G b_enumerate⟩
  have n_sorted : mg "sorted" = none := PySem.W.mg_none_of X G b_sorted
  have n_set : mg "set" = none := PySem.W.mg_none_of X G b_set
  have n_min : mg "min" = none := PySem.W.mg_none_of X G b_min
  have U0 := fun_mk (st := s_is_letters) l0 c0 (keep_fn l0)
  have g0 := PySem.W.mg_of X G a0
  have b0 := U0.binds (ps := ["thing"]) fun _ _ _ _ _ _ us hl => match us, hl with | [_], _ => rfl
  have U1 := fun_mk (st := s_is_letter) l1 c1 (keep_fn l1)
  have g1 := PySem.W.mg_of X G a1
  have b1 := U1.binds (ps := ["letters", "thing"]) fun _ _ _ _ _ _ us hl => match us, hl with | [_, _], _ => rfl
  have U2 := fun_mk (st := s_is_number) l2 c2 (keep_fn l2)
  have g2 := PySem.W.mg_of X G a2
  have b2 := U2.binds (ps := ["thing"]) fun _ _ _ _ _ _ us hl => match us, hl with | [_], _ => rfl
  have U3 := fun_mk (st := s_is_below) l3 c3 (keep_fn l3)
  have g3 := PySem.W.mg_of X G a3
  have b3 := U3.binds (ps := ["thing", "many"]) fun _ _ _ _ _ _ us hl => match us, hl with | [_, _], _ => rfl
  have U4 := fun_mk (st := s_is_ascending) l4 c4 (keep_fn l4)
  have g4 := PySem.W.mg_of X G a4
  have b4 := U4.binds (ps := ["parts"]) fun _ _ _ _ _ _ us hl => match us, hl with | [_], _ => rfl
  have U5 := fun_mk (st := s_integer_read) l5 c5 (keep_fn l5)
  have g5 := PySem.W.mg_of X G a5
  have b5 := U5.binds (ps := ["text"]) fun _ _ _ _ _ _ us hl => match us, hl with | [_], _ => rfl
  have U6 := fun_mk (st := s_number_read) l6 c6 (keep_fn l6)
  have g6 := PySem.W.mg_of X G a6
  have b6 := U6.binds (ps := ["text", "many"]) fun _ _ _ _ _ _ us hl => match us, hl with | [_, _], _ => rfl
  have U7 := fun_mk (st := s_numbers_read) l7 c7 (keep_fn l7)
  have g7 := PySem.W.mg_of X G a7
  have b7 := U7.binds (ps := ["words", "many"]) fun _ _ _ _ _ _ us hl => match us, hl with | [_, _], _ => rfl
  have U8 := fun_mk (st := s_text_parts) l8 c8 (keep_fn l8)
  have g8 := PySem.W.mg_of X G a8
  have b8 := U8.binds (ps := ["word", "text"]) fun _ _ _ _ _ _ us hl => match us, hl with | [_, _], _ => rfl
  obtain ⟨_, U9⟩ := D9
  have g9 := PySem.W.mg_of X G a9
  obtain ⟨dW9, vW9, b9⟩ := U9.binds1 (ps := ["word", "text", "node_of", "most"]) 3 0 (by simp) rfl (fun T kV doc pm an cdv ct us its h1 h2 => match us, its, h1, h2 with | [a0, a1, a2], [d0], _, _ => ⟨_, rfl, rfl⟩)
  have U10 := fun_mk (st := s_has_head) l10 c10 (keep_fn l10)
  have g10 := PySem.W.mg_of X G a10
  have b10 := U10.binds (ps := ["thing"]) fun _ _ _ _ _ _ us hl => match us, hl with | [_], _ => rfl
  obtain ⟨_, U11⟩ := D11
  have g11 := PySem.W.mg_of X G a11
  obtain ⟨dW11, vW11, b11⟩ := U11.binds1 (ps := ["letters", "nodes", "is_node", "word", "most"]) 3 0 (by simp) rfl (fun T kV doc pm an cdv ct us its h1 h2 => match us, its, h1, h2 with | [a0, a1, a2], [d0, d1], _, _ => ⟨_, rfl, rfl⟩)
  have U12 := fun_mk (st := s_is_deed) l12 c12 (keep_fn l12)
  have g12 := PySem.W.mg_of X G a12
  have b12 := U12.binds (ps := ["letters", "deed", "many"]) fun _ _ _ _ _ _ us hl => match us, hl with | [_, _, _], _ => rfl
  have U13 := fun_mk (st := s_are_places) l13 c13 (keep_fn l13)
  have g13 := PySem.W.mg_of X G a13
  have b13 := U13.binds (ps := ["thing", "length", "many"]) fun _ _ _ _ _ _ us hl => match us, hl with | [_, _, _], _ => rfl
  have U14 := fun_mk (st := s_deed_line) l14 c14 (keep_fn l14)
  have g14 := PySem.W.mg_of X G a14
  have b14 := U14.binds (ps := ["deed"]) fun _ _ _ _ _ _ us hl => match us, hl with | [_], _ => rfl
  have U15 := fun_mk (st := s_deed_read) l15 c15 (keep_fn l15)
  have g15 := PySem.W.mg_of X G a15
  have b15 := U15.binds (ps := ["letters", "line", "many"]) fun _ _ _ _ _ _ us hl => match us, hl with | [_, _, _], _ => rfl
  have U16 := fun_mk (st := s__law_deck) l16 c16 (keep_fn l16)
  have g16 := PySem.W.mg_of X G a16
  have b16 := U16.binds (ps := ["_law_script"]) fun _ _ _ _ _ _ us hl => match us, hl with | [_], _ => rfl
  have U17 := fun_mk (st := s__law_draw) l17 c17 (keep_fn l17)
  have g17 := PySem.W.mg_of X G a17
  have b17 := U17.binds (ps := ["_law_deck_here", "_law_below"]) fun _ _ _ _ _ _ us hl => match us, hl with | [_, _], _ => rfl
  have U18 := fun_mk (st := s__law_pick) l18 c18 (keep_fn l18)
  have g18 := PySem.W.mg_of X G a18
  have b18 := U18.binds (ps := ["_law_deck_here", "_law_some"]) fun _ _ _ _ _ _ us hl => match us, hl with | [_, _], _ => rfl
  have U19 := fun_mk (st := s__law_are_letters) l19 c19 (keep_fn l19)
  have g19 := PySem.W.mg_of X G a19
  have b19 := U19.binds (ps := ["_law_thing"]) fun _ _ _ _ _ _ us hl => match us, hl with | [_], _ => rfl
  have U20 := fun_mk (st := s__law_is_below) l20 c20 (keep_fn l20)
  have g20 := PySem.W.mg_of X G a20
  have b20 := U20.binds (ps := ["_law_thing", "_law_many"]) fun _ _ _ _ _ _ us hl => match us, hl with | [_, _], _ => rfl
  have U21 := fun_mk (st := s__law_program) l21 c21 (keep_fn l21)
  have g21 := PySem.W.mg_of X G a21
  have b21 := U21.binds (ps := ["_law_deck_here", "_law_letters_a", "_law_most"]) fun _ _ _ _ _ _ us hl => match us, hl with | [_, _, _], _ => rfl
  have U22 := fun_mk (st := s__law_is_deed) l22 c22 (keep_fn l22)
  have g22 := PySem.W.mg_of X G a22
  have b22 := U22.binds (ps := ["_law_letters_a", "_law_size", "_law_thing"]) fun _ _ _ _ _ _ us hl => match us, hl with | [_, _, _], _ => rfl
  have U23 := fun_mk (st := s__law_fault) l23 c23 (keep_fn l23)
  have g23 := PySem.W.mg_of X G a23
  have b23 := U23.binds (ps := ["_law_letters_a", "_law_deeds_a"]) fun _ _ _ _ _ _ us hl => match us, hl with | [_, _], _ => rfl
  have U24 := fun_mk (st := s__law_text) l24 c24 (keep_fn l24)
  have g24 := PySem.W.mg_of X G a24
  have b24 := U24.binds (ps := ["_law_letters_a", "_law_deeds_a"]) fun _ _ _ _ _ _ us hl => match us, hl with | [_, _], _ => rfl
  have U25 := fun_mk (st := s__law_place) l25 c25 (keep_fn l25)
  have g25 := PySem.W.mg_of X G a25
  have b25 := U25.binds (ps := ["_law_word", "_law_size"]) fun _ _ _ _ _ _ us hl => match us, hl with | [_, _], _ => rfl
  have U26 := fun_mk (st := s__law_is_line) l26 c26 (keep_fn l26)
  have g26 := PySem.W.mg_of X G a26
  have b26 := U26.binds (ps := ["_law_letters_a", "_law_size", "_law_line"]) fun _ _ _ _ _ _ us hl => match us, hl with | [_, _, _], _ => rfl
  have U27 := fun_mk (st := s__law_bad_line) l27 c27 (keep_fn l27)
  have g27 := PySem.W.mg_of X G a27
  have b27 := U27.binds (ps := ["_law_page"]) fun _ _ _ _ _ _ us hl => match us, hl with | [_], _ => rfl
  have U28 := fun_mk (st := s__law_odd) l28 c28 (keep_fn l28)
  have g28 := PySem.W.mg_of X G a28
  have b28 := U28.binds (ps := ["_law_deck_here", "_law_it"]) fun _ _ _ _ _ _ us hl => match us, hl with | [_, _], _ => rfl
  have U29 := fun_mk (st := s__law_bent) l29 c29 (keep_fn l29)
  have g29 := PySem.W.mg_of X G a29
  have b29 := U29.binds (ps := ["_law_deck_here", "_law_it"]) fun _ _ _ _ _ _ us hl => match us, hl with | [_, _], _ => rfl
  have U30 := fun_mk (st := s__law_bent_text) l30 c30 (keep_fn l30)
  have g30 := PySem.W.mg_of X G a30
  have b30 := U30.binds (ps := ["_law_deck_here", "_law_page"]) fun _ _ _ _ _ _ us hl => match us, hl with | [_, _], _ => rfl
  have U31 := fun_mk (st := s__law_made) l31 c31 (keep_fn l31)
  have g31 := PySem.W.mg_of X G a31
  have b31 := U31.binds (ps := ["_law_letters_a", "_law_deeds_a", "_law_is_named"]) fun _ _ _ _ _ _ us hl => match us, hl with | [_, _, _], _ => rfl
  have U32 := fun_mk (st := s__law_heard) l32 c32 (keep_fn l32)
  have g32 := PySem.W.mg_of X G a32
  have b32 := U32.binds (ps := ["_law_page", "_law_is_named"]) fun _ _ _ _ _ _ us hl => match us, hl with | [_, _], _ => rfl
  have U33 := fun_mk (st := s__law_is_like) l33 c33 (keep_fn l33)
  have g33 := PySem.W.mg_of X G a33
  have b33 := U33.binds (ps := ["_law_it", "_law_letters_a", "_law_deeds_a"]) fun _ _ _ _ _ _ us hl => match us, hl with | [_, _, _], _ => rfl
  have U34 := fun_mk (st := s__law_read_right) l34 c34 (keep_fn l34)
  have g34 := PySem.W.mg_of X G a34
  have b34 := U34.binds (ps := ["_law_deck_here", "_law_page"]) fun _ _ _ _ _ _ us hl => match us, hl with | [_, _], _ => rfl
  have U35 := fun_mk (st := s__law_bent_right) l35 c35 (keep_fn l35)
  have g35 := PySem.W.mg_of X G a35
  have b35 := U35.binds (ps := ["_law_deck_here", "_law_it", "_law_letters_a", "_law_deeds_a"]) fun _ _ _ _ _ _ us hl => match us, hl with | [_, _, _, _], _ => rfl
  have U36 := fun_mk (st := s_law) l36 c36 (keep_fn l36)
  have g36 := PySem.W.mg_of X G a36
  have b36 := U36.binds (ps := ["_law_script"]) fun _ _ _ _ _ _ us hl => match us, hl with | [_], _ => rfl
  have gCR := PySem.W.mg_of X G aR
  have Uinit := fun_mk (st := s_Program___init__) linit cinit (keep_fn linit)
  have binit := Uinit.binds (ps := ["self", "letters", "deeds"]) fun _ _ _ _ _ _ us hl => match us, hl with | [_, _, _], _ => rfl
  have Minit : Meth K CR "__init__" finit := ⟨minit.1, minit.2, keep_fn linit⟩
  have Ueq := fun_mk (st := s_Program___eq__) leq ceq (keep_fn leq)
  have beq := Ueq.binds (ps := ["self", "other"]) fun _ _ _ _ _ _ us hl => match us, hl with | [_, _], _ => rfl
  have Meq : Meth K CR "__eq__" feq := ⟨meq.1, meq.2, keep_fn leq⟩
  have Ust := fun_mk (st := s_Program___str__) lst cst (keep_fn lst)
  have bst := Ust.binds (ps := ["self"]) fun _ _ _ _ _ _ us hl => match us, hl with | [_], _ => rfl
  have Mst : Meth K CR "__str__" fst := ⟨mst.1, mst.2, keep_fn lst⟩
  have Uln := fun_mk (st := s_Program___len__) lln cln (keep_fn lln)
  have bln := Uln.binds (ps := ["self"]) fun _ _ _ _ _ _ us hl => match us, hl with | [_], _ => rfl
  have Mln : Meth K CR "__len__" fln := ⟨mln.1, mln.2, keep_fn lln⟩
  have gCT := PySem.W.mg_of X G aT
  have YT : ClsF K CM CT := ⟨xT, gaT, ggT, caT⟩
  have TT : MqE_part.Txt K mg "BadProgram" "BadProgram.__init__" CT FT := ⟨gCT, YT.at_.keep, YT.at_.init, YT.at_.over, YT.at_.has, NoAttr.taker ntT, wsT, wiT, (by simp [PySem.W.typeIn, lET]), YT.base, YT.at_.ty, _, _, _, _, _, _, _, _, _, _, _, _, _, _, lET, cET⟩
  have gCL := PySem.W.mg_of X G aL
  have YL : ClsF K CM CL := ⟨xL, gaL, ggL, caL⟩
  have TL : MqE_line.Txt K mg "BadText" "BadText.__init__" CL FL := ⟨gCL, YL.at_.keep, YL.at_.init, YL.at_.over, YL.at_.has, NoAttr.taker ntL, wsL, wiL, (by simp [PySem.W.typeIn, lEL]), YL.base, YL.at_.ty, _, _, _, _, _, _, _, _, _, _, _, _, _, _, lEL, cEL⟩
  have Urdm := fun_mk (st := s_Program_read) lrdm crdm (keep_fn lrdm)
  have brdm := Urdm.binds (ps := ["cls", "text"]) fun _ _ _ _ _ _ us hl => match us, hl with | [_, _], _ => rfl
  refine ⟨PySem.W.fnOf "law" "law" (defArgs s_law) (defBody s_law) (defScope s_law) .none kV36 dc36 pm36 an36 cd36 ct36, fun s u => .of_eq rfl, fun base _ _ => ?_⟩
  have RC : PgC K CR := ⟨⟨owR.1, owR.2.1, owR.2.2.1, saR⟩, nR_letters, nR_deeds⟩
  have MK : Mk K CR finit := ⟨owR.2.2.2.1, minit.1, minit.2, owR.2.2.2.2⟩
  have EQ : EqT K mg CR := ⟨gCR, fun H a dx fs e => .base (.ins e RC.cls caR sp tk moR), kiR, oeR⟩
  have ET : ErrP K mg CT CM FT := ⟨TT, YT.xf, ntT, YT.held sp tk, PySem.W.mg_of X G aM, YT.at_.mill mill.1 mill.2, exm_own YT⟩
  have EL : ErrL K mg CL CM FL := ⟨TL, YL.xf, ntL, YL.held sp tk, PySem.W.mg_of X G aM, YL.at_.mill mill.1 mill.2, exm_own YL⟩
  obtain ⟨tA, aA⟩ := t_ALPHABET
  obtain ⟨tD, aD⟩ := t_DIGITS
  obtain ⟨tF, aF⟩ := i_MOST_FIGURES
  obtain ⟨tP, aP⟩ := i_MOST_PLACES
  have mp : ∃ t, mg "MOST_PLACES" = some (.int 999 t) := ⟨tP, PySem.W.mg_of X G aP⟩
  obtain ⟨dw5, vw5, bw5⟩ := U11.binds1 (ps := ["letters", "nodes", "is_node", "word", "most"]) 5 2 (by simp) rfl (fun T kV doc pm an cdv ct us its h1 h2 => match us, its, h1, h2 with | [a0, a1, a2, a3, a4], [d0, d1], _, _ => ⟨_, rfl, rfl⟩)
  cases vw5
  obtain ⟨dn4, vn4, bn4⟩ := U9.binds1 (ps := ["word", "text", "node_of", "most"]) 4 1 (by simp) rfl (fun T kV doc pm an cdv ct us its h1 h2 => match us, its, h1, h2 with | [a0, a1, a2, a3], [d0], _, _ => ⟨_, rfl, rfl⟩)
  cases vn4
  have kI : KBn K _ ["self", "letters", "deeds"] 1 ["deeds", "letters"] app2r app2r := kbn_1r2 Uinit fun _ _ _ _ _ _ _ _ _ => rfl
  have kR : KBn K _ ["cls", "text"] 1 ["text"] app2 app2 := kbn_11 Urdm fun _ _ _ _ _ _ _ _ => rfl
  have Glets : FnOk P w K mg base CX0 2 f0 _ ["thing"] (spLetters K) := ok_is_letters U0 B U4 g4 b4 ⟨tA, PySem.W.mg_of X G aA⟩
  have Gbel : FnOk P w K mg base CX0 2 f3 _ ["thing", "many"] (spBelowA K) := ok_is_belowA U3 B U2 g2 b2
  have Gnod : FnOk P w K mg base CX0 4 f12 _ ["letters", "deed", "many"] (spDeedA K) := ok_is_deedA U12 B U10 g10 b10 U1 g1 b1 U3 g3 b3 U13 g13 b13 Gbel
  have Gwro : FnOk P w K mg base CX0 5 f11 _ ["letters", "nodes", "is_node", "word", "most"] (spWrongA K f12) := ok_wrong_partA U11 B U0 g0 b0 Glets U12 b12 Gnod
  have Gini : FnOk P w K mg base (L2.CX P w) 6 finit _ ["self", "letters", "deeds"] (spInitA K CR CT) := ok_initA Uinit RC U11.kp g11 bw5 g12 mp Gwro TT
  have Geq : FnOk P w K mg base CX0 3 feq _ ["self", "other"] (spEqA K CR) := ok_eq Ueq B RC EQ
  have Glin : FnOk P w K mg base CX0 1 f14 _ ["deed"] (spDeedLine K) := ok_deed_line U14 B
  have Gstr : FnOk P w K mg base CX0 2 fst _ ["self"] (spStr K CR) := ok_str Ust RC U14 g14 b14 Glin
  have Glen : FnOk P w K mg base CX0 1 fln _ ["self"] (spLen K CR) := ok_len Uln B RC
  have Gint : FnOk P w K mg base CX0 1 f5 _ ["text"] spNum := ok_integer U5 B ⟨tD, PySem.W.mg_of X G aD⟩ ⟨tF, PySem.W.mg_of X G aF⟩
  have Gnum : FnOk P w K mg base CX0 2 f6 _ ["text", "many"] spNumRd := ok_number_read U6 B U5 g5 b5 Gint
  have Gnms : FnOk P w K mg base CX0 3 f7 _ ["words", "many"] (spNumsRd K) := ok_numbers_read U7 B U6 g6 b6 Gnum
  have Gndr : FnOk P w K mg base CX0 5 f15 _ ["letters", "line", "many"] (spDeedRead K) := ok_deed_read U15 B U7 g7 b7 Gnms U12 g12 b12 Gnod
  have Gtp : FnOk P w K mg base (L2.CX P w) 3 f8 _ ["word", "text"] (spTextParts K CL) := ok_text_parts U8 B U0 g0 b0 Glets TL
  have Gnsr : FnOk P w K mg base (L2.CX P w) 6 f9 _ ["word", "text", "node_of", "most"] (spNodesRd K CL f15) := ok_nodes_read U9 B U8 g8 b8 Gtp U15 b15 Gndr TL
  have Grdm : FnOk P w K mg base (L2.CX P w) 8 frdm _ ["cls", "text"] (spRead K CR CL) := ok_read Urdm B U9.kp g9 bn4 mp g15 Gnsr MK binit Gini
  have Gdec : FnOk P w K mg base CX0 1 f16 _ ["_law_script"] (spDeck K) := ok_deck U16 B
  have Gdra : FnOk P w K mg base CX0 1 f17 _ ["_law_deck_here", "_law_below"] spDraw := ok_draw U17 B
  have Gpic : FnOk P w K mg base CX0 2 f18 _ ["_law_deck_here", "_law_some"] spPick := ok_pick U18 B U17 g17 b17
  have Gpro : FnOk P w K mg base CX0 3 f21 _ ["_law_deck_here", "_law_letters_a", "_law_most"] (spProg K) := ok_program U21 B n_min U17 g17 b17 U18 g18 b18
  have Gare : FnOk P w K mg base CX0 1 f19 _ ["_law_thing"] (spAre K) := ok_are U19 B n_sorted n_set
  have Gisd : FnOk P w K mg base CX0 2 f22 _ ["_law_letters_a", "_law_size", "_law_thing"] (spLawDeed K) := ok_law_deed U22 B U20 g20 b20
  have Gfau : FnOk P w K mg base CX0 3 f23 _ ["_law_letters_a", "_law_deeds_a"] (spFault K) := ok_fault U23 B U19 g19 b19 Gare U22 g22 b22 Gisd
  have Gtxt : FnOk P w K mg base CX0 1 f24 _ ["_law_letters_a", "_law_deeds_a"] (spText K) := ok_text U24 B
  have Glne : FnOk P w K mg base CX0 2 f26 _ ["_law_letters_a", "_law_size", "_law_line"] (spIsLine K) := ok_is_line U26 B U25 g25 b25
  have Gbad : FnOk P w K mg base CX0 3 f27 _ ["_law_page"] (spBadLine K) := ok_bad_line U27 B U19 g19 b19 Gare U26 g26 b26 Glne
  have Godd : FnOk P w K mg base CX0 3 f28 _ ["_law_deck_here", "_law_it"] (spOdd K) := ok_odd U28 B U18 g18 b18 Gpic
  have Gben : ∀ k : Nat, FnOk P w K mg base CX0 (4 + k) f29 _ ["_law_deck_here", "_law_it"] (spBent K k) := ok_bent U29 B U17 g17 b17 Gdra U28 g28 b28 Godd g29 b29
  have Gbtx : FnOk P w K mg base CX0 3 f30 _ ["_law_deck_here", "_law_page"] spBentText := ok_bent_text U30 B U17 g17 b17 Gdra U18 g18 b18 Gpic
  have Gmad : FnG P w K mg base CX0 9 f31 _ ["_law_letters_a", "_law_deeds_a", "_law_is_named"] (spMade K CR) := ok_made U31 B ET gCR MK binit kI Gini
  have Gher : FnG P w K mg base CX0 10 f32 _ ["_law_page", "_law_is_named"] (spHeard K CR) := ok_heard (CR := CR) U32 B EL gCR rdR cmrdm brdm kR Grdm
  have Glik : FnG P w K mg base CX0 3 f33 _ ["_law_it", "_law_letters_a", "_law_deeds_a"] (spLike K CR) := ok_like U33 B RC Mln bln Glen
  have Grr : FnG P w K mg base CX0 11 f34 _ ["_law_deck_here", "_law_page"] (spReadRight K) := ok_read_right U34 B U27 g27 b27 Gbad U32 g32 b32 Gher U30 g30 b30 Gbtx U18 g18 b18 Gpic Meq beq Geq Mst bst Gstr
  have Gbr : FnG P w K mg base CX0 11 f35 _ ["_law_deck_here", "_law_it", "_law_letters_a", "_law_deeds_a"] (spBentRight K CR) := ok_bent_right U35 B EQ ktR_list U17 g17 b17 Gdra U28 g28 b28 Godd U29 g29 b29 Gben U23 g23 b23 Gfau U31 g31 b31 Gmad U33 g33 b33 Glik Meq beq Geq
  exact ok_law U36 B RC EQ ktR_list MK binit Gini rdR cmrdm brdm Grdm Mst bst Gstr Meq beq Geq Mln bln Glen U16 g16 b16 Gdec U17 g17 b17 Gdra U18 g18 b18 Gpic U21 g21 b21 Gpro U31 g31 b31 Gmad U33 g33 b33 Glik U24 g24 b24 Gtxt U34 g34 b34 Grr U35 g35 b35 Gbr U32 g32 b32 Gher
end Lw

namespace Lw
open PySem PySem.Spec PyProof.Rows L2 Mq
open SX (S)
def fnL : List He.FnD := [⟨("Program", some "__init__"), "__init__", "Program.__init__", defArgs s_Program___init__, defBody s_Program___init__, defScope s_Program___init__⟩,
  ⟨("Program", some "__eq__"), "__eq__", "Program.__eq__", defArgs s_Program___eq__, defBody s_Program___eq__, defScope s_Program___eq__⟩,
  ⟨("Program", some "__str__"), "__str__", "Program.__str__", defArgs s_Program___str__, defBody s_Program___str__, defScope s_Program___str__⟩,
  ⟨("Program", some "__len__"), "__len__", "Program.__len__", defArgs s_Program___len__, defBody s_Program___len__, defScope s_Program___len__⟩,
  ⟨("BadProgram", some "__init__"), "__init__", "BadProgram.__init__", MqE_part.iA ⟨10, 17, 10, 21⟩ ⟨10, 23, 10, 27⟩, MqE_part.iB ⟨11, 8, 11, 12⟩ ⟨11, 8, 11, 17⟩ ⟨11, 20, 11, 24⟩ ⟨11, 8, 11, 24⟩, MqE_part.iS⟩,
  ⟨("BadText", some "__init__"), "__init__", "BadText.__init__", MqE_line.iA ⟨6, 17, 6, 21⟩ ⟨6, 23, 6, 27⟩, MqE_line.iB ⟨7, 8, 7, 12⟩ ⟨7, 8, 7, 17⟩ ⟨7, 20, 7, 24⟩ ⟨7, 8, 7, 24⟩, MqE_line.iS⟩,
  ⟨("is_letters", none), "is_letters", "is_letters", defArgs s_is_letters, defBody s_is_letters, defScope s_is_letters⟩,
  ⟨("is_letter", none), "is_letter", "is_letter", defArgs s_is_letter, defBody s_is_letter, defScope s_is_letter⟩,
  ⟨("is_number", none), "is_number", "is_number", defArgs s_is_number, defBody s_is_number, defScope s_is_number⟩,
  ⟨("is_below", none), "is_below", "is_below", defArgs s_is_below, defBody s_is_below, defScope s_is_below⟩,
  ⟨("is_ascending", none), "is_ascending", "is_ascending", defArgs s_is_ascending, defBody s_is_ascending, defScope s_is_ascending⟩,
  ⟨("integer_read", none), "integer_read", "integer_read", defArgs s_integer_read, defBody s_integer_read, defScope s_integer_read⟩,
  ⟨("number_read", none), "number_read", "number_read", defArgs s_number_read, defBody s_number_read, defScope s_number_read⟩,
  ⟨("numbers_read", none), "numbers_read", "numbers_read", defArgs s_numbers_read, defBody s_numbers_read, defScope s_numbers_read⟩,
  ⟨("text_parts", none), "text_parts", "text_parts", defArgs s_text_parts, defBody s_text_parts, defScope s_text_parts⟩,
  ⟨("has_head", none), "has_head", "has_head", defArgs s_has_head, defBody s_has_head, defScope s_has_head⟩,
  ⟨("is_deed", none), "is_deed", "is_deed", defArgs s_is_deed, defBody s_is_deed, defScope s_is_deed⟩,
  ⟨("are_places", none), "are_places", "are_places", defArgs s_are_places, defBody s_are_places, defScope s_are_places⟩,
  ⟨("deed_line", none), "deed_line", "deed_line", defArgs s_deed_line, defBody s_deed_line, defScope s_deed_line⟩,
  ⟨("deed_read", none), "deed_read", "deed_read", defArgs s_deed_read, defBody s_deed_read, defScope s_deed_read⟩,
  ⟨("_law_deck", none), "_law_deck", "_law_deck", defArgs s__law_deck, defBody s__law_deck, defScope s__law_deck⟩,
  ⟨("_law_draw", none), "_law_draw", "_law_draw", defArgs s__law_draw, defBody s__law_draw, defScope s__law_draw⟩,
  ⟨("_law_pick", none), "_law_pick", "_law_pick", defArgs s__law_pick, defBody s__law_pick, defScope s__law_pick⟩,
  ⟨("_law_are_letters", none), "_law_are_letters", "_law_are_letters", defArgs s__law_are_letters, defBody s__law_are_letters, defScope s__law_are_letters⟩,
  ⟨("_law_is_below", none), "_law_is_below", "_law_is_below", defArgs s__law_is_below, defBody s__law_is_below, defScope s__law_is_below⟩,
  ⟨("_law_program", none), "_law_program", "_law_program", defArgs s__law_program, defBody s__law_program, defScope s__law_program⟩,
  ⟨("_law_is_deed", none), "_law_is_deed", "_law_is_deed", defArgs s__law_is_deed, defBody s__law_is_deed, defScope s__law_is_deed⟩,
  ⟨("_law_fault", none), "_law_fault", "_law_fault", defArgs s__law_fault, defBody s__law_fault, defScope s__law_fault⟩,
  ⟨("_law_text", none), "_law_text", "_law_text", defArgs s__law_text, defBody s__law_text, defScope s__law_text⟩,
  ⟨("_law_place", none), "_law_place", "_law_place", defArgs s__law_place, defBody s__law_place, defScope s__law_place⟩,
  ⟨("_law_is_line", none), "_law_is_line", "_law_is_line", defArgs s__law_is_line, defBody s__law_is_line, defScope s__law_is_line⟩,
  ⟨("_law_bad_line", none), "_law_bad_line", "_law_bad_line", defArgs s__law_bad_line, defBody s__law_bad_line, defScope s__law_bad_line⟩,
  ⟨("_law_odd", none), "_law_odd", "_law_odd", defArgs s__law_odd, defBody s__law_odd, defScope s__law_odd⟩,
  ⟨("_law_bent", none), "_law_bent", "_law_bent", defArgs s__law_bent, defBody s__law_bent, defScope s__law_bent⟩,
  ⟨("_law_bent_text", none), "_law_bent_text", "_law_bent_text", defArgs s__law_bent_text, defBody s__law_bent_text, defScope s__law_bent_text⟩,
  ⟨("_law_made", none), "_law_made", "_law_made", defArgs s__law_made, defBody s__law_made, defScope s__law_made⟩,
  ⟨("_law_heard", none), "_law_heard", "_law_heard", defArgs s__law_heard, defBody s__law_heard, defScope s__law_heard⟩,
  ⟨("_law_is_like", none), "_law_is_like", "_law_is_like", defArgs s__law_is_like, defBody s__law_is_like, defScope s__law_is_like⟩,
  ⟨("_law_read_right", none), "_law_read_right", "_law_read_right", defArgs s__law_read_right, defBody s__law_read_right, defScope s__law_read_right⟩,
  ⟨("_law_bent_right", none), "_law_bent_right", "_law_bent_right", defArgs s__law_bent_right, defBody s__law_bent_right, defScope s__law_bent_right⟩,
  ⟨("law", none), "law", "law", defArgs s_law, defBody s_law, defScope s_law⟩]
def fs0 : List (PySem.W.Frag → Bool) := [fGlo "MillError",
  fMill,
  fSp,
  fTk,
  fGlo "Program",
  fOwn "Program",
  fFind "Program" "__setattr__" (some (.builtin "object.__setattr__")),
  fFind "Program" "__class__" (some (.builtin "object.__class__")),
  fMro "Program",
  fKit "Program" "Program" true,
  fFind "Program" "letters" none,
  fFind "Program" "deeds" none,
  fMeth "Program" "__init__",
  fMeth "Program" "__eq__",
  fMeth "Program" "__str__",
  fMeth "Program" "__len__",
  fGlo "BadProgram",
  fCls "BadProgram",
  fFind "BadProgram" "__getattribute__" (some (.builtin "BaseException.__getattribute__")),
  fFind "BadProgram" "__getattr__" none,
  fFind "BadProgram" "__class__" (some (.builtin "object.__class__")),
  fFind "BadProgram" "__setattr__" (some (.builtin "object.__setattr__")),
  fFind "BadProgram" "part" none,
  fInit "BadProgram",
  fFn "BadProgram",
  fGlo "BadText",
  fCls "BadText",
  fFind "BadText" "__getattribute__" (some (.builtin "BaseException.__getattribute__")),
  fFind "BadText" "__getattr__" none,
  fFind "BadText" "__class__" (some (.builtin "object.__class__"))]
def fs1 : List (PySem.W.Frag → Bool) := [fFind "BadText" "__setattr__" (some (.builtin "object.__setattr__")),
  fFind "BadText" "line" none,
  fInit "BadText",
  fFn "BadText",
  fRead "Program",
  fCm "Program" "read",
  fCmc "Program" "read" "Program.read",
  fInt "MOST_FIGURES" 4300,
  fInt "MOST_PLACES" 999,
  fOwnEq "Program",
  fKitT "Program" "list" false,
  fGlo "is_letters",
  fGlo "is_letter",
  fGlo "is_number",
  fGlo "is_below",
  fGlo "is_ascending",
  fGlo "integer_read",
  fGlo "number_read",
  fGlo "numbers_read",
  fGlo "text_parts",
  fGlo "nodes_read",
  fGlo "has_head",
  fGlo "wrong_part",
  fGlo "is_deed",
  fGlo "are_places",
  fGlo "deed_line",
  fGlo "deed_read",
  fGlo "_law_deck",
  fGlo "_law_draw",
  fGlo "_law_pick"]
def fs2 : List (PySem.W.Frag → Bool) := [fGlo "_law_are_letters",
  fGlo "_law_is_below",
  fGlo "_law_program",
  fGlo "_law_is_deed",
  fGlo "_law_fault",
  fGlo "_law_text",
  fGlo "_law_place",
  fGlo "_law_is_line",
  fGlo "_law_bad_line",
  fGlo "_law_odd",
  fGlo "_law_bent",
  fGlo "_law_bent_text",
  fGlo "_law_made",
  fGlo "_law_heard",
  fGlo "_law_is_like",
  fGlo "_law_read_right",
  fGlo "_law_bent_right",
  fGlo "law",
  fFree "len",
  fFree "range",
  fFree "isinstance",
  fFree "all",
  fFree "any",
  fFree "int",
  fFree "str",
  fFree "bool",
  fFree "tuple",
  fFree "list",
  fFree "repr",
  fFree "enumerate"]
def fs3 : List (PySem.W.Frag → Bool) := [fFree "sorted",
  fFree "set",
  fFree "min",
  fTxt "ALPHABET" "abcdefghijklmnopqrstuvwxyz",
  fTxt "DIGITS" "0123456789"]
def fsL : List (PySem.W.Frag → Bool) := fs0 ++ fs1 ++ fs2 ++ fs3
def prL : List He.FnD := [⟨("Program", some "read"), "read", "Program.read", defArgs s_Program_read, defBody s_Program_read, defScope s_Program_read⟩]
def dfL : List He.DefD := [⟨("nodes_read", none), "nodes_read", "nodes_read", defArgs s_nodes_read, defBody s_nodes_read, defScope s_nodes_read, [.non], []⟩,
  ⟨("wrong_part", none), "wrong_part", "wrong_part", defArgs s_wrong_part, defBody s_wrong_part, defScope s_wrong_part, [.str "nodes", .non], []⟩]
theorem facts {P : Program} {w : World} {K : PySem.W.Frag} {h : Heap} {mg : Str → Option Value} {fa : Addr} (X : K.In h) (G : h.Ns mainGlobals mg) (hfa : mg ("law" : Str) = some (.ref fa)) (c : He.SaysE [] fnL K) (hx : exB fsL K = true) (hp : prL.map (fun d => cmObs K d.at_) = prL.map He.FnD.val) (hd : He.SaysD [] dfL K) :
    ∃ fd : FuncData, (∀ (s : Shared) (u : Value), BindsTo s fd ⟨[u], []⟩ [("_law_script", u)]) ∧ ∀ base : Heap, K.In base → base.Ns mainGlobals mg → FnG P w K mg base CX0 12 fa fd ["_law_script"] (spLaw K) := by
  obtain ⟨_, _, _, _, _, _, _, _, _, linit, cinit⟩ := c.def_ 0 rfl
  obtain ⟨_, _, _, _, _, _, _, _, _, leq, ceq⟩ := c.def_ 1 rfl
  obtain ⟨_, _, _, _, _, _, _, _, _, lst, cst⟩ := c.def_ 2 rfl
  obtain ⟨_, _, _, _, _, _, _, _, _, lln, cln⟩ := c.def_ 3 rfl
  obtain ⟨_, _, _, _, _, _, _, _, _, lET, cET⟩ := c.def_ 4 rfl
  obtain ⟨rfl, rfl⟩ := fnB_ok (exAt hx 24 (f := fFn "BadProgram") rfl) lET
  obtain ⟨_, _, _, _, _, _, _, _, _, lEL, cEL⟩ := c.def_ 5 rfl
  obtain ⟨rfl, rfl⟩ := fnB_ok (exAt hx 33 (f := fFn "BadText") rfl) lEL
  obtain ⟨_, _, _, _, _, _, _, _, _, l0, c0⟩ := c.def_ 6 rfl
  obtain ⟨_, _, _, _, _, _, _, _, _, l1, c1⟩ := c.def_ 7 rfl
  obtain ⟨_, _, _, _, _, _, _, _, _, l2, c2⟩ := c.def_ 8 rfl
  obtain ⟨_, _, _, _, _, _, _, _, _, l3, c3⟩ := c.def_ 9 rfl
  obtain ⟨_, _, _, _, _, _, _, _, _, l4, c4⟩ := c.def_ 10 rfl
  obtain ⟨_, _, _, _, _, _, _, _, _, l5, c5⟩ := c.def_ 11 rfl
  obtain ⟨_, _, _, _, _, _, _, _, _, l6, c6⟩ := c.def_ 12 rfl
  obtain ⟨_, _, _, _, _, _, _, _, _, l7, c7⟩ := c.def_ 13 rfl
  obtain ⟨_, _, _, _, _, _, _, _, _, l8, c8⟩ := c.def_ 14 rfl
  obtain ⟨_, _, _, _, _, _, _, _, _, l10, c10⟩ := c.def_ 15 rfl
  obtain ⟨_, _, _, _, _, _, _, _, _, l12, c12⟩ := c.def_ 16 rfl
  obtain ⟨_, _, _, _, _, _, _, _, _, l13, c13⟩ := c.def_ 17 rfl
  obtain ⟨_, _, _, _, _, _, _, _, _, l14, c14⟩ := c.def_ 18 rfl
  obtain ⟨_, _, _, _, _, _, _, _, _, l15, c15⟩ := c.def_ 19 rfl
  obtain ⟨_, _, _, _, _, _, _, _, _, l16, c16⟩ := c.def_ 20 rfl
  obtain ⟨_, _, _, _, _, _, _, _, _, l17, c17⟩ := c.def_ 21 rfl
  obtain ⟨_, _, _, _, _, _, _, _, _, l18, c18⟩ := c.def_ 22 rfl
  obtain ⟨_, _, _, _, _, _, _, _, _, l19, c19⟩ := c.def_ 23 rfl
  obtain ⟨_, _, _, _, _, _, _, _, _, l20, c20⟩ := c.def_ 24 rfl
  obtain ⟨_, _, _, _, _, _, _, _, _, l21, c21⟩ := c.def_ 25 rfl
  obtain ⟨_, _, _, _, _, _, _, _, _, l22, c22⟩ := c.def_ 26 rfl
  obtain ⟨_, _, _, _, _, _, _, _, _, l23, c23⟩ := c.def_ 27 rfl
  obtain ⟨_, _, _, _, _, _, _, _, _, l24, c24⟩ := c.def_ 28 rfl
  obtain ⟨_, _, _, _, _, _, _, _, _, l25, c25⟩ := c.def_ 29 rfl
  obtain ⟨_, _, _, _, _, _, _, _, _, l26, c26⟩ := c.def_ 30 rfl
  obtain ⟨_, _, _, _, _, _, _, _, _, l27, c27⟩ := c.def_ 31 rfl
  obtain ⟨_, _, _, _, _, _, _, _, _, l28, c28⟩ := c.def_ 32 rfl
  obtain ⟨_, _, _, _, _, _, _, _, _, l29, c29⟩ := c.def_ 33 rfl
  obtain ⟨_, _, _, _, _, _, _, _, _, l30, c30⟩ := c.def_ 34 rfl
  obtain ⟨_, _, _, _, _, _, _, _, _, l31, c31⟩ := c.def_ 35 rfl
  obtain ⟨_, _, _, _, _, _, _, _, _, l32, c32⟩ := c.def_ 36 rfl
  obtain ⟨_, _, _, _, _, _, _, _, _, l33, c33⟩ := c.def_ 37 rfl
  obtain ⟨_, _, _, _, _, _, _, _, _, l34, c34⟩ := c.def_ 38 rfl
  obtain ⟨_, _, _, _, _, _, _, _, _, l35, c35⟩ := c.def_ 39 rfl
  obtain ⟨_, _, _, _, _, _, _, _, _, l36, c36⟩ := c.def_ 40 rfl
  obtain ⟨_, _, _, _, _, _, _, _, _, lrdm⟩ := cm_def hp 0 rfl
  have crdm := cmc_of (exAt hx 36 (f := fCmc "Program" "read" "Program.read") rfl) lrdm
  exact all_mk X G hfa (glo_of (exAt hx 0 (f := fGlo "MillError") rfl)) (mill_of (exAt hx 1 (f := fMill) rfl)) (sp_of (exAt hx 2 (f := fSp) rfl)) (tk_of (exAt hx 3 (f := fTk) rfl)) (glo_of (exAt hx 4 (f := fGlo "Program") rfl)) (own_of (exAt hx 5 (f := fOwn "Program") rfl)) (find_of (exAt hx 6 (f := fFind "Program" "__setattr__" (some (.builtin "object.__setattr__"))) rfl)) (find_of (exAt hx 7 (f := fFind "Program" "__class__" (some (.builtin "object.__class__"))) rfl)) (mro_of (exAt hx 8 (f := fMro "Program") rfl)) (kit_of (exAt hx 9 (f := fKit "Program" "Program" true) rfl)) (find_of (exAt hx 10 (f := fFind "Program" "letters" none) rfl)) (find_of (exAt hx 11 (f := fFind "Program" "deeds" none) rfl)) (meth_of (exAt hx 12 (f := fMeth "Program" "__init__") rfl)) linit cinit (meth_of (exAt hx 13 (f := fMeth "Program" "__eq__") rfl)) leq ceq (meth_of (exAt hx 14 (f := fMeth "Program" "__str__") rfl)) lst cst (meth_of (exAt hx 15 (f := fMeth "Program" "__len__") rfl)) lln cln (glo_of (exAt hx 16 (f := fGlo "BadProgram") rfl)) (cls_of (exAt hx 17 (f := fCls "BadProgram") rfl)) (find_of (exAt hx 18 (f := fFind "BadProgram" "__getattribute__" (some (.builtin "BaseException.__getattribute__"))) rfl)) (find_of (exAt hx 19 (f := fFind "BadProgram" "__getattr__" none) rfl)) (find_of (exAt hx 20 (f := fFind "BadProgram" "__class__" (some (.builtin "object.__class__"))) rfl)) (find_of (exAt hx 21 (f := fFind "BadProgram" "__setattr__" (some (.builtin "object.__setattr__"))) rfl)) (find_of (exAt hx 22 (f := fFind "BadProgram" "part" none) rfl)) (init_of (exAt hx 23 (f := fInit "BadProgram") rfl)) lET cET (glo_of (exAt hx 25 (f := fGlo "BadText") rfl)) (cls_of (exAt hx 26 (f := fCls "BadText") rfl)) (find_of (exAt hx 27 (f := fFind "BadText" "__getattribute__" (some (.builtin "BaseException.__getattribute__"))) rfl)) (find_of (exAt hx 28 (f := fFind "BadText" "__getattr__" none) rfl)) (find_of (exAt hx 29 (f := fFind "BadText" "__class__" (some (.builtin "object.__class__"))) rfl)) (find_of (exAt hx 30 (f := fFind "BadText" "__setattr__" (some (.builtin "object.__setattr__"))) rfl)) (find_of (exAt hx 31 (f := fFind "BadText" "line" none) rfl)) (init_of (exAt hx 32 (f := fInit "BadText") rfl)) lEL cEL (read_of (exAt hx 34 (f := fRead "Program") rfl)) (cm_of (exAt hx 35 (f := fCm "Program" "read") rfl)) lrdm crdm (int_of (exAt hx 37 (f := fInt "MOST_FIGURES" 4300) rfl)) (int_of (exAt hx 38 (f := fInt "MOST_PLACES" 999) rfl)) (ownEq_of (exAt hx 39 (f := fOwnEq "Program") rfl)) (kitT_of (exAt hx 40 (f := fKitT "Program" "list" false) rfl)) (glo_of (exAt hx 41 (f := fGlo "is_letters") rfl)) l0 c0 (glo_of (exAt hx 42 (f := fGlo "is_letter") rfl)) l1 c1 (glo_of (exAt hx 43 (f := fGlo "is_number") rfl)) l2 c2 (glo_of (exAt hx 44 (f := fGlo "is_below") rfl)) l3 c3 (glo_of (exAt hx 45 (f := fGlo "is_ascending") rfl)) l4 c4 (glo_of (exAt hx 46 (f := fGlo "integer_read") rfl)) l5 c5 (glo_of (exAt hx 47 (f := fGlo "number_read") rfl)) l6 c6 (glo_of (exAt hx 48 (f := fGlo "numbers_read") rfl)) l7 c7 (glo_of (exAt hx 49 (f := fGlo "text_parts") rfl)) l8 c8 (glo_of (exAt hx 50 (f := fGlo "nodes_read") rfl)) (hd.def_ 0 rfl) (glo_of (exAt hx 51 (f := fGlo "has_head") rfl)) l10 c10 (glo_of (exAt hx 52 (f := fGlo "wrong_part") rfl)) (hd.def_ 1 rfl) (glo_of (exAt hx 53 (f := fGlo "is_deed") rfl)) l12 c12 (glo_of (exAt hx 54 (f := fGlo "are_places") rfl)) l13 c13 (glo_of (exAt hx 55 (f := fGlo "deed_line") rfl)) l14 c14 (glo_of (exAt hx 56 (f := fGlo "deed_read") rfl)) l15 c15 (glo_of (exAt hx 57 (f := fGlo "_law_deck") rfl)) l16 c16 (glo_of (exAt hx 58 (f := fGlo "_law_draw") rfl)) l17 c17 (glo_of (exAt hx 59 (f := fGlo "_law_pick") rfl)) l18 c18 (glo_of (exAt hx 60 (f := fGlo "_law_are_letters") rfl)) l19 c19 (glo_of (exAt hx 61 (f := fGlo "_law_is_below") rfl)) l20 c20 (glo_of (exAt hx 62 (f := fGlo "_law_program") rfl)) l21 c21 (glo_of (exAt hx 63 (f := fGlo "_law_is_deed") rfl)) l22 c22 (glo_of (exAt hx 64 (f := fGlo "_law_fault") rfl)) l23 c23 (glo_of (exAt hx 65 (f := fGlo "_law_text") rfl)) l24 c24 (glo_of (exAt hx 66 (f := fGlo "_law_place") rfl)) l25 c25 (glo_of (exAt hx 67 (f := fGlo "_law_is_line") rfl)) l26 c26 (glo_of (exAt hx 68 (f := fGlo "_law_bad_line") rfl)) l27 c27 (glo_of (exAt hx 69 (f := fGlo "_law_odd") rfl)) l28 c28 (glo_of (exAt hx 70 (f := fGlo "_law_bent") rfl)) l29 c29 (glo_of (exAt hx 71 (f := fGlo "_law_bent_text") rfl)) l30 c30 (glo_of (exAt hx 72 (f := fGlo "_law_made") rfl)) l31 c31 (glo_of (exAt hx 73 (f := fGlo "_law_heard") rfl)) l32 c32 (glo_of (exAt hx 74 (f := fGlo "_law_is_like") rfl)) l33 c33 (glo_of (exAt hx 75 (f := fGlo "_law_read_right") rfl)) l34 c34 (glo_of (exAt hx 76 (f := fGlo "_law_bent_right") rfl)) l35 c35 (glo_of (exAt hx 77 (f := fGlo "law") rfl)) l36 c36 (free_of (exAt hx 78 (f := fFree "len") rfl)) (free_of (exAt hx 79 (f := fFree "range") rfl)) (free_of (exAt hx 80 (f := fFree "isinstance") rfl)) (free_of (exAt hx 81 (f := fFree "all") rfl)) (free_of (exAt hx 82 (f := fFree "any") rfl)) (free_of (exAt hx 83 (f := fFree "int") rfl)) (free_of (exAt hx 84 (f := fFree "str") rfl)) (free_of (exAt hx 85 (f := fFree "bool") rfl)) (free_of (exAt hx 86 (f := fFree "tuple") rfl)) (free_of (exAt hx 87 (f := fFree "list") rfl)) (free_of (exAt hx 88 (f := fFree "repr") rfl)) (free_of (exAt hx 89 (f := fFree "enumerate") rfl)) (free_of (exAt hx 90 (f := fFree "sorted") rfl)) (free_of (exAt hx 91 (f := fFree "set") rfl)) (free_of (exAt hx 92 (f := fFree "min") rfl)) (txt_of (exAt hx 93 (f := fTxt "ALPHABET" "abcdefghijklmnopqrstuvwxyz") rfl)) (txt_of (exAt hx 94 (f := fTxt "DIGITS" "0123456789") rfl))
end Lw

namespace Lw
open PySem PySem.W PySem.Calls PyProof.Rows Mq
abbrev RR : OpenRow := OpenLaw.row PySem.Challenge.rw_millhands_k41_programs_of_any_values
def nm0 : List PySem.Str := ["MillError", "BadText", "BadProgram", "is_letters", "is_letter", "is_number", "is_below", "is_ascending", "integer_read", "number_read", "numbers_read", "text_parts", "nodes_read", "has_head", "wrong_part", "Program", "is_deed", "are_places", "deed_line", "deed_read", "_law_deck", "_law_draw", "_law_pick", "_law_are_letters", "_law_is_below", "_law_program", "_law_is_deed", "_law_fault", "_law_text", "_law_place"]
def nm1 : List PySem.Str := ["_law_is_line", "_law_bad_line", "_law_odd", "_law_bent", "_law_bent_text", "_law_made", "_law_heard", "_law_is_like", "_law_read_right", "_law_bent_right", "ALPHABET", "DIGITS", "MOST_FIGURES", "MOST_PLACES"]
abbrev nmL : List PySem.Str := nm0 ++ nm1
abbrev hk : Hook := hookQ 5 fnL prL dfL fsL
def ob (s : SharedT) : AlQ := obsQ 5 fnL prL dfL fsL (HandSHeadRun.getT s)
theorem ob_eq (s : SharedT) : ob s = hk.obs s.abs := obsQ_eq (HandSHeadRun.getT_eq s)
theorem run (w : World) : HandSHeadRun.RunEq RR (view RR.prog [48]) hk ob 9600 nmL w := by
  intro os
  kernel_rfl
end Lw

open PySem PySem.W PySem.Calls PyProof.Rows
theorem PySem.Challenge.cw_millhands_k41_programs_of_any_values_holds : PySem.Challenge.rw_millhands_k41_programs_of_any_values.Holds := by
  w_on; o_law
  refine HandSHeadRun.head_any (r := OpenLaw.row PySem.Challenge.rw_millhands_k41_programs_of_any_values) (q := view (OpenLaw.row PySem.Challenge.rw_millhands_k41_programs_of_any_values).prog [48]) (H := Lw.hk) (ob := Lw.ob) (M := 9600) (loose := Lw.nmL) (d := HandSHeadRun.topDef (OpenLaw.row PySem.Challenge.rw_millhands_k41_programs_of_any_values).prog 48) (kwd := []) Lw.ob_eq
    (by kernel_rfl) (fun s => by kernel_rfl) Lw.run (by kernel_rfl) (by kernel_rfl) (by kernel_rfl) (by rfl) (by first | assumption | decide +kernel) (by decide +kernel) ⟨rfl, rfl, rfl, rfl, rfl, by decide +kernel⟩ ?hw ?hc
  case hw => w_witness2
  case hc =>
    refine Mq.walk_ofGE (l := PySem.Challenge.rw_millhands_k41_programs_of_any_values) (n := 63) (k := 12) (x := "_law_script") (CX := L2.CX0) rfl (by decide) (by kernel_rfl) ⟨rfl, by decide, by decide⟩ ?F (fun _ _ _ _ z => z)
    intro w mg fa h Y G hmg0
    obtain ⟨K, KX, c, hx, hpr, hdf⟩ := Y
    have hmg : mg ("law" : PySem.Str) = some (.ref fa) := by
      have e : (HandSHeadRun.topDef (OpenLaw.row PySem.Challenge.rw_millhands_k41_programs_of_any_values).prog 48).name = ("law" : PySem.Str) := by kernel_rfl
      rw [← e]
      exact hmg0
    obtain ⟨fd, hb, hF⟩ := Lw.facts (P := (PySem.Challenge.rw_millhands_k41_programs_of_any_values).prog) (w := w) KX G hmg c hx hpr hdf
    exact ⟨K, fd, Lw.spLaw K, KX, hb, fun H a ns hl _ hS => ⟨a, ns, rfl, hS, hl, fun _ => rfl⟩, hF⟩

